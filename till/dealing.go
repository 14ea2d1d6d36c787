package till

import (
	"cmp"
	"iter"
	"slices"

	"lombard/api"
)

func isPerson(n int) bool { return within(n, 0, api.MaxPersons-1) }

func isSum(n int) bool { return within(n, 1, api.MaxSum) }

func isLink(l [2]int) bool { return isPerson(l[0]) && isPerson(l[1]) && l[0] != l[1] }

func areLinks(l [][2]int) bool { return len(l) <= api.MaxLinks && all(l, isLink) }

func isDealing(d api.Dealing) bool {
	return within(d.Day, 0, api.MaxDay) && isPerson(d.Person) && isSum(d.Sum)
}

func areDealings(l []api.Dealing) bool {
	byDay := func(a, b api.Dealing) int { return cmp.Compare(a.Day, b.Day) }
	return len(l) <= api.MaxDealings && all(l, isDealing) && slices.IsSortedFunc(l, byDay)
}

func isWatch(w api.Watch) bool {
	return within(w.Days, 1, api.MaxWindow) && isSum(w.Sum) && within(w.Low, 1, w.Sum) && within(w.Many, 1, api.MaxDealings)
}

// leaders are, for each person, the least one with whom they are linked.
type leaders [api.MaxPersons]int

func linked(links [][2]int) leaders {
	const nobody = -1
	var least leaders
	for person := range least {
		least[person] = nobody
	}
	var reach func(person, leader int)
	reach = func(person, leader int) {
		if least[person] != nobody {
			return
		}
		least[person] = leader
		for _, l := range links {
			switch person {
			case l[0]:
				reach(l[1], leader)
			case l[1]:
				reach(l[0], leader)
			}
		}
	}
	for person := range least {
		reach(person, person)
	}
	return least
}

// Linked returns, for each person, the least one with whom they are linked.
func Linked(links [][2]int) ([]int, api.Errno) {
	if !areLinks(links) {
		return nil, api.ErrDealing
	}
	least := linked(links)
	return least[:], api.OK
}

// desk is dealings, a watch over them, and who is linked.
type desk struct {
	api.Watch
	dealings []api.Dealing
	least    leaders
}

// deskOf checks dealings, links and a watch.
func deskOf(l []api.Dealing, links [][2]int, w api.Watch) (desk, api.Errno) {
	if !areDealings(l) || !areLinks(links) || !isWatch(w) {
		return desk{}, api.ErrDealing
	}
	return desk{Watch: w, dealings: l, least: linked(links)}, api.OK
}

// leader returns the least one of the persons of a dealing.
func (d desk) leader(k int) int { return d.least[d.dealings[k].Person] }

func (d desk) sumOf(k int) int { return d.dealings[k].Sum }

func (d desk) isSmall(k int) bool { return within(d.sumOf(k), d.Low, d.Sum-1) }

// window yields the indices of the window of a dealing, increasing.
func (d desk) window(k int) iter.Seq[int] {
	return func(yield func(int) bool) {
		for i := range k + 1 {
			inTime := d.dealings[i].Day > d.dealings[k].Day-d.Days
			if inTime && d.leader(i) == d.leader(k) && !yield(i) {
				return
			}
		}
	}
}

// view is the indices of a window, those of the small ones in it, and the sum of all.
type view struct {
	all, small []int
	sum        int
}

func (d desk) view(k int) view {
	var v view
	for i := range d.window(k) {
		v.all = append(v.all, i)
		if d.isSmall(i) {
			v.small = append(v.small, i)
		}
	}
	v.sum = total(v.all, d.sumOf)
	return v
}

// isReported reports whether a dealing with this window must be reported.
func (d desk) isReported(v view) bool { return v.sum >= d.Sum || len(v.small) >= d.Many }

// Alarms returns the first dealings that must be reported.
func Alarms(l []api.Dealing, links [][2]int, w api.Watch) ([]api.Alarm, api.Errno) {
	d, e := deskOf(l, links, w)
	if e != api.OK {
		return nil, e
	}
	var alarms []api.Alarm
	for person := range api.MaxPersons {
		for k := range l {
			if d.leader(k) != person {
				continue
			}
			if v := d.view(k); d.isReported(v) {
				alarms = append(alarms, api.Alarm{Person: person, Dealing: k, Sum: v.sum})
				break
			}
		}
	}
	return alarms, api.OK
}

// greatest returns the sum of the greatest ones of some dealings, so many of them.
func (d desk) greatest(indices []int, many int) int {
	sums := each(indices, d.sumOf)
	slices.SortFunc(sums, func(a, b int) int { return cmp.Compare(b, a) })
	return total(sums[:min(many, len(sums))], itself)
}

// fewest returns the first ones of the fewest dealings of a window that reach the sum of the watch.
func (d desk) fewest(window []int) []int {
	many := 1
	for d.greatest(window, many) < d.Sum {
		many++
	}
	var chosen []int
	for i, k := range window {
		others := many - len(chosen) - 1
		if others < 0 {
			break
		}
		// A dealing is chosen if those behind it can make up for what is still missing.
		if total(chosen, d.sumOf)+d.sumOf(k)+d.greatest(window[i+1:], others) >= d.Sum {
			chosen = append(chosen, k)
		}
	}
	return chosen
}

// Reasons returns the dealings for which one must be reported.
func Reasons(l []api.Dealing, links [][2]int, w api.Watch, k int) ([]int, api.Errno) {
	d, e := deskOf(l, links, w)
	if e != api.OK {
		return nil, e
	}
	if !within(k, 0, len(l)-1) {
		return nil, api.ErrRange
	}
	switch v := d.view(k); {
	case v.sum >= d.Sum:
		return d.fewest(v.all), api.OK
	case d.isReported(v):
		return v.small[:d.Many], api.OK
	}
	return nil, api.ErrNone
}
