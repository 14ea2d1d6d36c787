package till_test

import (
	"slices"
	"strconv"

	"lombard/api"
)

// The functions here are written anew from the definitions of the document, each as it is said there.

// slowLists calls visit with each list of numbers from 0 to those that are given.
func slowLists(most []int, visit func(l []int)) {
	l := make([]int, len(most))
	for {
		visit(l)
		i := 0
		for i < len(l) && l[i] == most[i] {
			l[i] = 0
			i++
		}
		if i == len(l) {
			return
		}
		l[i]++
	}
}

// slowPay is the best one of all payments.
func slowPay(d api.Drawer, sum int) ([]int, bool) {
	var best []int
	slowLists(d.Have, func(l []int) {
		if worth(d.Coins, l) != sum {
			return
		}
		if a, b := sumOf(l), sumOf(best); best == nil || a < b || a == b && slices.Compare(l, best) > 0 {
			best = slices.Clone(l)
		}
	})
	return best, best != nil
}

const many = 1 << 30

// slowFewest is, for each kind and each sum up to one, how few pieces of this kind and those behind it pay it. It is found piece by piece.
func slowFewest(d api.Drawer, sum int) [][]int {
	fewest := [][]int{append([]int{0}, row(sum, many)...)}
	for kind := len(d.Coins) - 1; kind >= 0; kind-- {
		l := slices.Clone(fewest[0])
		for range d.Have[kind] {
			for n := sum; n >= d.Coins[kind]; n-- {
				l[n] = min(l[n], 1+l[n-d.Coins[kind]])
			}
		}
		fewest = slices.Insert(fewest, 0, l)
	}
	return fewest
}

// slowPayment is the best payment that has as few pieces as are needed: of the first kinds as many as can be.
func slowPayment(d api.Drawer, sum int) ([]int, bool) {
	fewest := slowFewest(d, sum)
	if fewest[0][sum] >= many {
		return nil, false
	}
	var l []int
	for kind, coin := range d.Coins {
		n := d.Have[kind]
		for n*coin > sum || n+fewest[kind+1][sum-n*coin] != fewest[kind][sum] {
			n--
		}
		l = append(l, n)
		sum -= n * coin
	}
	return l, true
}

// slowResults is what the scale shows if a coin weighs something else than the others (3).
func slowResults(plan [][]int, coin, weight int) []int {
	var out []int
	for _, l := range plan {
		left, right := 0, 0
		for i, side := range l {
			w := 3
			if i == coin {
				w = weight
			}
			switch side {
			case -1:
				left += w
			case 1:
				right += w
			}
		}
		switch {
		case left > right:
			out = append(out, -1)
		case left < right:
			out = append(out, 1)
		default:
			out = append(out, 0)
		}
	}
	return out
}

// slowCase is a case: which coin is false, on which side, and what the scale shows then.
type slowCase struct {
	coin, side int
	shown      []int
}

func slowCases(n int, plan [][]int) []slowCase {
	l := []slowCase{{-1, 0, slowResults(plan, -1, 3)}}
	for coin := range n {
		l = append(l, slowCase{coin, 1, slowResults(plan, coin, 4)}, slowCase{coin, -1, slowResults(plan, coin, 2)})
	}
	return l
}

func slowTells(n int, plan [][]int) bool {
	l := slowCases(n, plan)
	for i, x := range l {
		for _, y := range l[:i] {
			if slices.Equal(x.shown, y.shown) {
				return false
			}
		}
	}
	return true
}

// slowSame tells of all persons who are linked.
func slowSame(links [][2]int) [24][24]bool {
	var same [24][24]bool
	for _, l := range links {
		same[l[0]][l[1]], same[l[1]][l[0]] = true, true
	}
	for a := range same {
		same[a][a] = true
	}
	for between := range same {
		for a := range same {
			for b := range same {
				if same[a][between] && same[between][b] {
					same[a][b] = true
				}
			}
		}
	}
	return same
}

func slowLinked(links [][2]int) []int {
	same := slowSame(links)
	var l []int
	for a := range same {
		l = append(l, slices.Index(same[a][:], true))
	}
	return l
}

// slowWindow is the indices of the window of a dealing.
func slowWindow(x desk, k int) []int {
	same := slowSame(x.links)
	var l []int
	for i := 0; i <= k; i++ {
		if i == k || same[x.l[i].Person][x.l[k].Person] && x.l[i].Day > x.l[k].Day-x.w.Days {
			l = append(l, i)
		}
	}
	return l
}

// sum is the sum of some dealings.
func (x desk) sum(l []int) int {
	n := 0
	for _, k := range l {
		n += x.l[k].Sum
	}
	return n
}

// small are the small ones of some dealings.
func (x desk) small(l []int) []int {
	var out []int
	for _, k := range l {
		if x.l[k].Sum >= x.w.Low && x.l[k].Sum <= x.w.Sum-1 {
			out = append(out, k)
		}
	}
	return out
}

func slowReported(x desk, k int) bool {
	l := slowWindow(x, k)
	return x.sum(l) >= x.w.Sum || len(x.small(l)) >= x.w.Many
}

func slowAlarms(x desk) []api.Alarm {
	least := slowLinked(x.links)
	first := map[int]int{}
	for k, d := range x.l {
		if _, ok := first[least[d.Person]]; !ok && slowReported(x, k) {
			first[least[d.Person]] = k
		}
	}
	var l []api.Alarm
	for person := range 24 {
		if k, ok := first[person]; ok {
			l = append(l, alarm(person, k, x.sum(slowWindow(x, k))))
		}
	}
	return l
}

// slowReasons are the best ones of all parts of a window; none, if the dealing must not be reported.
func slowReasons(x desk, k int) []int {
	window := slowWindow(x, k)
	if x.sum(window) < x.w.Sum {
		if l := x.small(window); len(l) >= x.w.Many {
			return l[:x.w.Many]
		}
		return nil
	}
	var best []int
	for set := range 1 << len(window) {
		var l []int
		for i, k := range window {
			if set>>i&1 == 1 {
				l = append(l, k)
			}
		}
		if x.sum(l) >= x.w.Sum && (best == nil || len(l) < len(best) || len(l) == len(best) && slices.Compare(l, best) < 0) {
			best = l
		}
	}
	return best
}

// slowBalance is the balances with other sums in the place of those of some postings.
func slowBalance(d api.DayBook, l []api.Mistake) []int {
	out := slices.Clone(d.Open)
	for i, p := range d.Postings {
		sum := p.Sum
		for _, m := range l {
			if m.Posting == i {
				sum = m.Sum
			}
		}
		for account := range out {
			switch account {
			case p.From:
				out[account] -= sum
			case p.To:
				out[account] += sum
			}
		}
	}
	return out
}

// slowReally is what a posting of a sum may really have been. The digits are swapped in a text.
func slowReally(sum int) []int {
	l := []int{0, sum + sum}
	text := strconv.Itoa(sum)
	for i := 0; i+1 < len(text); i++ {
		n, _ := strconv.Atoi(text[:i] + text[i+1:i+2] + text[i:i+1] + text[i+2:])
		if n != sum && !slices.Contains(l, n) {
			l = append(l, n)
		}
	}
	return l
}

// slowBetter compares two explanations.
func slowBetter(a, b []api.Mistake) bool {
	if len(a) != len(b) {
		return len(a) < len(b)
	}
	for i, m := range a {
		if m.Posting != b[i].Posting {
			return m.Posting < b[i].Posting
		}
		if m.Sum != b[i].Sum {
			return m.Sum < b[i].Sum
		}
	}
	return false
}

// slowExplanations are all explanations of a day.
func slowExplanations(d api.DayBook) [][]api.Mistake {
	var all [][]api.Mistake
	var visit func(l []api.Mistake, posting int)
	visit = func(l []api.Mistake, posting int) {
		if posting == len(d.Postings) {
			if slices.Equal(slowBalance(d, l), d.Counted) {
				all = append(all, slices.Clone(l))
			}
			return
		}
		visit(l, posting+1)
		if len(l) < 3 {
			for _, sum := range slowReally(d.Postings[posting].Sum) {
				visit(append(slices.Clone(l), mistake(posting, sum)), posting+1)
			}
		}
	}
	visit(nil, 0)
	return all
}

// slowExplain is the best one of all explanations.
func slowExplain(d api.DayBook) ([]api.Mistake, bool) {
	all := slowExplanations(d)
	if len(all) == 0 {
		return nil, false
	}
	best := all[0]
	for _, l := range all {
		if slowBetter(l, best) {
			best = l
		}
	}
	return best, true
}
