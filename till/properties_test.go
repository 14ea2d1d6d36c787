package till_test

import (
	"math/rand/v2"
	"slices"
	"testing"

	"lombard/api"
	"lombard/till"
)

// P8.8: a payment pays its sum from what is there, and none has fewer pieces
func TestFewestPieces(t *testing.T) {
	r := random(11)
	paid := 0
	for range 500 {
		d, sum := someDrawer(r, 8, 1+r.IntN(50)), r.IntN(2001)
		l, e := till.Pay(d, sum)
		fewest := slowFewest(d, sum)[0][sum]
		if e == api.ErrNone && fewest == many {
			continue
		}
		if e != api.OK || worth(d.Coins, l) != sum || sumOf(l) != fewest || len(l) != len(d.Coins) {
			t.Fatalf("Pay(%v, %d): %v, error %d, the fewest are %d", d, sum, l, e, fewest)
		}
		for kind, n := range l {
			if n < 0 || n > d.Have[kind] {
				t.Fatalf("Pay(%v, %d): %v", d, sum, l)
			}
		}
		paid++
	}
	if paid < 100 {
		t.Errorf("only %d sums were paid", paid)
	}
}

// P8.8: after giving change the drawer has gained the price
func TestGain(t *testing.T) {
	r := random(12)
	changed := 0
	for range 2000 {
		d := someDrawer(r, 8, 1+r.IntN(20))
		given := somePieces(r, row(len(d.Coins), 1+r.IntN(10)))
		price := max(0, worth(d.Coins, given)-r.IntN(500))
		l, e := till.Change(d, given, price)
		if e != api.OK {
			continue
		}
		gain := 0
		for kind, n := range l {
			now := d.Have[kind] + given[kind] - n
			gain += (now - d.Have[kind]) * d.Coins[kind]
			if n < 0 || now < 0 {
				t.Fatalf("Change(%v, %v, %d): %v", d, given, price, l)
			}
		}
		if gain != price {
			t.Fatalf("Change(%v, %v, %d): %v: the drawer has gained %d", d, given, price, l, gain)
		}
		changed++
	}
	if changed < 200 {
		t.Errorf("only %d times change was given", changed)
	}
}

// finds checks that weighings find each case by what the scale shows.
func finds(t *testing.T, n int, plan [][]int) {
	t.Helper()
	for _, x := range slowCases(n, plan) {
		if coin, side, e := till.Judge(n, plan, x.shown); coin != x.coin || side != x.side || e != api.OK {
			t.Fatalf("Judge(%d, %v, %v): %d, %d, error %d, want %d, %d", n, plan, x.shown, coin, side, e, x.coin, x.side)
		}
	}
}

// P8.9: weighings that tell find the false coin
func TestFinds(t *testing.T) {
	for n := 3; n <= 12; n++ {
		finds(t, n, weighed(t, n))
	}
	r := random(13)
	for range 3000 {
		n := 3 + r.IntN(10)
		if plan := somePlan(r, n); told(t, n, plan) {
			finds(t, n, plan)
		}
	}
}

// allWeighings are all weighings of n coins.
func allWeighings(n int) [][]int {
	var all [][]int
	slowLists(row(n, 2), func(digits []int) {
		l := make([]int, n)
		for i, x := range digits {
			l[i] = x - 1
		}
		if sumOf(l) == 0 {
			all = append(all, l)
		}
	})
	return all
}

// P8.9: with fewer weighings nobody can: of three coins not with one, of more not with two
func TestFewestWeighings(t *testing.T) {
	for n := 3; n <= 7; n++ {
		all := allWeighings(n)
		for _, a := range all {
			if told(t, n, [][]int{a}) {
				t.Errorf("%v tells", a)
			}
			for _, b := range all {
				if n > 3 && told(t, n, [][]int{a, b}) {
					t.Errorf("%v and %v tell", a, b)
				}
			}
		}
	}
	// Of five coins and more there are more cases than two weighings have results.
	r := random(23)
	for range 20000 {
		n := 8 + r.IntN(5)
		if plan := somePlan(r, n); len(plan) < 3 && told(t, n, plan) {
			t.Errorf("%v tells", plan)
		}
	}
}

// reaches reports, by what Reasons returns, whether a dealing must be reported because of the sum of its window.
func (x desk) reaches(t *testing.T, k int) bool {
	t.Helper()
	x.w.Low = x.w.Sum // there are no small ones
	return len(x.reasons(t, k)) > 0
}

// cut cuts the dealing k into two of the same day.
func (x desk) cut(r *rand.Rand, k int) desk {
	d := x.l[k]
	part := 1 + r.IntN(d.Sum-1)
	x.l = slices.Concat(x.l[:k], []api.Dealing{dealing(d.Day, d.Person, part), dealing(d.Day, d.Person, d.Sum-part)}, x.l[k+1:])
	return x
}

// P8.10: if a dealing is cut into two, a window that reached the sum reaches it, by its last piece
func TestCut(t *testing.T) {
	r := random(14)
	reached := 0
	for range 1500 {
		x := someDesk(r, 12)
		for i, d := range x.l {
			if d.Sum == 1 {
				continue
			}
			y := x.cut(r, i)
			for k := range x.l {
				after := k
				if k >= i {
					after++
				}
				if x.reaches(t, k) {
					reached++
					if !y.reaches(t, after) {
						t.Fatalf("%v: %d reaches the sum; cut at %d, %d does not: %v", x, k, i, after, y)
					}
				}
			}
		}
	}
	if reached < 1000 {
		t.Errorf("only %d windows", reached)
	}
}

// P8.10: if a dealing is done by a linked person instead, nothing changes
func TestDoneByOther(t *testing.T) {
	r := random(15)
	others := 0
	for range 1500 {
		x := someDesk(r, 12)
		least := linked(t, x.links)
		y := x
		y.l = slices.Clone(x.l)
		for i, d := range y.l {
			for p := range 24 {
				if least[p] == least[d.Person] && p != d.Person && r.IntN(2) == 0 {
					y.l[i].Person = p
					others++
				}
			}
		}
		if a, b := alarmed(t, x), alarmed(t, y); !slices.Equal(a, b) {
			t.Fatalf("Alarms(%v): %v; by others %v: %v", x, a, y, b)
		}
		for k := range x.l {
			if a, b := x.reasons(t, k), y.reasons(t, k); !slices.Equal(a, b) {
				t.Fatalf("Reasons(%v, %d): %v; by others %v: %v", x, k, a, y, b)
			}
		}
	}
	if others < 500 {
		t.Errorf("only %d dealings were done by others", others)
	}
}

// P8.10: with more links whatever had to be reported must be reported, and the alarm of these persons comes with that dealing or before
func TestMoreLinks(t *testing.T) {
	r := random(16)
	reported := 0
	for range 2000 {
		x := someDesk(r, 14)
		y := x
		y.links = slices.Clone(x.links)
		for range 1 + r.IntN(3) {
			if a, b := r.IntN(24), 3*r.IntN(8); a != b {
				y.links = append(y.links, [2]int{a, b})
			}
		}
		least, alarms := linked(t, y.links), alarmed(t, y)
		for k, d := range x.l {
			if len(x.reasons(t, k)) == 0 {
				continue
			}
			reported++
			inTime := func(a api.Alarm) bool { return a.Person == least[d.Person] && a.Dealing <= k }
			if len(y.reasons(t, k)) == 0 || !slices.ContainsFunc(alarms, inTime) {
				t.Fatalf("%v: %d must be reported; not with more links: %v, %v", x, k, y, alarms)
			}
		}
	}
	if reported < 1000 {
		t.Errorf("only %d dealings", reported)
	}
}

// P8.4: an alarm for each persons of whom a dealing must be reported, with the first one, and by their persons
func TestFirstAlarms(t *testing.T) {
	r := random(17)
	for range 1500 {
		x := someDesk(r, 30)
		least := linked(t, x.links)
		var first [24]bool
		alarms := alarmed(t, x)
		for k, d := range x.l {
			if person := least[d.Person]; !first[person] && len(x.reasons(t, k)) > 0 {
				first[person] = true
				if !slices.ContainsFunc(alarms, func(a api.Alarm) bool { return a.Person == person && a.Dealing == k }) {
					t.Fatalf("Alarms(%v): %v: not %d of %d", x, alarms, k, person)
				}
			}
		}
		for i, a := range alarms {
			if !first[a.Person] || i > 0 && alarms[i-1].Person >= a.Person {
				t.Fatalf("Alarms(%v): %v", x, alarms)
			}
		}
	}
}

// P8.11: reasons are dealings of the window and reach the threshold, and no fewer dealings do; of as many, none that begin earlier
func TestThreshold(t *testing.T) {
	r := random(18)
	long := 0
	for range 800 {
		x := someDesk(r, 64)
		for k := range x.l {
			l, window := x.reasons(t, k), slowWindow(x, k)
			if x.sum(window) < x.w.Sum {
				if small := x.small(window); len(l) > 0 && (len(l) != x.w.Many || !slices.Equal(l, small[:len(l)])) {
					t.Fatalf("Reasons(%v, %d): %v, of %v", x, k, l, small)
				}
				continue
			}
			greatest := slices.Clone(window)
			slices.SortStableFunc(greatest, func(a, b int) int { return x.l[b].Sum - x.l[a].Sum })
			if x.sum(l) < x.w.Sum || x.sum(greatest[:len(l)-1]) >= x.w.Sum {
				t.Fatalf("Reasons(%v, %d): %v, of %v", x, k, l, greatest)
			}
			for i, n := range l {
				if !slices.Contains(window, n) || i > 0 && l[i-1] >= n {
					t.Fatalf("Reasons(%v, %d): %v", x, k, l)
				}
				// In the place of n comes an earlier one: then the greatest ones behind that are not enough.
				for _, m := range window {
					if m >= n || i > 0 && m <= l[i-1] {
						continue
					}
					behind := slices.DeleteFunc(slices.Clone(greatest), func(k int) bool { return k <= m })
					if others := min(len(l)-i-1, len(behind)); x.sum(l[:i])+x.l[m].Sum+x.sum(behind[:others]) >= x.w.Sum {
						t.Fatalf("Reasons(%v, %d): %v, but %d is earlier than %d", x, k, l, m, n)
					}
				}
			}
			if len(window) > 12 {
				long++
			}
		}
	}
	if long < 200 {
		t.Errorf("only %d long windows", long)
	}
}

// P8.12: the balances together are what was in all accounts
func TestNothingLost(t *testing.T) {
	r := random(19)
	for range 2000 {
		d := someBook(r, 16)
		if l := balanced(t, d); sumOf(l) != sumOf(d.Open) {
			t.Fatalf("Balance(%v): %v", d, l)
		}
	}
}

// P8.12: an explanation explains, and no shorter one does; if in all less or more was counted than there was, there is none
func TestExplanations(t *testing.T) {
	r := random(20)
	explained := 0
	for range 400 {
		d := someBook(r, 6)
		l, e := till.Explain(d)
		if sumOf(d.Counted) != sumOf(d.Open) && e != api.ErrNone {
			t.Fatalf("Explain(%v): %v, error %d", d, l, e)
		}
		all := slowExplanations(d)
		if e != api.OK {
			if len(all) > 0 {
				t.Fatalf("Explain(%v): error %d, but there is %v", d, e, all[0])
			}
			continue
		}
		if !slices.Equal(slowBalance(d, l), d.Counted) || len(l) > 3 {
			t.Fatalf("Explain(%v): %v", d, l)
		}
		for i, m := range l {
			sum := d.Postings[m.Posting].Sum
			if i > 0 && l[i-1].Posting >= m.Posting || m.Sum == sum || !slices.Contains(slowReally(sum), m.Sum) {
				t.Fatalf("Explain(%v): %v", d, l)
			}
		}
		for _, x := range all {
			if len(x) < len(l) {
				t.Fatalf("Explain(%v): %v, but there is %v", d, l, x)
			}
		}
		explained++
	}
	if explained < 150 {
		t.Errorf("only %d days were explained", explained)
	}
}
