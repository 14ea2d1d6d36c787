package purse_test

import (
	"math/bits"
	"math/rand/v2"
	"slices"
	"testing"

	"lombard/api"
	"lombard/purse"
)

// someGreat are a few random weights, and a random sum, both of any size.
func someGreat(r *rand.Rand) ([]int, int) {
	w := someWeights(r, 24, []int{1, 5, 100, 1 << 26}[r.IntN(4)])
	return w, r.IntN(1 + api.MaxShared>>r.IntN(36))
}

// P7.1, P7.9: all is shared out; nobody gets less than their part, rounded down; a weight 0 gets nothing; none gets more than its weight, if the sum is not greater than that of the weights
func TestParts(t *testing.T) {
	r := random(6)
	for range 10000 {
		w, sum := someGreat(r)
		l, all := shared(t, w, sum), sumOf(w)
		if sumOf(l) != sum {
			t.Fatalf("Share(%v, %d): %v are %d", w, sum, l, sumOf(l))
		}
		for i, n := range l {
			hi, lo := bits.Mul64(uint64(sum), uint64(w[i]))
			least, _ := bits.Div64(hi, lo, uint64(all))
			if n < int(least) || w[i] == 0 && n != 0 || sum <= all && n > w[i] {
				t.Fatalf("Share(%v, %d): %v: %d of %d", w, sum, l, n, i)
			}
		}
	}
}

// P7.9: with a greater sum nobody gets less
func TestGreaterSum(t *testing.T) {
	r := random(7)
	for range 10000 {
		w, sum := someGreat(r)
		more := sum + 1
		if r.IntN(2) == 0 {
			more += r.IntN(api.MaxShared - sum)
		}
		l, m := shared(t, w, sum), shared(t, w, min(more, api.MaxShared))
		for i := range l {
			if m[i] < l[i] {
				t.Fatalf("%v: %v of %d, %v of %d", w, l, sum, m, more)
			}
		}
	}
}

// P7.9: with a greater weight the same one does not get less, and no other one more
func TestGreaterWeight(t *testing.T) {
	r := random(8)
	for range 10000 {
		w, sum := someGreat(r)
		i := r.IntN(len(w))
		v := slices.Clone(w)
		v[i] = min(v[i]+1+r.IntN(1+w[r.IntN(len(w))]), api.MaxDue)
		l, m := shared(t, w, sum), shared(t, v, sum)
		for k := range l {
			if k == i && m[k] < l[k] || k != i && m[k] > l[k] {
				t.Fatalf("%d: %v among %v, %v among %v", sum, l, w, m, v)
			}
		}
	}
}

// P7.10: what some get together, shared out among these alone, is what each of them gets
func TestAmongSome(t *testing.T) {
	r := random(9)
	for range 10000 {
		w, sum := someGreat(r)
		l := shared(t, w, sum)
		var some, have []int
		for i := range w {
			if r.IntN(2) == 0 {
				some, have = append(some, w[i]), append(have, l[i])
			}
		}
		if sumOf(some) == 0 { // they are no weights, and have nothing
			continue
		}
		if m := shared(t, some, sumOf(have)); !slices.Equal(m, have) {
			t.Fatalf("%v have %v of %d among %v; among themselves they have %v", some, have, sum, w, m)
		}
	}
}

// isSpread checks that a sum was spread: what P7.11 says.
func isSpread(t *testing.T, dues []api.Due, sum int, paid []int, left int) {
	t.Helper()
	if sumOf(paid)+left != sum || left < 0 || len(paid) != len(dues) {
		t.Fatalf("%d over %v: %v and %d", sum, dues, paid, left)
	}
	for i, d := range dues {
		if paid[i] < 0 || paid[i] > d.Amount || left > 0 && paid[i] < d.Amount {
			t.Fatalf("%d over %v: %v, left %d", sum, dues, paid, left)
		}
		for k, x := range dues {
			if x.Rank > d.Rank && paid[k] > 0 && paid[i] < d.Amount {
				t.Fatalf("%d over %v: %v: %d is paid before %d", sum, dues, paid, k, i)
			}
		}
	}
}

// P7.11: all is paid or left, by ranks, and nobody is paid more than is due
func TestRanks(t *testing.T) {
	r := random(10)
	for range 10000 {
		dues := someDues(r, 24, []int{1, 10, 1 << 26}[r.IntN(3)])
		sum := someSum(r, dues)
		paid, left := spread(t, dues, sum)
		isSpread(t, dues, sum, paid, left)
		if paid, left = spread(t, dues, api.MaxShared); left == 0 {
			t.Fatalf("the greatest sum is not enough for %v", dues)
		}
		isSpread(t, dues, api.MaxShared, paid, left)
	}
}

// P7.12: all that a lot brought is in its portions
func TestLotsToTheCent(t *testing.T) {
	r := random(11)
	for range 4000 {
		l, price := someParts(r, 0, 8), r.IntN(1+api.MaxDue>>r.IntN(27))
		all := 0
		for i, x := range portions(t, price, l) {
			isSpread(t, l[i].Dues, x.Price, x.Paid, x.Left)
			all += x.Price
		}
		if all != price {
			t.Fatalf("%v brought %d; the portions are %d", l, price, all)
		}
	}
}

// watched is what was told of a purse by its calls.
type watched struct {
	term       int
	since      map[string]int // of each surplus
	how        map[string]int // what became of it
	left, paid int
	given      int
}

// watch takes note of a call that had no error, and checks what must not happen.
func (w *watched) watch(t *testing.T, a ask, got answer) {
	t.Helper()
	switch a.kind {
	case api.PurseSold:
		for i, x := range got.portions {
			w.left += x.Left
			if x.Left > 0 {
				w.since[a.parts[i].Pledge], w.how[a.parts[i].Pledge] = a.day, api.SurplusHeld
			}
		}
	case api.PursePaid:
		w.paid += got.sum
		if w.how[a.pledge] != api.SurplusHeld || a.day >= w.since[a.pledge]+w.term || a.day < w.since[a.pledge] {
			t.Fatalf("%v: it was held since %d, in the state %d", a, w.since[a.pledge], w.how[a.pledge])
		}
		w.how[a.pledge] = api.SurplusPaid
	case api.PursePassed:
		for s, how := range w.how {
			if how == api.SurplusHeld && w.since[s]+w.term <= a.day {
				w.how[s] = api.SurplusPassed
			}
		}
	default:
		w.given += sumOf(got.given)
	}
}

// check checks that each surplus became of what was told, and that no cent is lost.
func (w *watched) check(t *testing.T, p *purse.Purse) {
	t.Helper()
	l := p.Surpluses()
	held, passed := 0, 0
	for _, x := range l {
		if x.State != w.how[x.Pledge] || x.Day != w.since[x.Pledge] {
			t.Fatalf("%v: it was held since %d, in the state %d", x, w.since[x.Pledge], w.how[x.Pledge])
		}
		switch x.State {
		case api.SurplusHeld:
			held += x.Sum
		case api.SurplusPassed:
			passed += x.Sum
		}
	}
	waits, welfare, e := p.Holds()
	if e != api.OK || len(l) != len(w.how) || waits != held || welfare != passed-w.given || w.left != w.paid+waits+welfare+w.given {
		t.Fatalf("left %d, paid %d, waits %d, welfare %d, given %d, error %d", w.left, w.paid, waits, welfare, w.given, e)
	}
}

// P7.12, P7.13: each surplus is paid once, or passes once, or is held; what was left of all lots is what was paid, what is held, and what was given away
func TestPurseToTheCent(t *testing.T) {
	r := random(12)
	seen := map[int]int{}
	for range 600 {
		term := r.IntN(5) * r.IntN(6)
		p, s := empty(t, term), &slow{term: term}
		w := &watched{term: term, since: map[string]int{}, how: map[string]int{}}
		for range r.IntN(80) {
			a := s.someAsk(r)
			s.do(a)
			if got := a.of(p); got.e == api.OK {
				w.watch(t, a, got)
			}
			w.check(t, p)
		}
		for _, x := range p.Surpluses() {
			seen[x.State]++
		}
		if s.given > 0 {
			seen[0]++
		}
		if s.earned != w.left || s.paid != w.paid || s.given != w.given {
			t.Fatalf("left %d, paid %d, given %d; want %d, %d, %d", w.left, w.paid, w.given, s.earned, s.paid, s.given)
		}
	}
	for state := range 4 {
		if seen[state] < 100 {
			t.Errorf("the state %d was seen %d times only", state, seen[state])
		}
	}
}
