package purse_test

import (
	"math/rand/v2"
	"reflect"
	"slices"
	"strings"
	"sync"
	"testing"
	"unsafe"

	"lombard/api"
	"lombard/purse"
)

// scribble writes over all memory of lists.
func scribble(lists ...any) {
	for _, x := range lists {
		switch l := x.(type) {
		case []int:
			fill(l, 77)
		case []api.Due:
			fill(l, due(7, 77))
		case []api.Surplus:
			fill(l, surplus("x", 77, 77))
		case []api.Note:
			fill(l, note(77, 77, 77))
		case []api.Part:
			for _, y := range l[:cap(l)] {
				scribble(y.Dues)
			}
			fill(l, part("x", 77))
		case []api.Portion:
			for _, y := range l[:cap(l)] {
				scribble(y.Paid)
			}
			fill(l, portion(77, 77))
		}
	}
}

func fill[T any](l []T, x T) {
	for i := range l[:cap(l)] {
		l[:cap(l)][i] = x
	}
}

// spared is a list with memory behind it.
func spared[T any](l []T) []T { return append(make([]T, 0, len(l)+3), l...) }

// sparedParts are parts whose lists have memory behind them.
func sparedParts() []api.Part {
	l := spared(parts())
	for i := range l {
		l[i].Dues = spared(l[i].Dues)
	}
	return l
}

// isBare reports whether the memory behind a list is zero.
func isBare[T any](l []T) bool {
	return !slices.ContainsFunc(l[len(l):cap(l)], func(x T) bool { return !reflect.ValueOf(x).IsZero() })
}

// P7.8: arguments are not changed, nor the memory behind them
func TestArguments(t *testing.T) {
	w, l := spared([]int{6, 3, 1}), sparedParts()
	p := empty(t, 10)
	for _, sum := range []int{5, 11, 0, -1} {
		purse.Share(w, sum)
		purse.Spread(l[0].Dues, 17+sum)
		purse.Spread(l[0].Dues, 30)
		purse.Portions(10*sum, l)
		p.Give(0, w)
		p.Sell(0, -1, l)
	}
	must(t, p, sell(0, 40, l), give(0, w...), pass(10), give(10, w...))
	p.Give(10, w)
	p.Sell(10, 40, l)
	if !slices.Equal(w, []int{6, 3, 1}) || !reflect.DeepEqual(l, parts()) {
		t.Errorf("arguments are changed: %v, %v", w, l)
	}
	if !isBare(w) || !isBare(l) || !isBare(l[0].Dues) || !isBare(l[1].Dues) {
		t.Errorf("memory behind arguments is changed: %v, %v", w[:cap(w)], l[:cap(l)])
	}
}

// P7.8: results share no memory with arguments, nor with other results
func TestResults(t *testing.T) {
	w, l := spared([]int{6, 3, 1}), sparedParts()
	for _, sum := range []int{10, 40} {
		given := shared(t, w, sum)
		paid, _ := spread(t, l[0].Dues, sum)
		brought := portions(t, sum, l)
		wantGiven, wantPaid, wantBrought := slices.Clone(given), slices.Clone(paid), slowPortions(sum, parts())
		scribble(shared(t, w, sum))
		again, _ := spread(t, l[0].Dues, sum)
		scribble(again, portions(t, sum, l))
		if !slices.Equal(w, []int{6, 3, 1}) || !reflect.DeepEqual(l, parts()) {
			t.Fatalf("arguments share memory with results: %v, %v", w, l)
		}
		scribble(w, l)
		if !slices.Equal(given, wantGiven) || !slices.Equal(paid, wantPaid) || !samePortions(brought, wantBrought) {
			t.Errorf("results share memory: %v, %v, %v", given, paid, brought)
		}
		w, l = spared([]int{6, 3, 1}), sparedParts()
	}
}

// P7.8: no two lists of portions share memory
func TestApart(t *testing.T) {
	for i := range parts() {
		l := portions(t, 40, parts())
		_ = append(l[i].Paid, 77)
		scribble(l[i].Paid)
		for k, want := range portions(t, 40, parts()) {
			if k != i && !samePortion(l[k], want) {
				t.Errorf("the portions %d and %d share memory: %v", i, k, l)
			}
		}
	}
}

// P7.8: what is done to arguments and results later changes no purse
func TestPurseMemory(t *testing.T) {
	p, q := empty(t, 100), empty(t, 100)
	l, w := sparedParts(), spared([]int{1, 3})
	sold, e := p.Sell(7, 40, l)
	errs(t, "Sell", e, api.OK)
	scribble(sold, l, p.Surpluses(), p.Notes())
	must(t, q, sell(7, 40, parts()))
	stands(t, p, stateOf(t, q))
	surpluses, notes := p.Surpluses(), p.Notes()
	must(t, p, sell(8, 3, lot("cyd")), pay(8, "ada"), pass(107))
	must(t, q, sell(8, 3, lot("cyd")), pay(8, "ada"), pass(107))
	if !slices.Equal(surpluses, []api.Surplus{surplus("ada", 4, 7), surplus("bob", 5, 7)}) || !slices.Equal(notes, []api.Note{note(api.PurseSold, 7, 40)}) {
		t.Errorf("earlier results change: %v, %v", surpluses, notes)
	}
	given, e := p.Give(108, w)
	errs(t, "Give", e, api.OK)
	scribble(given, w, p.Surpluses(), p.Notes())
	must(t, q, give(108, 1, 3))
	stands(t, p, stateOf(t, q))
	must(t, p, pass(108), pass(109), sell(110, 3, lot("eve", "dan")))
	must(t, q, pass(108), pass(109), sell(110, 3, lot("eve", "dan")))
	stands(t, p, stateOf(t, q))
}

// P7.8: a purse keeps nothing of the memory of a name, which may be a part of a long text
func TestNames(t *testing.T) {
	long := strings.Repeat("ada", 1000)
	name := long[300:303]
	p := empty(t, 100)
	must(t, p, sell(7, 4, lot(name)))
	x, e := p.Owed(name)
	if x != surplus("ada", 4, 7) || e != api.OK {
		t.Errorf("Owed: %v, error %d", x, e)
	}
	for _, s := range append(p.Surpluses(), x) {
		if unsafe.StringData(s.Pledge) == unsafe.StringData(name) {
			t.Errorf("%v shares memory with the argument", s)
		}
	}
}

// P2: purses do not know of each other; the same calls have the same results, also at the same time
func TestSameResults(t *testing.T) {
	r := random(13)
	s := &slow{term: 9}
	var asks []ask
	var want []answer
	for range 300 {
		a := s.someAsk(r)
		asks, want = append(asks, a), append(want, s.do(a))
	}
	x, y := empty(t, 9), empty(t, 9)
	for i, a := range asks {
		if got := a.of(x); !got.is(want[i]) {
			t.Fatalf("%v: %v, want %v", a, got, want[i])
		}
		if i >= 40 {
			if got := asks[i-40].of(y); !got.is(want[i-40]) {
				t.Fatalf("%v of the other purse: %v, want %v", asks[i-40], got, want[i-40])
			}
		}
	}
	var group sync.WaitGroup
	for range 4 {
		group.Go(func() {
			z, _ := purse.New(9)
			for i, a := range asks {
				if got := a.of(z); !got.is(want[i]) {
					t.Errorf("%v at the same time: %v, want %v", a, got, want[i])
				}
			}
		})
	}
	group.Wait()
}

// P2: asking leaves no trace, nor do calls that fail
func TestNoTrace(t *testing.T) {
	p := start(t, 100)
	want := stateOf(t, p)
	for range 300 {
		refused(t, p, sell(900, 40, parts()), api.ErrPledge)
		refused(t, p, sell(900, 40, append(lot("cyd"), parts()[1])), api.ErrPledge)
		refused(t, p, pay(900, "ada"), api.ErrSurplus)
		refused(t, p, give(900), api.ErrShares)
		refused(t, p, pass(6), api.ErrDay)
		stands(t, p, want)
	}
	must(t, p, sell(7, 4, lot("cyd")), pay(7, "ada"))
}

// R3: a nil list and an empty one are the same
func TestNilAndEmpty(t *testing.T) {
	p := start(t, 100)
	for _, w := range [][]int{nil, {}} {
		refused(t, p, give(7, w...), api.ErrShares)
		if l, e := purse.Share(w, 0); len(l) > 0 || e != api.ErrShares {
			t.Errorf("Share: %v, error %d", l, e)
		}
	}
	for _, l := range [][]api.Part{nil, {}} {
		refused(t, p, sell(7, 40, l), api.ErrParts)
		if x, e := purse.Portions(40, l); len(x) > 0 || e != api.ErrParts {
			t.Errorf("Portions: %v, error %d", x, e)
		}
	}
	for _, dues := range [][]api.Due{nil, {}} {
		if paid, left := spread(t, dues, 7); len(paid) > 0 || left != 7 {
			t.Errorf("Spread: %v, %d", paid, left)
		}
		if l := portions(t, 7, []api.Part{part("ada", 1, dues...)}); len(l[0].Paid) > 0 || l[0].Left != 7 {
			t.Errorf("Portions: %v", l)
		}
	}
}

// anything returns functions that make up numbers, lists and texts of any kind.
func anything(r *rand.Rand) (some func() int, list func() []int, text func() string, dues func() []api.Due) {
	numbers := append(extremes(), -2, -1, 8, 9, 10, 24, 25, 12000, 12001, 36500, 36501, 1<<26, 1<<26+1, 1<<35, 1<<35+1)
	some = func() int {
		if r.IntN(5) > 0 {
			return r.IntN(5)
		}
		return numbers[r.IntN(len(numbers))]
	}
	list = func() []int {
		l := make([]int, r.IntN(3)*r.IntN(14))
		for i := range l {
			l[i] = some()
		}
		return l
	}
	text = func() string {
		return []string{"", "ada", "bob", "cyd", "dan", "eve", "A", "9", "a\x00", "\xff\xff", strings.Repeat("a", 17)}[r.IntN(11)]
	}
	dues = func() []api.Due {
		l := make([]api.Due, r.IntN(3)*r.IntN(3)*r.IntN(8))
		for i := range l {
			l[i] = due(some(), some())
		}
		return l
	}
	return some, list, text, dues
}

// P1: whatever the arguments are, no function panics, and with an error all else is zero
func TestAnyArguments(t *testing.T) {
	r := random(14)
	some, list, text, dues := anything(r)
	lots := func() []api.Part {
		l := make([]api.Part, r.IntN(3)*r.IntN(5))
		for i := range l {
			l[i] = part(text(), some(), dues()...)
		}
		return l
	}
	counts := map[bool]int{}
	p := start(t, 3)
	for i := range 40000 {
		if i%40 == 0 {
			p = start(t, 3)
		}
		l, e := purse.Share(list(), some())
		paid, left, e2 := purse.Spread(dues(), some())
		x, e3 := purse.Portions(some(), lots())
		y, e4 := purse.New(some())
		owed, e5 := p.Owed(text())
		a := ask{1 + r.IntN(4), some(), some(), lots(), text(), list()}
		if r.IntN(2) == 0 {
			a.day = p.Notes()[len(p.Notes())-1].Day
		}
		got := a.of(p)
		for k, z := range []struct {
			e    api.Errno
			zero bool
		}{{e, len(l) == 0}, {e2, len(paid) == 0 && left == 0}, {e3, len(x) == 0}, {e4, y == nil}, {e5, owed == api.Surplus{}}, {got.e, got.is(answer{e: got.e})}} {
			if z.e != api.OK && !z.zero {
				t.Fatalf("result %d with the error %d: %v, %v", k, z.e, a, got)
			}
			counts[z.e == api.OK]++
		}
	}
	if counts[true] < 20000 || counts[false] < 20000 {
		t.Errorf("only %v", counts)
	}
}
