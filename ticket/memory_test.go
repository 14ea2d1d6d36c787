package ticket_test

import (
	"reflect"
	"slices"
	"sync"
	"testing"

	"lombard/api"
	"lombard/ticket"
)

// scribble writes over all memory of tickets, events, numbers and codes.
func scribble(results ...any) {
	for _, x := range results {
		switch l := x.(type) {
		case []api.Ticket:
			for i := range l[:cap(l)] {
				scribble(l[:cap(l)][i].Edge)
				l[:cap(l)][i] = api.Ticket{Number: 77}
			}
		case []api.Event:
			for i := range l[:cap(l)] {
				l[:cap(l)][i] = api.Event{Kind: 77}
			}
		case []int:
			for i := range l[:cap(l)] {
				l[:cap(l)][i] = 7
			}
		case [][]int:
			for i := range l[:cap(l)] {
				scribble(l[:cap(l)][i])
				l[:cap(l)][i] = nil
			}
		case []string:
			for i := range l[:cap(l)] {
				l[:cap(l)][i] = "77"
			}
		}
	}
}

// P3.7: what is done to arguments and results later changes no roll
func TestRollMemory(t *testing.T) {
	r, s := roll(t, 10), long(t)
	edge, changed := one(), other()
	must(t, r, issue(3, "ada", edge))
	scribble(edge)
	half := torn()
	must(t, r, block(5, first), free(6, first, half), block(7, first), issue(9, "bob", other()), replace(17, first, changed))
	scribble(half, changed)
	pledges, edges, whole := []string{"cyd", "dan", "eve"}, rows(3), other()
	codes, e := r.Divide(second, whole, pledges, edges, 18)
	errs(t, "Divide", e, api.OK)
	scribble(codes, pledges, edges, whole)
	must(t, r, redeem(20, third, other()), forfeit(21, "0000000583"), block(21, "0000000680"))
	line, e := r.Line("0000000680")
	errs(t, "Line", e, api.OK)
	scribble(r.Tickets(), r.Events(), line)
	if !sameTickets(r.Tickets(), s.Tickets()) || !slices.Equal(r.Events(), s.Events()) {
		t.Errorf("%v, %v, want %v, %v", r.Tickets(), r.Events(), s.Tickets(), s.Events())
	}
	if l, e := r.Line("0000000680"); !slices.Equal(l, []int{6, 2}) || e != api.OK {
		t.Errorf("Line: %v, error %d", l, e)
	}
	tickets, events := r.Tickets(), r.Events()
	must(t, r, free(30, "0000000680", one()))
	if !sameTickets(tickets, s.Tickets()) || !slices.Equal(events, s.Events()) {
		t.Errorf("earlier results change: %v, %v", tickets, events)
	}
}

// P3.7: no two results of tickets share memory, nor two edges of one result
func TestApart(t *testing.T) {
	r := long(t)
	want := r.Tickets()
	for i := range want {
		l := r.Tickets()
		scribble(l[i].Edge)
		for k := range l {
			if k != i && !sameTicket(l[k], want[k]) {
				t.Errorf("the edges of the tickets %d and %d share memory", i+1, k+1)
			}
		}
	}
	same := one()
	x := roll(t, 0)
	must(t, x, issue(0, "ada", same), divide(0, first, same, []string{"bob", "cyd"}, [][]int{same, same}))
	l := x.Tickets()
	scribble(l[1].Edge)
	if !slices.Equal(l[0].Edge, one()) || !slices.Equal(l[2].Edge, one()) {
		t.Errorf("one edge that was brought three times shares memory: %v", l)
	}
}

// P3.7: arguments are not changed, nor the memory behind them
func TestArguments(t *testing.T) {
	room := func(l []int) []int { return append(make([]int, 0, 40), l...) }
	edge, half, more := room(one()), room(torn()), room(other())
	halves := append(make([][]int, 0, 40), half, more)
	edges := append(make([][]int, 0, 40), edge, more)
	pledges := append(make([]string, 0, 40), "bob", "cyd")
	tickets, events := slices.Grow(long(t).Tickets(), 40), slices.Grow(long(t).Events(), 40)
	r := roll(t, 0)
	ticket.Fit(edge, half)
	ticket.Best(edge, halves)
	proper(t, "long", 10, tickets, events, true)
	ticket.Proper(10, tickets, events[1:])
	must(t, r, issue(0, "ada", edge), block(0, first), free(0, first, half), divide(0, first, half, pledges, edges), block(0, second), replace(0, second, more), redeem(0, third, more))
	refused(t, r, divide(0, "0000000486", more, pledges, edges), api.ErrPledge)
	for i, l := range [][]int{edge, half, more} {
		if !slices.Equal(l[:40], append([][]int{one(), torn(), other()}[i], make([]int, 32)...)) {
			t.Errorf("argument %d is changed: %v", i, l[:40])
		}
	}
	if !slices.Equal(pledges[:40], append([]string{"bob", "cyd"}, make([]string, 38)...)) || !reflect.DeepEqual(edges[:40], append([][]int{one(), other()}, make([][]int, 38)...)) || !reflect.DeepEqual(halves[:40], append([][]int{torn(), other()}, make([][]int, 38)...)) {
		t.Errorf("lists are changed: %v, %v, %v", pledges, edges, halves)
	}
	if s := long(t); !sameTickets(tickets, s.Tickets()) || !slices.Equal(events, s.Events()) || tickets[:len(tickets)+1][len(tickets)].Number != 0 || events[:len(events)+1][len(events)] != (api.Event{}) {
		t.Errorf("tickets or events are changed: %v, %v", tickets, events)
	}
}

// P3.7: results of Reads share nothing
func TestReadsMemory(t *testing.T) {
	a, _ := ticket.Reads("000000???5")
	want := slices.Clone(a)
	scribble(a)
	if b, e := ticket.Reads("000000???5"); !slices.Equal(b, want) || e != api.OK {
		t.Errorf("Reads: %v, then %v", want, b)
	}
}

// P2: rolls do not know of each other; the same calls have the same results, also at the same time
func TestSameResults(t *testing.T) {
	r := random(10)
	s := &slow{wait: 3}
	var asks []ask
	var want []answer
	for range 300 {
		a := s.someAsk(r)
		asks, want = append(asks, a), append(want, s.do(a))
	}
	x, y := roll(t, 3), roll(t, 3)
	for i, a := range asks {
		if got := a.of(x); !got.is(want[i]) {
			t.Fatalf("%v: %v, want %v", a, got, want[i])
		}
		if i >= 40 {
			if got := asks[i-40].of(y); !got.is(want[i-40]) {
				t.Fatalf("%v of the other roll: %v, want %v", asks[i-40], got, want[i-40])
			}
		}
	}
	var group sync.WaitGroup
	for range 4 {
		group.Go(func() {
			z, _ := ticket.New(3)
			for i, a := range asks {
				if got := a.of(z); !got.is(want[i]) {
					t.Errorf("%v at the same time: %v, want %v", a, got, want[i])
				}
			}
			if is, e := ticket.Proper(3, z.Tickets(), z.Events()); !is || e != api.OK {
				t.Errorf("Proper at the same time: %v, error %d", is, e)
			}
		})
	}
	group.Wait()
}

// P2: many calls that fail leave no trace
func TestFailedCalls(t *testing.T) {
	r := start(t, 0)
	for range 1000 {
		refused(t, r, issue(900, "ada", one()), api.ErrPledge)
		refused(t, r, divide(900, first, one(), []string{"bob", "cyd"}, [][]int{one(), nil}), api.ErrEdge)
		refused(t, r, redeem(900, first, other()), api.ErrFit)
	}
	must(t, r, issue(3, "bob", one()), redeem(3, first, one()))
}

// R3: a nil list and an empty one are the same
func TestNilAndEmpty(t *testing.T) {
	r := start(t, 0)
	for _, l := range [][]int{nil, {}} {
		refused(t, r, issue(3, "bob", l), api.ErrEdge)
		refused(t, r, redeem(3, first, l), api.ErrEdge)
		refused(t, r, divide(3, first, l, nil, nil), api.ErrEdge)
	}
	refused(t, r, divide(3, first, one(), []string{}, [][]int{}), api.ErrPledge)
	refused(t, r, divide(3, first, one(), nil, nil), api.ErrPledge)
	for _, l := range [][][]int{nil, {}} {
		refused(t, r, divide(3, first, one(), []string{"bob", "cyd"}, l), api.ErrEdge)
		if n, e := ticket.Best(one(), l); n != 0 || e != api.ErrNone {
			t.Errorf("Best of none: %d, error %d", n, e)
		}
	}
	proper(t, "empty lists", 0, []api.Ticket{}, []api.Event{}, true)
	proper(t, "nil lists", 0, nil, nil, true)
	l := r.Tickets()
	for _, edge := range [][]int{nil, {}} {
		l[0].Edge = edge
		proper(t, "an empty edge", 0, l, r.Events(), false)
	}
}

// P1: whatever the arguments are, no function panics, and with an error all else is zero
func TestAnyArguments(t *testing.T) {
	r := random(11)
	numbers := append(extremes(), -2, -1, 0, 1, 2, 3, 4, 5, 6, 7, 8, 9, 10, 256, 257, 1000, 1001, 36500, 36501, 99999999, 100000000, 1<<31)
	some := func() int {
		if r.IntN(2) == 0 {
			return r.IntN(4)
		}
		return numbers[r.IntN(len(numbers))]
	}
	list := func() []int {
		if r.IntN(2) == 0 {
			return someEdge(r)
		}
		l := make([]int, r.IntN(18))
		for i := range l {
			l[i] = some()
		}
		return l
	}
	text := func() string {
		return []string{"", "?", "ada", "bob", "cyd", "A", first, second, third, far, "00000001??", "?????????", "\xff\xff\xff\xff\xff\xff\xff\xff\xff\xff"}[r.IntN(13)]
	}
	x := start(t, 0)
	for i := range 60000 {
		if i%40 == 0 {
			x = start(t, 0)
		}
		n, e := ticket.Number(text())
		code, e2 := ticket.Code(some())
		l, e3 := ticket.Reads(text())
		known, e4 := ticket.Fit(list(), list())
		best, e5 := ticket.Best(list(), [][]int{list(), list()})
		y, e6 := ticket.New(some())
		line, e7 := x.Line(text())
		alive, e8 := x.Live(text())
		a := ask{1 + r.IntN(7), some(), text(), list(), []string{text(), text(), text()}[:1+r.IntN(3)], [][]int{list(), list()}}
		got := a.of(x)
		is, e9 := ticket.Proper(some(), someTickets(r.IntN(4), some, text, list), someEvents(r.IntN(4), some))
		for k, z := range []struct {
			e    api.Errno
			zero bool
		}{{e, n == 0}, {e2, code == ""}, {e3, len(l) == 0}, {e4, known == 0}, {e5, best == 0}, {e6, y == nil}, {e7, len(line) == 0}, {e8, alive == ""}, {got.e, got.is(answer{e: got.e})}, {e9, !is}} {
			if z.e != api.OK && !z.zero {
				t.Fatalf("result %d with the error %d: %v, %v", k, z.e, a, got)
			}
		}
	}
}

func someTickets(n int, some func() int, text func() string, list func() []int) []api.Ticket {
	var l []api.Ticket
	for range n {
		l = append(l, api.Ticket{Number: some(), Pledge: text(), State: some(), Edge: list(), Since: some(), Comes: some()})
	}
	return l
}

func someEvents(n int, some func() int) []api.Event {
	var l []api.Event
	for range n {
		l = append(l, api.Event{Kind: some(), Day: some(), Number: some(), Last: some(), Many: some()})
	}
	return l
}
