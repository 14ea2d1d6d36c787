package ticket_test

import (
	"slices"
	"testing"

	"lombard/api"
	"lombard/ticket"
)

// stands checks the state of a ticket, since when it is blocked, and the last event.
func stands(t *testing.T, r *ticket.Roll, number, state, since int, last api.Event) {
	t.Helper()
	if x := r.Tickets()[number-1]; x.State != state || x.Since != since {
		t.Errorf("ticket %d: %v, want the state %d since %d", number, x, state, since)
	}
	if l := r.Events(); l[len(l)-1] != last {
		t.Errorf("the last event is %v, want %v", l[len(l)-1], last)
	}
}

// wrongHalves checks the errors of a half, where one is brought to the ticket of ada.
func wrongHalves(t *testing.T, r *ticket.Roll, a ask) {
	t.Helper()
	for _, l := range notCuts() {
		refused(t, r, a.withHalf(l), api.ErrEdge)
	}
	for _, l := range [][]int{other(), row(8, -1), row(16, -1), {1, 2, 3, -1, -1, -1, -1, -1}, {1, 2, 3, 4, 5, 6, 7, 0}, append(one(), -1), append(one(), 9)} {
		refused(t, r, a.withHalf(l), api.ErrFit)
	}
}

// P3.4: Block, once
func TestBlock(t *testing.T) {
	r := start(t, 5)
	must(t, r, block(7, first))
	stands(t, r, 1, api.TicketBlocked, 7, api.Event{Kind: api.RollBlock, Day: 7, Number: 1})
	refused(t, r, block(7, first), api.ErrBlocked)
	refused(t, r, block(70, first), api.ErrBlocked)
	live(t, r, "ada", first)
}

// P3.4: Free: only what is blocked, only with a half that fits
func TestFree(t *testing.T) {
	r := start(t, 5)
	refused(t, r, free(7, first, one()), api.ErrEarly)
	refused(t, r, free(7, first, nil), api.ErrEarly)
	must(t, r, block(7, first))
	wrongHalves(t, r, free(8, first, nil))
	stands(t, r, 1, api.TicketBlocked, 7, api.Event{Kind: api.RollBlock, Day: 7, Number: 1})
	must(t, r, free(7, first, torn())) // whatever the waiting time is
	stands(t, r, 1, api.TicketLive, 0, api.Event{Kind: api.RollFree, Day: 7, Number: 1})
	refused(t, r, free(7, first, torn()), api.ErrEarly)
	must(t, r, block(9, first), free(10, first, one()), block(12, first))
	stands(t, r, 1, api.TicketBlocked, 12, api.Event{Kind: api.RollBlock, Day: 12, Number: 1})
}

// P3.4: Replace: only what is blocked for the waiting time
func TestReplace(t *testing.T) {
	for _, wait := range []int{0, 1, 10, 1000} {
		r := start(t, wait)
		refused(t, r, replace(3+wait, first, other()), api.ErrEarly)
		must(t, r, block(7, first))
		if wait > 0 {
			refused(t, r, replace(7, first, other()), api.ErrEarly)
			refused(t, r, replace(6+wait, first, other()), api.ErrEarly)
			refused(t, r, replace(6+wait, first, nil), api.ErrEarly)
		}
		for _, l := range append(notCuts(), torn()) {
			refused(t, r, replace(7+wait, first, l), api.ErrEdge)
		}
		if got := replace(7+wait, first, other()).of(r); !got.is(answer{codes: []string{second}}) {
			t.Errorf("Replace: %v", got)
		}
		stands(t, r, 1, api.TicketVoid, 0, api.Event{Kind: api.RollReplace, Day: 7 + wait, Number: 1, Last: 2, Many: 1})
		if l := r.Tickets(); len(l) != 2 || !sameTicket(l[1], api.Ticket{Number: 2, Pledge: "ada", State: api.TicketLive, Edge: other(), Comes: 1}) {
			t.Errorf("%v", l)
		}
		live(t, r, "ada", second)
		refused(t, r, redeem(7+wait, second, one()), api.ErrFit)
		refused(t, r, issue(7+wait, "ada", one()), api.ErrPledge)
	}
}

// P3.4: the waiting time begins anew when a ticket is blocked again; much later is not too late
func TestWait(t *testing.T) {
	r := start(t, 10)
	must(t, r, block(5, first), free(9, first, one()), block(9, first))
	refused(t, r, replace(15, first, other()), api.ErrEarly)
	refused(t, r, replace(18, first, other()), api.ErrEarly)
	must(t, r, replace(19, first, other()))
	must(t, r, block(19, second))
	refused(t, r, replace(28, second, one()), api.ErrEarly)
	must(t, r, replace(api.MaxDay, second, one()))
	stands(t, r, 2, api.TicketVoid, 0, api.Event{Kind: api.RollReplace, Day: api.MaxDay, Number: 2, Last: 3, Many: 1})
}

// P3.4: Redeem, once
func TestRedeem(t *testing.T) {
	r := start(t, 0)
	wrongHalves(t, r, redeem(4, first, nil))
	must(t, r, block(4, first))
	refused(t, r, redeem(4, first, one()), api.ErrBlocked)
	refused(t, r, redeem(4, first, nil), api.ErrBlocked)
	must(t, r, free(5, first, one()))
	if got := redeem(6, first, torn()).of(r); !got.is(answer{pledge: "ada"}) {
		t.Errorf("Redeem: %v", got)
	}
	stands(t, r, 1, api.TicketDone, 0, api.Event{Kind: api.RollRedeem, Day: 6, Number: 1})
	refused(t, r, redeem(6, first, torn()), api.ErrSpent)
	live(t, r, "ada", "")
}

// P3.4: Forfeit, once
func TestForfeit(t *testing.T) {
	r := start(t, 0)
	must(t, r, block(4, first))
	refused(t, r, forfeit(4, first), api.ErrBlocked)
	must(t, r, free(5, first, one()))
	if got := forfeit(6, first).of(r); !got.is(answer{pledge: "ada"}) {
		t.Errorf("Forfeit: %v", got)
	}
	stands(t, r, 1, api.TicketGone, 0, api.Event{Kind: api.RollForfeit, Day: 6, Number: 1})
	refused(t, r, forfeit(6, first), api.ErrSpent)
	live(t, r, "ada", "")
}

// P3.4: Divide: what it needs, in the order of its errors
func TestDivideErrors(t *testing.T) {
	r := start(t, 0)
	must(t, r, issue(3, "zoe", other()), redeem(3, second, other()))
	good := divide(4, first, torn(), []string{"bob", "cyd"}, rows(2))
	wrongHalves(t, r, good)
	wrongHalves(t, r, good.withPledges("ada").withEdges())
	for _, l := range [][]string{nil, {"bob"}, {"b", "c", "d", "e", "f"}, {"bob", "bob"}, {"bob", "cyd", "bob"}, {"bob", "ada"}, {"ada", "bob"}, {"bob", "zoe"}, {"bob", ""}, {"Bob", "cyd"}, {"bob", "cyd", "dan", "eve", "e e"}} {
		refused(t, r, good.withPledges(l...), api.ErrPledge)
		refused(t, r, good.withPledges(l...).withEdges(), api.ErrPledge)
	}
	for _, l := range [][][]int{nil, rows(1), rows(3), {one(), torn()}, {nil, one()}, {one(), row(8, 10)}, {row(17, 1), one()}} {
		refused(t, r, good.withEdges(l...), api.ErrEdge)
	}
	must(t, r, block(4, first))
	refused(t, r, good, api.ErrBlocked)
	refused(t, r, good.withHalf(nil).withPledges().withEdges(), api.ErrBlocked)
	must(t, r, free(4, first, one()), good)
}

// P3.4: Divide: 2 to 4 new tickets, in order
func TestDivide(t *testing.T) {
	for n := 2; n <= api.MaxDivide; n++ {
		r := start(t, 0)
		must(t, r, issue(3, "zoe", one()))
		pledges := []string{"eve", "bob", "dan", "cyd"}[:n]
		edges := [][]int{other(), row(16, 9), one(), row(8, 0)}[:n]
		if got := divide(5, first, one(), pledges, edges).of(r); !got.is(answer{codes: []string{third, "0000000486", "0000000583", "0000000680"}[:n]}) {
			t.Errorf("Divide: %v", got)
		}
		stands(t, r, 1, api.TicketVoid, 0, api.Event{Kind: api.RollDivide, Day: 5, Number: 1, Last: 2 + n, Many: n})
		for i, x := range r.Tickets()[2:] {
			if !sameTicket(x, api.Ticket{Number: 3 + i, Pledge: pledges[i], State: api.TicketLive, Edge: edges[i], Comes: 1}) {
				t.Errorf("part %d: %v", i, x)
			}
			live(t, r, x.Pledge, slowCode(3+i))
			must(t, r, redeem(5, slowCode(3+i), edges[i]))
		}
		live(t, r, "ada", "")
		live(t, r, "zoe", second)
	}
}

// P3.4: at most 256 tickets; that is the last error of all
func TestFull(t *testing.T) {
	r := full(t)
	if l := r.Tickets(); len(l) != 256 || l[255].Number != 256 {
		t.Fatalf("%d tickets", len(l))
	}
	refused(t, r, issue(0, "new", one()), api.ErrFull)
	refused(t, r, issue(0, "new", nil), api.ErrEdge)
	refused(t, r, issue(0, "n0", one()), api.ErrPledge)
	refused(t, r, replace(0, first, one()), api.ErrEarly)
	refused(t, r, divide(0, first, one(), []string{"bob", "cyd"}, rows(2)), api.ErrFull)
	refused(t, r, divide(0, first, one(), []string{"bob", "cyd"}, rows(1)), api.ErrEdge)
	refused(t, r, divide(0, first, one(), []string{"bob", "n7"}, rows(1)), api.ErrPledge)
	must(t, r, block(0, first))
	refused(t, r, replace(0, first, one()), api.ErrFull)
	refused(t, r, replace(0, first, torn()), api.ErrEdge)
	must(t, r, free(0, first, one()), redeem(0, first, one()), forfeit(0, second))
	refused(t, r, issue(0, "new", one()), api.ErrFull) // spent tickets are still tickets
	live(t, r, "n255", slowCode(256))
}

// P3.4: what still fits
func TestAlmostFull(t *testing.T) {
	names := []string{"ada", "bob", "cyd", "dan"}
	for have := 251; have <= 256; have++ {
		for n := 1; n <= 4; n++ {
			r := roll(t, 0)
			for i := range have {
				must(t, r, issue(0, name(i), one()))
			}
			a := divide(0, first, one(), names[:n], rows(n))
			if n == 1 {
				must(t, r, block(0, first))
				a = replace(0, first, one())
			}
			if have+n > 256 {
				refused(t, r, a, api.ErrFull)
				continue
			}
			must(t, r, a)
			if l := r.Tickets(); len(l) != have+n || l[0].State != api.TicketVoid {
				t.Errorf("%d tickets and %d more: %d", have, n, len(l))
			}
		}
	}
}

// P3.5: Live of pledges that there are, were, and never were
func TestLive(t *testing.T) {
	r := start(t, 0)
	for _, s := range []string{"", "bob", "Ada", "ad", "adaa", first} {
		live(t, r, s, "")
	}
	live(t, roll(t, 0), "ada", "")
	live(t, r, "ada", first)
	must(t, r, block(3, first))
	live(t, r, "ada", first)
	must(t, r, replace(3, first, other()), issue(3, "bob", one()))
	live(t, r, "ada", second)
	live(t, r, "bob", third)
}

// P3.5: Line, whatever the state of a ticket, and its errors
func TestLine(t *testing.T) {
	r := start(t, 0)
	must(t, r, issue(3, "bob", one()), block(3, first), replace(3, first, other()))                                                 // 3 of 1
	must(t, r, divide(3, third, other(), []string{"cyd", "dan"}, rows(2)), block(3, "0000000583"), replace(3, "0000000583", one())) // 4, 5 of 3; 6 of 5
	must(t, r, redeem(3, "0000000680", one()), block(3, second))
	for i, want := range [][]int{{1}, {2}, {3, 1}, {4, 3, 1}, {5, 3, 1}, {6, 5, 3, 1}} {
		if l, e := r.Line(slowCode(i + 1)); !slices.Equal(l, want) || e != api.OK {
			t.Errorf("Line of %d: %v, error %d", i+1, l, e)
		}
	}
	refuse := func(r *ticket.Roll, code string, want api.Errno) {
		t.Helper()
		if l, e := r.Line(code); len(l) > 0 || e != want {
			t.Errorf("Line(%q): %v, error %d, want %d", code, l, e, want)
		}
	}
	one := start(t, 0)
	for code, e := range wrongCodes() {
		refuse(one, code, e)
	}
	refuse(r, slowCode(7), api.ErrNone)
	refuse(roll(t, 0), first, api.ErrNone)
}

// P3.5: all tickets by their numbers, all events in order
func TestLists(t *testing.T) {
	r := start(t, 2)
	must(t, r, issue(4, "bob", other()), block(5, first), replace(7, first, other()), forfeit(7, third))
	if l := r.Tickets(); !sameTickets(l, []api.Ticket{
		{Number: 1, Pledge: "ada", State: api.TicketVoid, Edge: one()},
		{Number: 2, Pledge: "bob", State: api.TicketLive, Edge: other()},
		{Number: 3, Pledge: "ada", State: api.TicketGone, Edge: other(), Comes: 1},
	}) {
		t.Errorf("Tickets: %v", l)
	}
	if l := r.Events(); !slices.Equal(l, []api.Event{
		{Kind: api.RollIssue, Day: 3, Last: 1, Many: 1}, {Kind: api.RollIssue, Day: 4, Last: 2, Many: 1}, {Kind: api.RollBlock, Day: 5, Number: 1},
		{Kind: api.RollReplace, Day: 7, Number: 1, Last: 3, Many: 1}, {Kind: api.RollForfeit, Day: 7, Number: 3},
	}) {
		t.Errorf("Events: %v", l)
	}
}
