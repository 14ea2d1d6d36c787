package ticket_test

import (
	"slices"
	"strings"
	"testing"

	"lombard/api"
	"lombard/ticket"
)

// start returns a roll with a ticket of ada, which was issued on day 3.
func start(t *testing.T, wait int) *ticket.Roll {
	t.Helper()
	r := roll(t, wait)
	must(t, r, issue(3, "ada", one()))
	return r
}

// full returns a roll with 256 tickets of n0, n1 and so on; the first two of them are live.
func full(t *testing.T) *ticket.Roll {
	t.Helper()
	r := roll(t, 0)
	for i := range api.MaxTickets {
		must(t, r, issue(0, name(i), one()))
	}
	return r
}

// live is what Live returns.
func live(t *testing.T, r *ticket.Roll, pledge, want string) {
	t.Helper()
	e := api.OK
	if want == "" {
		e = api.ErrNone
	}
	if s, got := r.Live(pledge); s != want || got != e {
		t.Errorf("Live(%s): %q, error %d, want %q", pledge, s, got, want)
	}
}

// P3.3: waiting times
func TestNew(t *testing.T) {
	for _, wait := range []int{0, 1, 10, 999, 1000} {
		r, e := ticket.New(wait)
		if r == nil || e != api.OK || len(r.Tickets()) > 0 || len(r.Events()) > 0 {
			t.Errorf("New(%d): error %d", wait, e)
		}
	}
	for _, wait := range beyond(0, api.MaxWait) {
		if r, e := ticket.New(wait); r != nil || e != api.ErrRange {
			t.Errorf("New(%d): error %d", wait, e)
		}
	}
}

// P3.3: a nil roll and a zero one, whatever they are asked for
func TestNil(t *testing.T) {
	for _, r := range []*ticket.Roll{nil, {}} {
		for _, a := range []ask{
			issue(3, "ada", one()), block(3, first), free(3, first, one()), replace(3, first, one()), redeem(3, first, one()), forfeit(3, first),
			divide(3, first, one(), []string{"bob", "cyd"}, rows(2)),
			issue(-1, "", nil), block(-1, ""), free(-1, "", nil), replace(-1, "", nil), redeem(-1, "", nil), forfeit(-1, ""), divide(-1, "", nil, nil, nil),
		} {
			if got := a.of(r); !got.is(answer{e: api.ErrNil}) {
				t.Errorf("%v: %v", a, got)
			}
		}
		if r.Tickets() != nil || r.Events() != nil {
			t.Errorf("%v, %v", r.Tickets(), r.Events())
		}
		for _, s := range []string{"ada", "", first, "x"} {
			if code, e := r.Live(s); code != "" || e != api.ErrNil {
				t.Errorf("Live(%s): %s, error %d", s, code, e)
			}
			if l, e := r.Line(s); len(l) > 0 || e != api.ErrNil {
				t.Errorf("Line(%s): %v, error %d", s, l, e)
			}
		}
	}
}

// P3.4: the examples of the document
func TestExamples(t *testing.T) {
	r := roll(t, 10)
	for i, x := range []struct {
		a    ask
		want answer
	}{
		{issue(3, "ada", one()), answer{codes: []string{first}}},
		{issue(3, "ada", one()), answer{e: api.ErrPledge}},
		{block(5, first), answer{}},
		{redeem(6, first, torn()), answer{e: api.ErrBlocked}},
		{replace(14, first, other()), answer{e: api.ErrEarly}},
		{replace(15, first, other()), answer{codes: []string{second}}},
		{redeem(15, first, torn()), answer{e: api.ErrSpent}},
		{redeem(15, second, other()), answer{pledge: "ada"}},
	} {
		if got := x.a.of(r); !got.is(x.want) {
			t.Errorf("call %d: %v, want %v", i, got, x.want)
		}
	}
	if l, e := r.Line(second); !slices.Equal(l, []int{2, 1}) || e != api.OK {
		t.Errorf("Line: %v, error %d", l, e)
	}
	live(t, r, "ada", "")
}

// wrongCodes are codes that name no ticket of a roll with one ticket, and their errors.
func wrongCodes() map[string]api.Errno {
	l := map[string]api.Errno{"0000000196": api.ErrCheck, "0000000098": api.ErrCheck, "0000000001": api.ErrCheck, second: api.ErrNone, far: api.ErrNone, "9999999952": api.ErrNone}
	for _, s := range append(wrongForms(), "00000001?5") {
		l[s] = api.ErrForm
	}
	return l
}

// withDay is a call on another day.
func (a ask) withDay(day int) ask {
	a.day = day
	return a
}

// withCode is a call with another code.
func (a ask) withCode(code string) ask {
	a.code = code
	return a
}

// withHalf is a call with another half.
func (a ask) withHalf(half []int) ask {
	a.half = half
	return a
}

// withEdges is a call with other edges.
func (a ask) withEdges(edges ...[]int) ask {
	a.edges = edges
	return a
}

// withPledges is a call with other pledges.
func (a ask) withPledges(pledges ...string) ask {
	a.pledges = pledges
	return a
}

// P3.4: days and codes come before all else, in their order, for each call
func TestDayAndCode(t *testing.T) {
	r := start(t, 0)
	bad := ask{day: 3, code: first, half: row(7, 1), pledges: []string{"ada"}, edges: rows(1)}
	for kind := api.RollIssue; kind <= api.RollForfeit; kind++ {
		a := bad
		a.kind = kind
		for _, day := range append(beyond(0, api.MaxDay), 2, 0) {
			refused(t, r, a.withDay(day), api.ErrDay)
			refused(t, r, a.withDay(day).withCode("?"), api.ErrDay)
		}
		if kind == api.RollIssue {
			refused(t, r, a.withCode("?"), api.ErrPledge)
			continue
		}
		for code, e := range wrongCodes() {
			refused(t, r, a.withCode(code), e)
		}
	}
	must(t, r, redeem(3, first, one()), issue(3, "bob", one()), forfeit(3, second), issue(3, "cyd", one()), divide(3, third, one(), []string{"dan", "eve"}, rows(2)))
	for _, code := range []string{first, second, third} { // done, gone, void
		for kind := api.RollBlock; kind <= api.RollForfeit; kind++ {
			a := bad
			a.kind = kind
			refused(t, r, a.withCode(code), api.ErrSpent)
			refused(t, r, a.withCode(code).withHalf(one()), api.ErrSpent)
		}
	}
	must(t, r, issue(api.MaxDay, "fay", one()))
	refused(t, r, issue(api.MaxDay-1, "gus", one()), api.ErrDay)
	must(t, r, issue(api.MaxDay, "gus", one()))
}

// P3.4: the day of a roll is that of the last event; a call that failed does not count
func TestDays(t *testing.T) {
	r := roll(t, 0)
	refused(t, r, issue(-1, "ada", one()), api.ErrDay)
	refused(t, r, issue(9, "ada", nil), api.ErrEdge)
	must(t, r, issue(0, "ada", one()), block(0, first))
	refused(t, r, block(7, first), api.ErrBlocked)
	must(t, r, free(4, first, one()))
	refused(t, r, block(3, first), api.ErrDay)
	must(t, r, block(4, first))
	if l := r.Tickets(); l[0].Since != 4 || l[0].State != api.TicketBlocked {
		t.Errorf("%v", l)
	}
}

// P3.4: Issue: names, edges, and the order of errors
func TestIssue(t *testing.T) {
	r := start(t, 0)
	good := issue(3, "bob", one())
	for _, s := range []string{"", "A", "Bob", "1b", "-b", "b b", "b_b", "bé", "b\x00", "abcdefghijklmnopq", "ada", strings.Repeat("a", 1000)} {
		refused(t, r, good.withPledges(s), api.ErrPledge)
		refused(t, r, good.withPledges(s).withEdges(nil), api.ErrPledge)
	}
	for _, l := range append(notCuts(), torn()) {
		refused(t, r, good.withEdges(l), api.ErrEdge)
	}
	for i, a := range []ask{good, good.withPledges("abcdefghijklmno-"), good.withPledges("b9-").withEdges(row(16, 9)), good.withPledges("z").withEdges(row(8, 0))} {
		want := api.Ticket{Number: i + 2, Pledge: a.pledges[0], State: api.TicketLive, Edge: a.edges[0]}
		if got := a.of(r); !got.is(answer{codes: []string{slowCode(i + 2)}}) {
			t.Errorf("%v: %v", a, got)
		}
		if l := r.Tickets(); len(l) != i+2 || !sameTicket(l[i+1], want) {
			t.Errorf("%v: %v", a, l)
		}
		if l := r.Events(); l[len(l)-1] != (api.Event{Kind: api.RollIssue, Day: 3, Last: i + 2, Many: 1}) {
			t.Errorf("%v: %v", a, l)
		}
	}
}

// P3.4: the pledge of a ticket is never issued again, whatever its state
func TestIssueAgain(t *testing.T) {
	r := start(t, 0)
	again := func() {
		t.Helper()
		refused(t, r, issue(3, "ada", one()), api.ErrPledge)
	}
	again()
	must(t, r, block(3, first))
	again()
	must(t, r, free(3, first, one()))
	must(t, r, divide(3, first, one(), []string{"bob", "cyd"}, rows(2)))
	again()
	must(t, r, redeem(3, second, one()), forfeit(3, third))
	for _, s := range []string{"bob", "cyd"} {
		refused(t, r, issue(3, s, one()), api.ErrPledge)
		refused(t, r, issue(3, s, nil), api.ErrPledge)
	}
}
