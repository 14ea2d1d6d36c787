package ticket_test

import (
	"math/rand/v2"
	"slices"
	"strconv"
	"testing"

	"lombard/api"
)

// slowCode looks for the check digits with which a code has the rest 1.
func slowCode(n int) string {
	for check := 2; check <= 98; check++ {
		if (100*n+check)%97 == 1 {
			s := strconv.Itoa(100*n + check)
			for len(s) < 10 {
				s = "0" + s
			}
			return s
		}
	}
	return ""
}

// slow is a roll that is written anew from the table of the document.
type slow struct {
	wait, day int
	tickets   []api.Ticket
	events    []api.Event
}

func slowCut(l []int, least int) bool {
	return len(l) >= 8 && len(l) <= 16 && slices.Min(l) >= least && slices.Max(l) <= 9
}

func slowFit(edge, half []int) bool {
	known := 0
	for i := range half {
		if half[i] >= 0 {
			known++
		}
		if len(edge) != len(half) || half[i] >= 0 && half[i] != edge[i] {
			return false
		}
	}
	return known >= 4
}

func slowWord(s string) bool {
	for i, c := range []byte(s) {
		if c >= 'a' && c <= 'z' || i > 0 && (c == '-' || c >= '0' && c <= '9') {
			continue
		}
		return false
	}
	return len(s) >= 1 && len(s) <= 16
}

// named returns the index of the ticket whose code is brought, or the error of the code.
func (s *slow) named(code string) (int, api.Errno) {
	if len(code) != 10 {
		return 0, api.ErrForm
	}
	for _, c := range []byte(code) {
		if c < '0' || c > '9' {
			return 0, api.ErrForm
		}
	}
	n, _ := strconv.Atoi(code[:8])
	if n == 0 || slowCode(n) != code {
		return 0, api.ErrCheck
	}
	if n > len(s.tickets) {
		return 0, api.ErrNone
	}
	return n - 1, api.OK
}

func (s *slow) halfError(x api.Ticket, half []int) api.Errno {
	switch {
	case !slowCut(half, -1):
		return api.ErrEdge
	case !slowFit(x.Edge, half):
		return api.ErrFit
	}
	return api.OK
}

func (s *slow) pledgeError(pledges []string) api.Errno {
	for i, p := range pledges {
		used := slices.ContainsFunc(s.tickets, func(x api.Ticket) bool { return x.Pledge == p })
		if !slowWord(p) || used || slices.Contains(pledges[:i], p) {
			return api.ErrPledge
		}
	}
	return api.OK
}

func (s *slow) growError(n int, edges [][]int) api.Errno {
	if len(edges) != n {
		return api.ErrEdge
	}
	for _, l := range edges {
		if !slowCut(l, 0) {
			return api.ErrEdge
		}
	}
	if len(s.tickets)+n > 256 {
		return api.ErrFull
	}
	return api.OK
}

func firstOf(l ...api.Errno) api.Errno {
	for _, e := range l {
		if e != api.OK {
			return e
		}
	}
	return api.OK
}

func unless(holds bool, e api.Errno) api.Errno {
	if holds {
		return api.OK
	}
	return e
}

// errorOf returns the first error of a call, and the index of the ticket that is named.
func (s *slow) errorOf(a ask) (int, api.Errno) {
	if a.day < 0 || a.day > 36500 || a.day < s.day {
		return 0, api.ErrDay
	}
	if a.kind == api.RollIssue {
		return 0, firstOf(unless(len(a.pledges) == 1, api.ErrPledge), s.pledgeError(a.pledges), s.growError(1, a.edges))
	}
	i, e := s.named(a.code)
	if e != api.OK {
		return 0, e
	}
	x := s.tickets[i]
	if x.State > api.TicketBlocked {
		return 0, api.ErrSpent
	}
	blocked := x.State == api.TicketBlocked
	switch a.kind {
	case api.RollBlock, api.RollForfeit:
		e = unless(!blocked, api.ErrBlocked)
	case api.RollFree:
		e = firstOf(unless(blocked, api.ErrEarly), s.halfError(x, a.half))
	case api.RollReplace:
		e = firstOf(unless(blocked && a.day >= x.Since+s.wait, api.ErrEarly), s.growError(1, a.edges))
	case api.RollDivide:
		n := len(a.pledges)
		e = firstOf(unless(!blocked, api.ErrBlocked), s.halfError(x, a.half), unless(n >= 2 && n <= 4, api.ErrPledge), s.pledgeError(a.pledges), s.growError(n, a.edges))
	case api.RollRedeem:
		e = firstOf(unless(!blocked, api.ErrBlocked), s.halfError(x, a.half))
	default:
		e = api.ErrArg
	}
	return i, e
}

// do does a call.
func (s *slow) do(a ask) answer {
	i, e := s.errorOf(a)
	if e != api.OK {
		return answer{e: e}
	}
	s.day = a.day
	v := api.Event{Kind: a.kind, Day: a.day}
	pledges := a.pledges
	if a.kind != api.RollIssue {
		x := &s.tickets[i]
		v.Number = x.Number
		x.State = map[int]int{api.RollBlock: 2, api.RollFree: 1, api.RollReplace: 3, api.RollDivide: 3, api.RollRedeem: 4, api.RollForfeit: 5}[a.kind]
		x.Since = 0
		if a.kind == api.RollBlock {
			x.Since = a.day
		}
		if a.kind == api.RollReplace {
			pledges = []string{x.Pledge}
		}
	}
	var out answer
	switch a.kind {
	case api.RollIssue, api.RollReplace, api.RollDivide:
		for k, p := range pledges {
			n := len(s.tickets) + 1
			s.tickets = append(s.tickets, api.Ticket{Number: n, Pledge: p, State: 1, Edge: slices.Clone(a.edges[k]), Comes: v.Number})
			out.codes = append(out.codes, slowCode(n))
			v.Last, v.Many = n, v.Many+1
		}
	case api.RollRedeem, api.RollForfeit:
		out.pledge = s.tickets[i].Pledge
	}
	s.events = append(s.events, v)
	return out
}

// someAsk is a random call, most of whose parts are right.
func (s *slow) someAsk(r *rand.Rand) ask {
	a := ask{kind: 1 + r.IntN(7), day: s.day + r.IntN(2)*r.IntN(4)}
	if r.IntN(20) == 0 {
		a.day = []int{s.day - 1, -1, 36501, s.day + 1}[r.IntN(4)]
	}
	x := api.Ticket{Number: 1, Edge: one()}
	if len(s.tickets) > 0 { // the last ones are less likely to be spent
		x = s.tickets[len(s.tickets)-1-r.IntN(min(1<<r.IntN(6), len(s.tickets)))]
	}
	a.code = slowCode(x.Number)
	if r.IntN(15) == 0 {
		a.code = []string{"", "00000001?5", "0000000196", "0000000098", slowCode(len(s.tickets) + 1), slowCode(99999999)}[r.IntN(6)]
	}
	a.half = tear(r, x.Edge)
	if r.IntN(8) == 0 {
		a.half = [][]int{nil, row(17, 1), row(8, 10), row(8, -2), tear(r, someEdge(r)), row(8, -1)}[r.IntN(6)]
	}
	n := 1
	if a.kind == api.RollDivide {
		n = 2 + r.IntN(3)
	}
	if a.kind == api.RollDivide && r.IntN(8) == 0 {
		n = r.IntN(6)
	}
	for range n {
		a.pledges = append(a.pledges, somePledge(r, len(s.tickets)))
		a.edges = append(a.edges, someEdge(r))
	}
	if n > 0 && r.IntN(10) == 0 {
		a.edges[r.IntN(n)] = [][]int{nil, row(7, 1), row(8, -1), row(16, 10)}[r.IntN(4)]
	}
	if n > 1 && r.IntN(10) == 0 {
		a.edges = a.edges[1:]
	}
	return a
}

func somePledge(r *rand.Rand, tickets int) string {
	if r.IntN(15) == 0 {
		return []string{"", "A", "1a", "a b", "abcdefghijklmnopq"}[r.IntN(5)]
	}
	return name(r.IntN(2*tickets + 4))
}

// P3.4, P3.5: after any calls, a roll answers and has what the table says; errors come in its order
func TestTable(t *testing.T) {
	r := random(1)
	seen := map[[2]int]int{}
	for range 400 {
		wait := r.IntN(2) * r.IntN(8)
		x, s := roll(t, wait), &slow{wait: wait}
		for range r.IntN(120) {
			a := s.someAsk(r)
			want := s.do(a)
			if got := a.of(x); !got.is(want) {
				t.Fatalf("%v: %v, want %v", a, got, want)
			}
			if !sameTickets(x.Tickets(), s.tickets) || !slices.Equal(x.Events(), s.events) {
				t.Fatalf("%v: %v, %v, want %v, %v", a, x.Tickets(), x.Events(), s.tickets, s.events)
			}
			seen[[2]int{a.kind, int(want.e)}]++
		}
	}
	for kind, l := range map[int][]api.Errno{
		api.RollIssue:   {api.OK, api.ErrDay, api.ErrPledge, api.ErrEdge},
		api.RollBlock:   {api.OK, api.ErrDay, api.ErrForm, api.ErrCheck, api.ErrNone, api.ErrSpent, api.ErrBlocked},
		api.RollFree:    {api.OK, api.ErrDay, api.ErrForm, api.ErrCheck, api.ErrNone, api.ErrSpent, api.ErrEarly, api.ErrEdge, api.ErrFit},
		api.RollReplace: {api.OK, api.ErrDay, api.ErrForm, api.ErrCheck, api.ErrNone, api.ErrSpent, api.ErrEarly, api.ErrEdge},
		api.RollDivide:  {api.OK, api.ErrDay, api.ErrForm, api.ErrCheck, api.ErrNone, api.ErrSpent, api.ErrBlocked, api.ErrEdge, api.ErrFit, api.ErrPledge},
		api.RollRedeem:  {api.OK, api.ErrDay, api.ErrForm, api.ErrCheck, api.ErrNone, api.ErrSpent, api.ErrBlocked, api.ErrEdge, api.ErrFit},
		api.RollForfeit: {api.OK, api.ErrDay, api.ErrForm, api.ErrCheck, api.ErrNone, api.ErrSpent, api.ErrBlocked},
	} {
		for _, e := range l {
			if seen[[2]int{kind, int(e)}] < 5 {
				t.Errorf("the calls of the kind %d had the error %d %d times only", kind, e, seen[[2]int{kind, int(e)}])
			}
		}
	}
}
