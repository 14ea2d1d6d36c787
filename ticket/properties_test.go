package ticket_test

import (
	"math/rand/v2"
	"slices"
	"testing"

	"lombard/api"
	"lombard/ticket"
)

// someRoll returns a roll with which anything happened, and its slow double.
func someRoll(t *testing.T, r *rand.Rand) (*ticket.Roll, *slow, int) {
	t.Helper()
	wait := r.IntN(2) * r.IntN(6)
	x, s := roll(t, wait), &slow{wait: wait}
	for range r.IntN(60) {
		a := s.someAsk(r)
		s.do(a)
		a.of(x)
	}
	return x, s, wait
}

// watched is what was told of the calls of a roll.
type watched struct {
	parted  map[string]int // how often a pledge was redeemed, forfeited or divided
	spent   map[int]int    // the state of tickets that are spent
	blocked map[int]int    // since when a ticket is blocked without a break
}

// watch takes note of a call that had no error, and checks what must not happen.
func (w *watched) watch(t *testing.T, wait int, a ask, got answer, before []api.Ticket) {
	t.Helper()
	if a.kind == api.RollIssue {
		return
	}
	n, _ := ticket.Number(a.code)
	x := before[n-1]
	if _, ok := w.spent[n]; ok {
		t.Fatalf("%v: the ticket is spent", a)
	}
	since, blocked := w.blocked[n]
	switch a.kind {
	case api.RollRedeem, api.RollFree, api.RollDivide:
		if _, e := ticket.Fit(x.Edge, a.half); e != api.OK { // P3.10
			t.Fatalf("%v: the half does not fit %v", a, x)
		}
	case api.RollReplace:
		if !blocked || a.day-since < wait { // P3.10
			t.Fatalf("%v: blocked: %v since %d", a, blocked, since)
		}
	case api.RollBlock:
		w.blocked[n] = a.day
	}
	if blocked && a.kind != api.RollFree && a.kind != api.RollReplace { // P3.10
		t.Fatalf("%v: the ticket is blocked", a)
	}
	switch a.kind {
	case api.RollFree:
		delete(w.blocked, n)
	case api.RollReplace:
		delete(w.blocked, n)
		w.spent[n] = api.TicketVoid
	case api.RollRedeem, api.RollForfeit, api.RollDivide:
		w.parted[x.Pledge]++
		w.spent[n] = map[int]int{api.RollRedeem: api.TicketDone, api.RollForfeit: api.TicketGone, api.RollDivide: api.TicketVoid}[a.kind]
		if a.kind != api.RollDivide && got.pledge != x.Pledge || w.parted[x.Pledge] > 1 { // P3.9
			t.Fatalf("%v: %v; %s went %d times", a, got, x.Pledge, w.parted[x.Pledge])
		}
	}
}

// check checks how the tickets stand.
func (w *watched) check(t *testing.T, r *ticket.Roll) {
	t.Helper()
	open := map[string]int{}
	l := r.Tickets()
	for _, x := range l {
		state, spent := w.spent[x.Number]
		if spent && x.State != state || !spent && x.State > api.TicketBlocked { // P3.9
			t.Fatalf("%v: it was spent: %v, %d", x, spent, state)
		}
		if x.State <= api.TicketBlocked {
			open[x.Pledge]++
			live(t, r, x.Pledge, slowCode(x.Number))
		}
	}
	for _, x := range l {
		if open[x.Pledge] != 1-w.parted[x.Pledge] { // P3.9
			t.Fatalf("%s: %d tickets are live or blocked; it went %d times", x.Pledge, open[x.Pledge], w.parted[x.Pledge])
		}
		if open[x.Pledge] == 0 {
			live(t, r, x.Pledge, "")
		}
	}
}

// P3.9, P3.10: whatever is called, each pledge goes once, and only to who has the ticket
func TestOnce(t *testing.T) {
	r := random(7)
	for range 400 {
		wait := r.IntN(5)
		x, s := roll(t, wait), &slow{wait: wait}
		w := &watched{map[string]int{}, map[int]int{}, map[int]int{}}
		for range r.IntN(100) {
			a := s.someAsk(r)
			s.do(a)
			before := x.Tickets()
			if got := a.of(x); got.e == api.OK {
				w.watch(t, wait, a, got, before)
			}
			w.check(t, x)
		}
	}
}

// P3.11: rolls are proper; with one event less, or another state of a ticket, they are not
func TestProperOnly(t *testing.T) {
	r := random(8)
	for range 600 {
		x, _, wait := someRoll(t, r)
		proper(t, "a roll", wait, x.Tickets(), x.Events(), true)
		for i := range x.Events() {
			l := x.Events()
			proper(t, "one event less", wait, x.Tickets(), slices.Delete(l, i, i+1), false)
		}
		for i, y := range x.Tickets() {
			for _, state := range append(extremes(), -1, 0, 1, 2, 3, 4, 5, 6) {
				l := x.Tickets()
				l[i].State = state
				proper(t, "another state", wait, l, x.Events(), state == y.State)
			}
		}
	}
}

// P3.12: lines decrease, and end at a ticket that was issued
func TestLines(t *testing.T) {
	r := random(9)
	longest := 0
	for range 600 {
		x, _, _ := someRoll(t, r)
		issued := map[int]bool{}
		for _, v := range x.Events() {
			if v.Kind == api.RollIssue {
				issued[v.Last] = true
			}
		}
		tickets := x.Tickets()
		for n := 1; n <= len(tickets); n++ {
			l, e := x.Line(slowCode(n))
			if e != api.OK || len(l) == 0 || l[0] != n || !issued[l[len(l)-1]] || tickets[l[len(l)-1]-1].Comes != 0 {
				t.Fatalf("Line of %d: %v, error %d", n, l, e)
			}
			for i := 1; i < len(l); i++ {
				if l[i] >= l[i-1] || issued[l[i-1]] || tickets[l[i-1]-1].Comes != l[i] {
					t.Fatalf("Line of %d: %v", n, l)
				}
			}
			longest = max(longest, len(l))
		}
	}
	if longest < 4 {
		t.Errorf("the longest line has %d numbers", longest)
	}
}
