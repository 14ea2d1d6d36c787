package ticket_test

import (
	"math/rand/v2"
	"slices"
	"testing"

	"lombard/api"
	"lombard/ticket"
)

// proper checks what Proper returns.
func proper(t *testing.T, name string, wait int, tickets []api.Ticket, events []api.Event, want bool) {
	t.Helper()
	if is, e := ticket.Proper(wait, tickets, events); is != want || e != api.OK {
		t.Errorf("%s: Proper(%d, %v, %v): %v, error %d", name, wait, tickets, events, is, e)
	}
}

// long returns a roll with the waiting time 10, with which all kinds of events happened.
func long(t *testing.T) *ticket.Roll {
	t.Helper()
	r := roll(t, 10)
	must(t, r, issue(3, "ada", one()), block(5, first), free(6, first, torn()), block(7, first), issue(9, "bob", other()), replace(17, first, other()))
	must(t, r, divide(18, second, other(), []string{"cyd", "dan", "eve"}, rows(3)), redeem(20, third, other()), forfeit(21, "0000000583"), block(21, "0000000680"))
	return r
}

// P3.6: waiting times come first
func TestProperRange(t *testing.T) {
	r := long(t)
	for _, wait := range beyond(0, api.MaxWait) {
		for _, l := range [][]api.Event{nil, r.Events(), {{Kind: 99}}} {
			if is, e := ticket.Proper(wait, r.Tickets(), l); is || e != api.ErrRange {
				t.Errorf("Proper(%d): %v, error %d", wait, is, e)
			}
		}
	}
}

// P3.6: the empty roll, and one with all kinds of events, with waiting times
func TestProper(t *testing.T) {
	for _, wait := range []int{0, 10, 1000} {
		proper(t, "nothing", wait, nil, nil, true)
		proper(t, "no events", wait, start(t, wait).Tickets(), nil, false)
		proper(t, "no tickets", wait, nil, start(t, wait).Events(), false)
	}
	r := long(t)
	for wait, want := range map[int]bool{0: true, 9: true, 10: true, 11: false, 1000: false} {
		proper(t, "long", wait, r.Tickets(), r.Events(), want)
	}
	for n := range r.Events() {
		proper(t, "a beginning", 10, r.Tickets(), r.Events()[:n], false)
	}
	for n := range r.Tickets() {
		proper(t, "fewer tickets", 10, r.Tickets()[:n], r.Events(), false)
	}
}

// P3.6: pledges and edges are those of the tickets, as long as they are such
func TestProperTickets(t *testing.T) {
	r := long(t)
	for i, x := range []struct {
		at     int
		change func(x *api.Ticket)
		want   bool
	}{
		{0, func(x *api.Ticket) { x.Edge = row(16, 3) }, true}, {2, func(x *api.Ticket) { x.Edge = row(9, 0) }, true}, {5, func(x *api.Ticket) { x.Edge[0] = 9 }, true},
		{0, func(x *api.Ticket) { x.Edge[0] = -1 }, false}, {1, func(x *api.Ticket) { x.Edge = row(7, 3) }, false}, {2, func(x *api.Ticket) { x.Edge = row(17, 3) }, false}, {3, func(x *api.Ticket) { x.Edge = nil }, false}, {4, func(x *api.Ticket) { x.Edge[7] = 10 }, false},
		{0, func(x *api.Ticket) { x.Pledge = "z" }, false}, {1, func(x *api.Ticket) { x.Pledge = "z" }, true}, {2, func(x *api.Ticket) { x.Pledge = "z" }, false}, {3, func(x *api.Ticket) { x.Pledge = "z" }, true}, {5, func(x *api.Ticket) { x.Pledge = "abcdefghijklmno-" }, true},
		{1, func(x *api.Ticket) { x.Pledge = "ada" }, false}, {3, func(x *api.Ticket) { x.Pledge = "ada" }, false}, {4, func(x *api.Ticket) { x.Pledge = "cyd" }, false}, {5, func(x *api.Ticket) { x.Pledge = "bob" }, false}, {2, func(x *api.Ticket) { x.Pledge = "dan" }, false},
		{1, func(x *api.Ticket) { x.Pledge = "" }, false}, {3, func(x *api.Ticket) { x.Pledge = "Z" }, false}, {4, func(x *api.Ticket) { x.Pledge = "abcdefghijklmnopq" }, false},
		{0, func(x *api.Ticket) { x.Number = 2 }, false}, {0, func(x *api.Ticket) { x.Number = 0 }, false}, {5, func(x *api.Ticket) { x.Number = 7 }, false},
		{0, func(x *api.Ticket) { x.Comes = 2 }, false}, {1, func(x *api.Ticket) { x.Comes = 1 }, false}, {2, func(x *api.Ticket) { x.Comes = 0 }, false}, {3, func(x *api.Ticket) { x.Comes = 1 }, false}, {5, func(x *api.Ticket) { x.Comes = 0 }, false},
		{5, func(x *api.Ticket) { x.Since = 20 }, false}, {5, func(x *api.Ticket) { x.Since = 0 }, false}, {0, func(x *api.Ticket) { x.Since = 7 }, false}, {3, func(x *api.Ticket) { x.Since = -1 }, false},
	} {
		l := r.Tickets()
		x.change(&l[x.at])
		proper(t, "change "+name(i), 10, l, r.Events(), x.want)
	}
	l := r.Tickets()
	l[0].Pledge, l[2].Pledge = "z", "z" // also of the one that took its place
	proper(t, "another name", 10, l, r.Events(), true)
	l = append(r.Tickets(), api.Ticket{Number: 7, Pledge: "z", State: api.TicketLive, Edge: one()})
	proper(t, "a ticket more", 10, l, r.Events(), false)
	proper(t, "that is issued", 10, l, append(r.Events(), api.Event{Kind: api.RollIssue, Day: 21, Last: 7, Many: 1}), true)
	l = r.Tickets()
	l[3], l[4] = l[4], l[3]
	proper(t, "another order", 10, l, r.Events(), false)
}

// P3.6: events that did not happen like this
func TestProperEvents(t *testing.T) {
	r := long(t)
	for at := range r.Events() {
		for i, change := range []func(v *api.Event, n int){
			func(v *api.Event, n int) { v.Kind = n },
			func(v *api.Event, n int) { v.Number = n },
			func(v *api.Event, n int) { v.Last = n },
			func(v *api.Event, n int) { v.Many = n },
		} {
			for _, n := range append(beyond(0, 9), 0, 1, 2, 3, 4, 5, 6, 7, 8, 97, 100000000) {
				l := r.Events()
				change(&l[at], n)
				proper(t, "a change of the kind "+name(i), 10, r.Tickets(), l, l[at] == r.Events()[at])
			}
		}
		for _, day := range append(beyond(0, api.MaxDay), 22) {
			l := r.Events()
			l[at].Day = day // the last ticket is blocked since another day
			proper(t, "another day", 10, r.Tickets(), l, false)
		}
	}
	l := r.Events()
	l[0].Day, l[7].Day, l[8].Day = 0, 18, 18
	proper(t, "other days", 10, r.Tickets(), l, true)
	l[7].Day, l[8].Day = 21, 20
	proper(t, "days in another order", 10, r.Tickets(), l, false)
	for i := 1; i < len(l); i++ {
		l := r.Events()
		l[i-1], l[i] = l[i], l[i-1]
		l[i-1].Day, l[i].Day = l[i].Day, l[i-1].Day
		proper(t, "two events in another order", 0, r.Tickets(), l, slices.Contains([]int{4, 7, 8, 9}, i)) // of different tickets
	}
}

// P3.6: at most 256 tickets, also in a list of any length
func TestProperFull(t *testing.T) {
	r := full(t)
	proper(t, "full", 0, r.Tickets(), r.Events(), true)
	more := append(r.Tickets(), api.Ticket{Number: 257, Pledge: "new", State: api.TicketLive, Edge: one()})
	proper(t, "more than full", 0, more, append(r.Events(), api.Event{Kind: api.RollIssue, Last: 257, Many: 1}), false)
	proper(t, "a long list", 0, make([]api.Ticket, 100000), r.Events(), false)
	for _, n := range []int{2, 256, 257} {
		proper(t, "all at once", 0, more[:n], []api.Event{{Kind: api.RollIssue, Last: n, Many: n}}, false)
	}
}

// retold reports whether a slow roll to which the events happen has the tickets.
func retold(wait int, tickets []api.Ticket, events []api.Event) bool {
	s := &slow{wait: wait}
	for i, v := range events {
		a := ask{kind: v.Kind, day: v.Day, code: slowCode(v.Number)}
		if v.Number < 1 {
			a.code = ""
		} else if v.Number <= len(s.tickets) {
			a.half = s.tickets[v.Number-1].Edge
		}
		for k := len(s.tickets); k < len(tickets) && k-len(s.tickets) < v.Many; k++ {
			a.pledges, a.edges = append(a.pledges, tickets[k].Pledge), append(a.edges, tickets[k].Edge)
		}
		if s.do(a).e != api.OK || s.events[i] != v {
			return false
		}
	}
	return sameTickets(s.tickets, tickets)
}

// spoil changes something of tickets or of events.
func spoil(r *rand.Rand, tickets []api.Ticket, events []api.Event) ([]api.Ticket, []api.Event) {
	tickets, events = copies(tickets), slices.Clone(events)
	i, k := r.IntN(len(tickets)), r.IntN(len(events))
	change := r.IntN(6) - 2
	switch r.IntN(10) {
	case 0:
		tickets[i].State += change
	case 1:
		tickets[i].Pledge = somePledge(r, len(tickets))
	case 2:
		tickets[i].Edge[r.IntN(len(tickets[i].Edge))] += change
	case 3:
		tickets[i].Comes = max(0, tickets[i].Comes+change)
	case 4:
		events[k].Day += change
	case 5:
		events[k].Number += change
	case 6:
		events[k].Kind = r.IntN(9)
	case 7:
		events[k].Many, events[k].Last = events[k].Many+change, events[k].Last+change
	case 8:
		events = append(events[:k:k], append([]api.Event{events[r.IntN(len(events))]}, events[k:]...)...)
	case 9:
		events = slices.Delete(events, k, k+1)
	}
	return tickets, events
}

// P3.6: Proper is right of any roll of which something is changed
func TestProperAny(t *testing.T) {
	r := random(6)
	good := 0
	for range 3000 {
		x, s, wait := someRoll(t, r)
		proper(t, "a roll", wait, x.Tickets(), x.Events(), true)
		if len(s.tickets) == 0 {
			continue
		}
		for range 10 {
			tickets, events := spoil(r, s.tickets, s.events)
			want := retold(wait, tickets, events)
			proper(t, "a spoilt roll", wait, tickets, events, want)
			if want {
				good++
			}
		}
	}
	if good < 1000 {
		t.Errorf("only %d spoilt rolls are proper", good)
	}
}
