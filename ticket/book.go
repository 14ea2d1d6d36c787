package ticket

import (
	"slices"
	"strings"

	"lombard/api"
)

// ticket is a ticket of a book. A change puts another one in its place, so that copies of a book may share it.
type ticket struct {
	api.Ticket
	code string
}

func (t *ticket) isSpent() bool { return t.State != api.TicketLive && t.State != api.TicketBlocked }

// book is what a roll keeps.
type book struct {
	wait    int
	tickets []*ticket
	events  []api.Event
}

// today returns the day of the roll.
func (b *book) today() int {
	if n := len(b.events); n > 0 {
		return b.events[n-1].Day
	}
	return 0
}

// find returns the ticket with a code.
func (b *book) find(code string) (*ticket, api.Errno) {
	n, e := Number(code)
	if e != api.OK {
		return nil, e
	}
	if n > len(b.tickets) {
		return nil, api.ErrNone
	}
	return b.tickets[n-1], api.OK
}

// copied returns a copy that can be changed. Its slices have no room left: what is added to them lies elsewhere.
func (b *book) copied() book {
	return book{b.wait, b.tickets[:len(b.tickets):len(b.tickets)], b.events[:len(b.events):len(b.events)]}
}

// put puts a ticket in the place of the one with its number. The tickets before it are cut to their length, as those that follow would be written over otherwise, in other copies of the book, too.
func (b *book) put(t ticket) {
	i := t.Number - 1
	b.tickets = append(append(b.tickets[:i:i], &t), b.tickets[i+1:]...)
}

// add adds a live ticket, and returns its code. Of the pledge it keeps a text of its own, which may have been a part of a longer one.
func (b *book) add(pledge string, edge []int, comes int) string {
	n := len(b.tickets) + 1
	told := api.Ticket{Number: n, Pledge: strings.Clone(pledge), State: api.TicketLive, Edge: slices.Clone(edge), Comes: comes}
	b.tickets = append(b.tickets, &ticket{told, codeOf(n)})
	return codeOf(n)
}

// do does a call on a copy, and takes over from it what it has if it found no error.
func (b *book) do(o order) (call, api.Errno) {
	c := call{book: b.copied(), order: o}
	if e := c.attempt(); e != api.OK {
		return call{}, e
	}
	b.tickets = c.tickets
	b.events = append(b.events, c.Event)
	return c, api.OK
}
