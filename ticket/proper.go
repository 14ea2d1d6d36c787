package ticket

import "lombard/api"

// Proper reports whether there is a roll with these tickets and events.
func Proper(wait int, tickets []api.Ticket, events []api.Event) (bool, api.Errno) {
	r, e := New(wait)
	if e != api.OK {
		return false, e
	}
	for _, v := range events {
		if c, e := r.do(r.book.orderOf(v, tickets)); e != api.OK || c.Event != v {
			return false, api.OK
		}
	}
	return alike(r.Tickets(), tickets, isSame), api.OK
}

// orderOf returns the order that an event tells of, if these are the tickets in the end. Any half that fits may have been brought, also the whole edge.
// Where there are not so many new tickets as the event says, what happens is not that event.
func (b *book) orderOf(v api.Event, tickets []api.Ticket) order {
	o := order{Event: event(v.Kind, v.Day)}
	if within(v.Number, 1, len(b.tickets)) {
		named := b.tickets[v.Number-1]
		o.code, o.half = named.code, named.Edge
	}
	later := tickets[len(b.tickets):]
	for _, t := range later[:max(0, min(v.Many, len(later)))] {
		o.pledges = append(o.pledges, t.Pledge)
		o.edges = append(o.edges, t.Edge)
	}
	return o
}

func isSame(a, b api.Ticket) bool {
	edges := alike(a.Edge, b.Edge, func(x, y int) bool { return x == y })
	return edges && a.Number == b.Number && a.Pledge == b.Pledge && a.State == b.State && a.Since == b.Since && a.Comes == b.Comes
}
