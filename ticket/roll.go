package ticket

import (
	"slices"

	"lombard/api"
)

// Roll is a roll of tickets.
type Roll struct{ book *book }

// New returns a roll without tickets.
func New(wait int) (*Roll, api.Errno) {
	if !within(wait, 0, api.MaxWait) {
		return nil, api.ErrRange
	}
	return &Roll{&book{wait: wait}}, api.OK
}

// isNil reports whether a roll is nil, or was not made by New.
func (r *Roll) isNil() bool { return r == nil || r.book == nil }

// do does a call.
func (r *Roll) do(o order) (call, api.Errno) {
	if r.isNil() {
		return call{}, api.ErrNil
	}
	return r.book.do(o)
}

// Issue issues a ticket.
func (r *Roll) Issue(pledge string, edge []int, day int) (string, api.Errno) {
	c, e := r.do(order{Event: event(api.RollIssue, day), pledges: []string{pledge}, edges: [][]int{edge}})
	return c.newest(), e
}

// Block blocks a ticket.
func (r *Roll) Block(code string, day int) api.Errno {
	_, e := r.do(order{Event: event(api.RollBlock, day), code: code})
	return e
}

// Free frees a ticket that is blocked.
func (r *Roll) Free(code string, half []int, day int) api.Errno {
	_, e := r.do(order{Event: event(api.RollFree, day), code: code, half: half})
	return e
}

// Replace replaces a ticket that is blocked.
func (r *Roll) Replace(code string, edge []int, day int) (string, api.Errno) {
	c, e := r.do(order{Event: event(api.RollReplace, day), code: code, edges: [][]int{edge}})
	return c.newest(), e
}

// Divide divides a ticket.
func (r *Roll) Divide(code string, half []int, pledges []string, edges [][]int, day int) ([]string, api.Errno) {
	c, e := r.do(order{Event: event(api.RollDivide, day), code: code, half: half, pledges: pledges, edges: edges})
	return c.codes, e
}

// Redeem redeems a pledge.
func (r *Roll) Redeem(code string, half []int, day int) (string, api.Errno) {
	c, e := r.do(order{Event: event(api.RollRedeem, day), code: code, half: half})
	return c.named.Pledge, e
}

// Forfeit forfeits a pledge.
func (r *Roll) Forfeit(code string, day int) (string, api.Errno) {
	c, e := r.do(order{Event: event(api.RollForfeit, day), code: code})
	return c.named.Pledge, e
}

// Tickets returns all tickets.
func (r *Roll) Tickets() []api.Ticket {
	if r.isNil() {
		return nil
	}
	var l []api.Ticket
	for _, t := range r.book.tickets {
		told := t.Ticket
		told.Edge = slices.Clone(t.Edge)
		l = append(l, told)
	}
	return l
}

// Events returns all events.
func (r *Roll) Events() []api.Event {
	if r.isNil() {
		return nil
	}
	return slices.Clone(r.book.events)
}

// Live returns the code of the ticket of a pledge that is live or blocked.
func (r *Roll) Live(pledge string) (string, api.Errno) {
	if r.isNil() {
		return "", api.ErrNil
	}
	for _, t := range r.book.tickets {
		if t.Pledge == pledge && !t.isSpent() {
			return t.code, api.OK
		}
	}
	return "", api.ErrNone
}

// Line returns from which tickets a ticket comes.
func (r *Roll) Line(code string) ([]int, api.Errno) {
	if r.isNil() {
		return nil, api.ErrNil
	}
	t, e := r.book.find(code)
	if e != api.OK {
		return nil, e
	}
	l := []int{t.Number}
	for t.Comes > 0 {
		t = r.book.tickets[t.Comes-1]
		l = append(l, t.Number)
	}
	return l, api.OK
}
