package ticket

import (
	"lombard/api"
	"lombard/pledge"
)

// order is what a call is asked for. Of its event, the kind and the day are told; the call tells the rest.
type order struct {
	api.Event
	code    string
	half    []int
	pledges []string
	edges   [][]int
}

func event(kind, day int) api.Event { return api.Event{Kind: kind, Day: day} }

// call is an order that is carried out on a copy of a book.
type call struct {
	book
	order
	named ticket   // whose code was brought
	codes []string // of new tickets
}

// newest returns the code of the last new ticket, or nothing if there is none.
func (c call) newest() string {
	if len(c.codes) == 0 {
		return ""
	}
	return c.codes[len(c.codes)-1]
}

// require leaves a call by an error unless something holds.
func require(holds bool, e api.Errno) {
	if !holds {
		panic(e)
	}
}

// attempt carries out a call, and returns the error by which it was left. A panic that is no error of a call is a mistake of the program, which must not look as if all were well.
func (c *call) attempt() (e api.Errno) {
	defer func() {
		switch left := recover().(type) {
		case nil:
		case api.Errno:
			e = left
		default:
			e = api.ErrArg
		}
	}()
	c.run()
	return api.OK
}

func (c *call) run() {
	require(within(c.Day, c.today(), api.MaxDay), api.ErrDay)
	if c.Kind != api.RollIssue {
		c.name()
	}
	steps := map[int]func(*call){
		api.RollIssue:   (*call).issue,
		api.RollBlock:   (*call).block,
		api.RollFree:    (*call).free,
		api.RollReplace: (*call).replace,
		api.RollDivide:  (*call).divide,
		api.RollRedeem:  (*call).redeem,
		api.RollForfeit: (*call).forfeit,
	}
	step, listed := steps[c.Kind]
	require(listed, api.ErrArg)
	step(c)
}

// name finds the ticket whose code is brought.
func (c *call) name() {
	t, e := c.find(c.code)
	require(e == api.OK, e)
	require(!t.isSpent(), api.ErrSpent)
	c.named = *t
	c.Number = t.Number
}

func (c *call) issue() {
	c.needPledges(1, 1)
	c.grow(c.pledges)
}

func (c *call) block() {
	c.needLive()
	c.named.Since = c.Day
	c.turn(api.TicketBlocked)
}

func (c *call) free() {
	c.needBlocked(0)
	c.needHalf()
	c.named.Since = 0
	c.turn(api.TicketLive)
}

func (c *call) replace() {
	c.needBlocked(c.wait)
	c.grow([]string{c.named.Pledge})
	c.named.Since = 0
	c.turn(api.TicketVoid)
}

func (c *call) divide() {
	c.needLive()
	c.needHalf()
	c.needPledges(2, api.MaxDivide)
	c.grow(c.pledges)
	c.turn(api.TicketVoid)
}

func (c *call) redeem() {
	c.needLive()
	c.needHalf()
	c.turn(api.TicketDone)
}

func (c *call) forfeit() {
	c.needLive()
	c.turn(api.TicketGone)
}

func (c *call) needLive() { require(c.named.State == api.TicketLive, api.ErrBlocked) }

// needBlocked asks for a ticket that is blocked, and since at least so many days.
func (c *call) needBlocked(days int) {
	require(c.named.State == api.TicketBlocked && c.Day-c.named.Since >= days, api.ErrEarly)
}

func (c *call) needHalf() {
	_, e := Fit(c.named.Edge, c.half)
	require(e == api.OK, e)
}

// needPledges asks for a number of pledges of which no ticket is one, and no two are the same.
func (c *call) needPledges(least, most int) {
	require(within(len(c.pledges), least, most), api.ErrPledge)
	taken := map[string]bool{}
	for _, t := range c.tickets {
		taken[t.Pledge] = true
	}
	for _, p := range c.pledges {
		require(pledge.IsWord(p) && !taken[p], api.ErrPledge)
		taken[p] = true
	}
}

// grow adds a ticket for each of the pledges, with an edge each.
func (c *call) grow(pledges []string) {
	require(len(c.edges) == len(pledges), api.ErrEdge)
	for _, edge := range c.edges {
		require(isEdge(edge), api.ErrEdge)
	}
	require(len(c.tickets)+len(pledges) <= api.MaxTickets, api.ErrFull)
	for i, p := range pledges {
		c.codes = append(c.codes, c.add(p, c.edges[i], c.Number))
	}
	c.Last, c.Many = len(c.tickets), len(pledges)
}

// turn gives the ticket that is named another state.
func (c *call) turn(state int) {
	c.named.State = state
	c.put(c.named)
}
