package clerk

import (
	"slices"

	"lombard/api"
	"lombard/loan"
	"lombard/purse"
	"lombard/ticket"
	"lombard/vault"
	"lombard/wanted"
)

// books are what a clerk keeps. Roll and purse cannot be copied: so a line calls for a change of them only when nothing else of it can fail any more.
type books struct {
	shop             api.Shop
	day, metal, cash int
	pawns            []api.Pawn
	carries          []api.Carry
	entries          []api.Entry
	journal          []string
	roll             *ticket.Roll
	purse            *purse.Purse
}

// cut returns a list without room behind it: what is added to it lies elsewhere.
func cut[T any](l []T) []T { return l[:len(l):len(l)] }

// copied returns a copy to which something can be added.
func (b *books) copied() books {
	next := *b
	next.pawns = cut(b.pawns)
	next.carries = cut(b.carries)
	next.entries = cut(b.entries)
	next.journal = cut(b.journal)
	return next
}

// named returns the index of the pledge with a name.
func (b *books) named(name string) int {
	pawn := slices.IndexFunc(b.pawns, func(p api.Pawn) bool { return p.Name == name })
	require(pawn >= 0, api.ErrName)
	return pawn
}

// find returns the ticket with a code, and the index of its pledge.
func (b *books) find(code string) (pawn int, t api.Ticket) {
	n, e := ticket.Number(code)
	require(e == api.OK, e)
	tickets := b.roll.Tickets()
	require(n <= len(tickets), api.ErrNone)
	t = tickets[n-1]
	require(t.State == api.TicketLive || t.State == api.TicketBlocked, api.ErrSpent)
	return b.named(t.Pledge), t
}

// account returns how the loan on a pledge stands.
func (b *books) account(pawn int) api.Account {
	p := b.pawns[pawn]
	x, e := loan.Owe(p.Deal, p.Acts, b.day)
	require(e == api.OK, e)
	return x
}

// due returns what is due of a loan.
func due(x api.Account) int { return x.Charged - x.Paid }

// holding returns the indices of all entries for which a pledge is held.
func (b *books) holding(x api.Item) []int {
	held, e := wanted.Held(b.shop.Grammar, b.shop.Pairs, x, b.entries, b.day)
	require(e == api.OK, e)
	return held
}

// needFree asks for a pledge that is not held.
func (b *books) needFree(x api.Item) { require(len(b.holding(x)) == 0, api.ErrHeld) }

// act does an act with the loan on a pledge, and returns the account before it and after it.
func (b *books) act(pawn, kind, n int) (before, after api.Account) {
	before = b.account(pawn)
	p := b.pawns[pawn]
	p.Acts = append(cut(p.Acts), api.Act{Day: b.day, Kind: kind, N: n})
	out, _, e := loan.Run(p.Deal, p.Acts)
	require(e == api.OK, e)
	// The pledges before it are cut to their length, as this one would be written over otherwise, in the books of which these are a copy.
	b.pawns = append(append(cut(b.pawns[:pawn]), p), b.pawns[pawn+1:]...)
	return before, out[len(out)-1]
}

// carry does a carry on the day.
func (b *books) carry(c api.Carry) {
	c.Day = b.day
	l := append(b.carries, c)
	_, _, e := vault.Play(b.shop.Strong, l)
	require(e == api.OK, e)
	b.carries = l
}
