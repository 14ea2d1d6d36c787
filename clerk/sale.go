package clerk

import (
	"slices"

	"lombard/api"
	"lombard/auction"
)

// codes reads the codes in front of the last token ":", 1 to 8 of them. (Behind it there are numbers alone.)
func (x *line) codes() []string {
	n := len(x.tokens) - 1
	for n >= 0 && x.tokens[n] != ":" {
		n--
	}
	require(within(n, 1, api.MaxLotOf), api.ErrLine)
	l := x.tokens[:n]
	x.tokens = x.tokens[n+1:]
	return l
}

func (x *line) bids() []api.Bid {
	number := x.numbers()
	var l []api.Bid
	for len(x.tokens) > 0 {
		l = append(l, api.Bid{Bidder: number(), Way: number(), Most: number()})
	}
	return l
}

// forSale returns the pledge of a code, which must be one that can be sold, and none of those before it.
func (x *line) forSale(code string, before []int) int {
	pawn, t := x.find(code)
	require(!slices.Contains(before, pawn), api.ErrName)
	require(t.State != api.TicketBlocked, api.ErrBlocked)
	require(x.account(pawn).Age > x.shop.Tariff.Term+x.shop.Tariff.Grace, api.ErrTerm)
	x.needFree(x.pawns[pawn].Item)
	return pawn
}

// part returns a pledge as a part of a lot: of the price, first what the sale costs is paid, then what is due, and then the loan itself.
func (x *line) part(pawn, cost int) api.Part {
	account := x.account(pawn)
	return api.Part{
		Pledge: x.pawns[pawn].Name,
		Value:  account.Principal,
		Dues:   []api.Due{{Rank: 0, Amount: cost}, {Rank: 1, Amount: due(account)}, {Rank: 2, Amount: account.Principal}},
	}
}

// reserveOf returns the sum of all dues of a lot.
func reserveOf(parts []api.Part) int {
	sum := 0
	for _, p := range parts {
		for _, d := range p.Dues {
			sum += d.Amount
		}
	}
	return sum
}

func (x *line) sell() string {
	number := x.numbers()
	cost, c := number(), api.Carry{Kind: api.CarryOut, By: number(), With: number()}
	codes, bids := x.codes(), x.bids()
	x.changes()
	var pawns []int
	for _, code := range codes {
		pawns = append(pawns, x.forSale(code, pawns))
	}
	require(cost <= api.MaxDue, api.ErrRange)
	parts := each(pawns, func(pawn int) api.Part { return x.part(pawn, cost) })
	knock, e := auction.Sell(lotOf(x.shop, reserveOf(parts)), bids)
	require(e == api.OK, e)
	require(knock.Winner != api.NoBidder, api.ErrUnsold)
	for _, pawn := range pawns {
		c.Bag = pawn
		x.carry(c)
	}
	portions, e := x.purse.Sell(x.day, knock.Price, parts)
	require(e == api.OK, e)
	// The tickets are live, and of different pledges: so none of them is refused any more.
	tokens := []string{answer(knock.Winner, knock.Price)}
	for i, code := range codes {
		name, e := x.roll.Forfeit(code, x.day)
		require(e == api.OK, e)
		tokens = append(tokens, name, answer(portions[i].Left))
	}
	x.cash += knock.Price
	return answer(tokens...)
}
