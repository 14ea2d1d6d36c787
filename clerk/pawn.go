package clerk

import (
	"slices"
	"strings"

	"lombard/api"
	"lombard/loan"
	"lombard/pledge"
)

func (x *line) take() string {
	name, number := x.token(), x.numbers()
	wish, weight := number(), api.Span{Min: number(), Max: number()}
	c := api.Carry{Kind: api.CarryIn, Bag: len(x.pawns), To: number(), Seal: number(), Suits: number(), By: number(), With: number()}
	edge := x.edge()
	x.mark(":")
	text := strings.Join(x.rest(), blank)
	x.changes()
	item, e := pledge.Parse(x.shop.Grammar, text)
	require(e == api.OK, e)
	sum := x.lend(item, weight, wish)
	require(sum <= x.cash, api.ErrCash)
	x.carry(c)
	code, e := x.roll.Issue(name, edge, x.day)
	require(e == api.OK, e)
	x.pawns = append(x.pawns, api.Pawn{Name: name, Item: item, Deal: dealOf(x.shop, x.day, sum)})
	x.cash -= sum
	return answer(code, answer(sum))
}

// lend returns what must be lent on a pledge. It asks for nothing but what the pledge is, its weight, and the wish: not who brings it.
func (x *line) lend(item api.Item, weight api.Span, wish int) int {
	kind := slices.Index(x.shop.Kinds, item.Class)
	require(kind >= 0, api.ErrNone)
	x.needFree(item)
	market := x.shop.Market
	market.Day, market.Metal = x.day, x.metal
	value, e := loan.Value(market, api.Ware{Kind: kind, Weight: weight})
	require(e == api.OK, e)
	terms, e := loan.For(x.shop.Rules, item.Class)
	require(e == api.OK, e)
	sum, e := loan.Lend(terms, value, wish)
	require(e == api.OK, e)
	return sum
}

func (x *line) pay() string {
	code, n := x.token(), x.number()
	x.changes()
	pawn, _ := x.find(code)
	_, after := x.act(pawn, api.ActPay, n)
	x.cash += n
	return answer(after.Principal)
}

func (x *line) renew() string {
	code := x.token()
	x.changes()
	pawn, _ := x.find(code)
	before, after := x.act(pawn, api.ActRenew, 0)
	paid := after.Paid - before.Paid
	x.cash += paid
	return answer(paid)
}

func (x *line) pause() string {
	code, days := x.token(), x.number()
	x.changes()
	pawn, _ := x.find(code)
	x.act(pawn, api.ActHold, days)
	return ""
}

func (x *line) redeem() string {
	code, half, number := x.token(), x.half(), x.numbers()
	c := api.Carry{Kind: api.CarryOut, By: number(), With: number()}
	x.changes()
	pawn, _ := x.find(code)
	x.needFree(x.pawns[pawn].Item)
	before, after := x.act(pawn, api.ActRedeem, 0)
	c.Bag = pawn
	x.carry(c)
	name, e := x.roll.Redeem(code, half, x.day)
	require(e == api.OK, e)
	paid := after.Paid - before.Paid + before.Principal
	x.cash += paid
	return answer(name, answer(paid))
}

func (x *line) block() string {
	code := x.token()
	x.changes()
	e := x.roll.Block(code, x.day)
	require(e == api.OK, e)
	return ""
}

func (x *line) free() string {
	code, half := x.token(), x.half()
	x.changes()
	e := x.roll.Free(code, half, x.day)
	require(e == api.OK, e)
	return ""
}

func (x *line) replace() string {
	code, edge := x.token(), x.edge()
	x.changes()
	next, e := x.roll.Replace(code, edge, x.day)
	require(e == api.OK, e)
	return next
}
