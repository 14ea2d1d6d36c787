package clerk

import (
	"lombard/api"
	"lombard/purse"
	"lombard/vault"
	"lombard/wanted"
)

// commands returns what does a line, by its first token. Each command first reads its whole line, since a line that is wrong has no other error.
func commands() map[string]func(*line) string {
	return map[string]func(*line) string{
		"day":     (*line).setDay,
		"metal":   (*line).setMetal,
		"take":    (*line).take,
		"pay":     (*line).pay,
		"renew":   (*line).renew,
		"rest":    (*line).pause,
		"redeem":  (*line).redeem,
		"block":   (*line).block,
		"free":    (*line).free,
		"replace": (*line).replace,
		"list":    (*line).list,
		"sell":    (*line).sell,
		"claim":   (*line).claim,
		"pass":    (*line).pass,
		"give":    (*line).give,
		"move":    (*line).move,
		"check":   (*line).check,
		"open":    (*line).open,
		"owe":     (*line).owe,
		"where":   (*line).where,
		"holds":   (*line).holds,
		"cash":    (*line).count,
	}
}

func (x *line) setDay() string {
	day := x.number()
	x.changes()
	require(within(day, x.day, api.MaxDay), api.ErrDay)
	x.day = day
	return ""
}

func (x *line) setMetal() string {
	metal := x.number()
	x.changes()
	require(metal <= api.MaxMetal, api.ErrRange)
	x.metal = metal
	return ""
}

// words reads words of a list of entries, at least one.
func (x *line) words() []string {
	return x.while(func(token string) bool { return token != ";" && token != "!" })
}

func (x *line) list() string {
	entry := api.Entry{Day: x.day, Until: x.number()}
	x.mark(":")
	entry.Clauses = append(entry.Clauses, x.words())
	for x.skip(";") {
		entry.Clauses = append(entry.Clauses, x.words())
	}
	if x.skip("!") {
		entry.Not = x.words()
	}
	x.changes()
	require(wanted.CheckEntry(entry) == api.OK, api.ErrEntry)
	index := len(x.entries)
	require(index < api.MaxEntries, api.ErrFull)
	x.entries = append(x.entries, entry)
	return answer(index)
}

func (x *line) claim() string {
	name := x.token()
	x.changes()
	owed, e := x.purse.Owed(name)
	require(e == api.OK, e)
	// The purse is asked for the sum only when there is enough cash, but has to refuse it before that.
	require(owed.State == api.SurplusHeld && x.day < owed.Day+x.shop.Years, api.ErrSurplus)
	require(owed.Sum <= x.cash, api.ErrCash)
	sum, e := x.purse.Pay(x.day, name)
	require(e == api.OK, e)
	x.cash -= sum
	return answer(sum)
}

func (x *line) pass() string {
	x.changes()
	sum, e := x.purse.Pass(x.day)
	require(e == api.OK, e)
	return answer(sum)
}

func (x *line) give() string {
	number := x.numbers()
	weights := []int{number()}
	for len(x.tokens) > 0 {
		weights = append(weights, number())
	}
	x.changes()
	// Whether these are weights does not depend on the sum.
	_, e := purse.Share(weights, 0)
	require(e == api.OK, e)
	_, welfare, e := x.purse.Holds()
	require(e == api.OK, e)
	require(welfare <= x.cash, api.ErrCash)
	given, e := x.purse.Give(x.day, weights)
	require(e == api.OK, e)
	x.cash -= welfare
	return answer(given...)
}

func (x *line) move() string {
	name, number := x.token(), x.numbers()
	c := api.Carry{Kind: api.CarryMove, To: number(), By: number(), With: number()}
	x.changes()
	c.Bag = x.named(name)
	x.carry(c)
	return ""
}

func (x *line) check() string { return x.sealed(api.CarryCheck) }

func (x *line) open() string { return x.sealed(api.CarryOpen) }

// sealed does a carry of a kind that has a seal and no room.
func (x *line) sealed(kind int) string {
	name, number := x.token(), x.numbers()
	c := api.Carry{Kind: kind, Seal: number(), By: number(), With: number()}
	x.changes()
	c.Bag = x.named(name)
	x.carry(c)
	return ""
}

func (x *line) owe() string {
	code := x.token()
	x.asks()
	pawn, _ := x.find(code)
	account := x.account(pawn)
	return answer(account.Principal, due(account), account.Age)
}

func (x *line) where() string {
	name := x.token()
	x.asks()
	room, e := vault.Where(x.shop.Strong, x.carries, x.named(name), x.day)
	require(e == api.OK, e)
	return answer(room)
}

func (x *line) holds() string {
	name := x.token()
	x.asks()
	return answer(x.holding(x.pawns[x.named(name)].Item)...)
}

func (x *line) count() string {
	x.asks()
	waits, welfare, e := x.purse.Holds()
	require(e == api.OK, e)
	return answer(x.cash, waits, welfare)
}
