package clerk

import (
	"slices"

	"lombard/api"
	"lombard/auction"
	"lombard/loan"
	"lombard/pledge"
	"lombard/vault"
	"lombard/wanted"
)

func within(n, least, most int) bool { return least <= n && n <= most }

// Check checks a shop.
func Check(s api.Shop) api.Errno {
	if !areNumbers(s) || !areParts(s) || !areKinds(s) {
		return api.ErrShop
	}
	return api.OK
}

func areNumbers(s api.Shop) bool {
	return within(s.Cash, 0, api.MaxMoney) && within(s.Wait, 0, api.MaxWait) && within(s.Years, 0, api.MaxYears)
}

// areParts reports whether the layers below allow all that they are given of a shop.
func areParts(s api.Shop) bool {
	_, e := loan.For(s.Rules, "")
	return e != api.ErrTerms &&
		pledge.CheckGrammar(s.Grammar) == api.OK &&
		wanted.CheckPairs(s.Pairs) == api.OK &&
		loan.CheckMarket(s.Market) == api.OK &&
		loan.Check(dealOf(s, s.Market.Day, 1)) == api.OK &&
		vault.Check(s.Strong) == api.OK &&
		auction.Check(lotOf(s, 0)) == api.OK
}

// areKinds reports whether there is a class of the grammar for each kind of the market, a different one for each.
func areKinds(s api.Shop) bool {
	if len(s.Kinds) != len(s.Market.Fade) {
		return false
	}
	for i, name := range s.Kinds {
		isNamed := func(c api.Class) bool { return c.Name == name }
		if slices.Contains(s.Kinds[:i], name) || !slices.ContainsFunc(s.Grammar, isNamed) {
			return false
		}
	}
	return true
}

// dealOf returns a deal on which a shop lends a sum.
func dealOf(s api.Shop, day, sum int) api.Deal {
	return api.Deal{Law: s.Law, Tariff: s.Tariff, Closed: s.Closed, Start: day, Sum: sum}
}

// lotOf returns a lot that a shop sells.
func lotOf(s api.Shop, reserve int) api.Lot {
	return api.Lot{Start: s.Start, Reserve: reserve, Ladder: s.Ladder}
}
