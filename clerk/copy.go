package clerk

import (
	"slices"
	"strings"

	"lombard/api"
)

// each returns what a function makes of each element of a list.
func each[T, U any](l []T, do func(T) U) []U {
	out := make([]U, 0, len(l))
	for _, x := range l {
		out = append(out, do(x))
	}
	return out
}

// What follows returns values that share no memory with those of which they are copies. Of a shop, words are copied, too, since they may be parts of longer texts.

func ownShop(s api.Shop) api.Shop {
	s.Grammar = each(s.Grammar, ownClass)
	s.Pairs = each(s.Pairs, ownPair)
	s.Kinds = each(s.Kinds, strings.Clone)
	s.Market.Sales = slices.Clone(s.Market.Sales)
	s.Market.Fade = slices.Clone(s.Market.Fade)
	s.Rules = each(s.Rules, ownRule)
	s.Closed = slices.Clone(s.Closed)
	s.Strong.Rooms = slices.Clone(s.Strong.Rooms)
	s.Strong.Gates = each(s.Strong.Gates, ownGate)
	s.Strong.Staff = slices.Clone(s.Strong.Staff)
	s.Ladder = slices.Clone(s.Ladder)
	return s
}

func ownClass(c api.Class) api.Class {
	c.Name = strings.Clone(c.Name)
	c.Traits = each(c.Traits, ownTrait)
	c.Parts = each(c.Parts, strings.Clone)
	return c
}

func ownTrait(t api.Trait) api.Trait {
	t.Name = strings.Clone(t.Name)
	t.Values = each(t.Values, strings.Clone)
	return t
}

func ownPair(p api.Pair) api.Pair {
	return api.Pair{Said: strings.Clone(p.Said), Listed: strings.Clone(p.Listed)}
}

func ownRule(r api.Rule) api.Rule {
	r.Class = strings.Clone(r.Class)
	return r
}

func ownGate(g api.Gate) api.Gate {
	g.Ways = slices.Clone(g.Ways)
	return g
}

func ownPawn(p api.Pawn) api.Pawn {
	p.Item = ownItem(p.Item)
	p.Deal.Closed = slices.Clone(p.Deal.Closed)
	p.Acts = slices.Clone(p.Acts)
	return p
}

func ownItem(x api.Item) api.Item {
	x.Says = slices.Clone(x.Says)
	x.Parts = each(x.Parts, ownItem)
	return x
}

func ownEntry(x api.Entry) api.Entry {
	x.Clauses = each(x.Clauses, slices.Clone[[]string])
	x.Not = slices.Clone(x.Not)
	return x
}
