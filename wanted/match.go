package wanted

import "lombard/api"

// saying is a word that is said where nothing was said, and what was said elsewhere before it.
type saying struct {
	place  *string
	word   string
	before *saying
}

// completions have for each set of clauses what must be said so that exactly these are met, by allowed words alone; nil if that is not possible.
type completions [1 << api.MaxClauses]*saying

// said returns the one completion with which nothing more is said; none, if a word is not allowed already.
func (p goods) said(x sought) completions {
	var c completions
	met := 0
	for word := range words(p.item) {
		if !x.allows(word) {
			return c
		}
		met |= x.meets(word)
	}
	c[met] = &saying{}
	return c
}

// completions returns all that may be met.
func (p goods) completions(x sought) completions {
	c := p.said(x)
	for place, values := range p.blanks() {
		c = c.with(x, place, filter(values, x.allows))
	}
	return c
}

// with returns these completions, and those in which also one of some words is said.
func (c completions) with(x sought, place *string, choice []string) completions {
	more := c
	for _, word := range choice {
		met := x.meets(word)
		for set, before := range c {
			if before != nil && more[set|met] == nil {
				more[set|met] = &saying{place, word, before}
			}
		}
	}
	return more
}

func (p goods) mayMatch(x sought) bool { return p.completions(x)[x.all()] != nil }

// surelyMatch reports whether goods match already, and nothing that may be said changes that.
func (p goods) surelyMatch(x sought) bool {
	for _, values := range p.blanks() {
		if len(filter(values, x.allows)) < len(values) {
			return false
		}
	}
	return p.said(x)[x.all()] != nil
}

// open returns a description and an entry as what is looked for, or their first error.
func open(g []api.Class, l []api.Pair, d api.Item, x api.Entry) (goods, sought, api.Errno) {
	list := []api.Entry{x}
	if e := check(g, l, []api.Item{d}, list); e != api.OK {
		return goods{}, sought{}, e
	}
	return goodsOf(g, d), seek(l, list)[0], api.OK
}

// Match reports whether a description surely matches an entry, and whether it may.
func Match(g []api.Class, l []api.Pair, d api.Item, x api.Entry) (sure, may bool, e api.Errno) {
	p, y, e := open(g, l, d, x)
	if e != api.OK {
		return false, false, e
	}
	return p.surelyMatch(y), p.mayMatch(y), api.OK
}

// Example returns a completion that matches an entry.
func Example(g []api.Class, l []api.Pair, d api.Item, x api.Entry) (api.Item, api.Errno) {
	p, y, e := open(g, l, d, x)
	if e != api.OK {
		return api.Item{}, e
	}
	last := p.completions(y)[y.all()]
	if last == nil {
		return api.Item{}, api.ErrNone
	}
	for s := last; s.before != nil; s = s.before {
		*s.place = s.word
	}
	return p.item, api.OK
}
