package wanted

import (
	"iter"
	"slices"

	"lombard/api"
	"lombard/pledge"
)

// items yields an item, its parts, and their parts.
func items(x api.Item) iter.Seq[api.Item] {
	return func(yield func(api.Item) bool) {
		for rest := []api.Item{x}; len(rest) > 0; {
			next := rest[0]
			if !yield(next) {
				return
			}
			rest = append(rest[1:], next.Parts...)
		}
	}
}

// words yields the words of a description, as often as it has them.
func words(d api.Item) iter.Seq[string] {
	return func(yield func(string) bool) {
		for x := range items(d) {
			if !yield(x.Class) {
				return
			}
			for _, said := range x.Says {
				if said != "" && !yield(said) {
					return
				}
			}
		}
	}
}

// Words returns the words of a description.
func Words(g []api.Class, d api.Item) ([]string, api.Errno) {
	if e := pledge.Check(g, d); e != api.OK {
		return nil, e
	}
	return slices.Compact(slices.Sorted(words(d))), api.OK
}

// Completes reports whether a description is a completion of another one.
func Completes(g []api.Class, d, of api.Item) (bool, api.Errno) {
	covered, e := pledge.Covers(g, of, d)
	if e != api.OK {
		return false, e
	}
	// What is covered says the same, or more. With equally many items it has no part more.
	n, _, _ := pledge.Count(g, d)
	m, _, _ := pledge.Count(g, of)
	return covered && n == m, api.OK
}

// goods are a pledge that is held against entries: its description, and the traits of each class.
type goods struct {
	item   api.Item
	traits map[string][]api.Trait
}

// goodsOf copies the description, since more may be said in it.
func goodsOf(g []api.Class, d api.Item) goods {
	traits := map[string][]api.Trait{}
	for _, c := range g {
		traits[c.Name] = c.Traits
	}
	return goods{copied(d), traits}
}

func copied(x api.Item) api.Item {
	parts := make([]api.Item, len(x.Parts))
	for i, part := range x.Parts {
		parts[i] = copied(part)
	}
	return api.Item{Class: x.Class, Says: slices.Clone(x.Says), Parts: parts}
}

// blanks yields each place at which nothing is said of a trait, and what may be said there.
func (p goods) blanks() iter.Seq2[*string, []string] {
	return func(yield func(*string, []string) bool) {
		for x := range items(p.item) {
			for i, t := range p.traits[x.Class] {
				if x.Says[i] == "" && !yield(&x.Says[i], t.Values) {
					return
				}
			}
		}
	}
}
