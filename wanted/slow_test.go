package wanted_test

import (
	"slices"

	"lombard/api"
)

// The functions here are written anew from the definitions of the document, each as it is said there.

// slowMeans are all words that a word means.
func slowMeans(l []api.Pair, word string) []string {
	reached := []string{word}
	for i := 0; i < len(reached); i++ {
		for _, p := range l {
			if p.Said == reached[i] && !slices.Contains(reached, p.Listed) {
				reached = append(reached, p.Listed)
			}
		}
	}
	slices.Sort(reached)
	return reached
}

func slowWords(d api.Item) []string {
	l := []string{d.Class}
	for _, said := range d.Says {
		if said != "" {
			l = append(l, said)
		}
	}
	for _, part := range d.Parts {
		l = append(l, slowWords(part)...)
	}
	return l
}

// slowCompletions are all completions of a description that have its parts in its order.
func slowCompletions(g []api.Class, d api.Item) []api.Item {
	l := []api.Item{{Class: d.Class}}
	for i, trait := range classOf(g, d.Class).Traits {
		choice := []string{d.Says[i]}
		if d.Says[i] == "" {
			choice = append(choice, trait.Values...)
		}
		var next []api.Item
		for _, x := range l {
			for _, said := range choice {
				next = append(next, api.Item{Class: x.Class, Says: append(slices.Clone(x.Says), said)})
			}
		}
		l = next
	}
	for _, part := range d.Parts {
		var next []api.Item
		for _, x := range l {
			for _, y := range slowCompletions(g, part) {
				next = append(next, api.Item{Class: x.Class, Says: x.Says, Parts: append(slices.Clone(x.Parts), y)})
			}
		}
		l = next
	}
	return l
}

// slowCompletes reports whether a description is a completion of another one, with its parts in any order.
func slowCompletes(d, of api.Item) bool {
	if d.Class != of.Class || len(d.Parts) != len(of.Parts) {
		return false
	}
	for i, said := range of.Says {
		if said != "" && said != d.Says[i] {
			return false
		}
	}
	if len(d.Parts) == 0 {
		return true
	}
	for i, part := range d.Parts {
		others := api.Item{Parts: slices.Delete(slices.Clone(d.Parts), i, i+1)}
		if slowCompletes(part, of.Parts[0]) && slowCompletes(others, api.Item{Parts: of.Parts[1:]}) {
			return true
		}
	}
	return false
}

// slowCase is what one completion does: which clauses it meets, and whether a word of it means a word of Not.
type slowCase struct {
	met    []bool
	banned bool
}

// slowCases are what all completions do.
func (w world) slowCases(x api.Entry) []slowCase {
	known := map[string][]string{}
	meets := func(d api.Item, clause []string) bool {
		return slices.ContainsFunc(slowWords(d), func(word string) bool {
			if known[word] == nil {
				known[word] = slowMeans(w.l, word)
			}
			return slices.ContainsFunc(clause, func(listed string) bool { return slices.Contains(known[word], listed) })
		})
	}
	var l []slowCase
	for _, d := range slowCompletions(w.g, w.d) {
		var met []bool
		for _, clause := range x.Clauses {
			met = append(met, meets(d, clause))
		}
		l = append(l, slowCase{met, meets(d, x.Not)})
	}
	return l
}

// matches reports whether all of some clauses are met without a word of Not.
func (c slowCase) matches(clauses []int) bool {
	return !c.banned && !slices.ContainsFunc(clauses, func(i int) bool { return !c.met[i] })
}

// slowMatch returns whether all cases, and whether any of them, are such that all of some clauses are met without a word of Not.
func slowMatch(cases []slowCase, clauses []int) (sure, may bool) {
	sure = true
	for _, c := range cases {
		sure = sure && c.matches(clauses)
		may = may || c.matches(clauses)
	}
	return sure, may
}

func slowMay(cases []slowCase, clauses []int) bool {
	_, may := slowMatch(cases, clauses)
	return may
}

// allOf are the indices of all clauses of an entry.
func allOf(x api.Entry) []int {
	var l []int
	for i := range x.Clauses {
		l = append(l, i)
	}
	return l
}

// selections are all strictly increasing lists of the indices below a number; short ones first, then in their order.
func selections(n int) [][]int {
	var out [][]int
	for set := range 1 << n {
		var l []int
		for i := range n {
			if set>>i&1 == 1 {
				l = append(l, i)
			}
		}
		out = append(out, l)
	}
	slices.SortFunc(out, func(a, b []int) int {
		if len(a) != len(b) {
			return len(a) - len(b)
		}
		return slices.Compare(a, b)
	})
	return out
}

// slowReason returns the fewest clauses of so many that explain that there is no match, and whether there are any.
func slowReason(cases []slowCase, many int) ([]int, bool) {
	for _, l := range selections(many) {
		if !slowMay(cases, l) {
			return l, true
		}
	}
	return nil, false
}

func slowIsOpen(x api.Entry, day int) bool {
	return day >= x.Day && (x.Until == 0 || day < x.Until)
}

// slowMays are whether the description may match each entry of the list.
func (w world) slowMays() []bool {
	var l []bool
	for _, x := range w.list {
		l = append(l, slowMay(w.slowCases(x), allOf(x)))
	}
	return l
}

// slowHeld are the entries that are open on a day and may match.
func slowHeld(list []api.Entry, mays []bool, day int) []int {
	var l []int
	for i, x := range list {
		if mays[i] && slowIsOpen(x, day) {
			l = append(l, i)
		}
	}
	return l
}
