package pledge_test

import (
	"math/rand/v2"
	"slices"
	"strconv"
	"strings"
	"testing"

	"lombard/api"
	"lombard/pledge"
)

// shop is the grammar of the document.
func shop() []api.Class {
	return []api.Class{
		{Name: "ring", Traits: []api.Trait{
			{Name: "metal", Values: []string{"gold", "silver"}, Must: true},
			{Name: "size", Values: []string{"small", "large"}},
		}, Parts: []string{"gem"}, Most: 2},
		{Name: "gem", Traits: []api.Trait{{Name: "cut", Values: []string{"round", "oval"}}}},
	}
}

// gem is a gem of the document's grammar.
func gem(cut string) api.Item { return api.Item{Class: "gem", Says: []string{cut}} }

// ring is a ring of gold of the document's grammar.
func ring(size string, gems ...api.Item) api.Item {
	return api.Item{Class: "ring", Says: []string{"gold", size}, Parts: gems}
}

// nest is a grammar of boxes in boxes, and of bags without traits.
func nest() []api.Class {
	return []api.Class{
		{Name: "box", Traits: []api.Trait{{Name: "hue", Values: []string{"b", "c"}}}, Parts: []string{"box", "bag"}, Most: 6},
		{Name: "bag"},
	}
}

// box is a box of the grammar nest.
func box(hue string, parts ...api.Item) api.Item {
	return api.Item{Class: "box", Says: []string{hue}, Parts: parts}
}

// random returns the same numbers in each run.
func random(seed uint64) *rand.Rand { return rand.New(rand.NewPCG(seed, 1)) }

// number is a word for a number.
func number(n int) string { return "n" + strconv.Itoa(n) }

// numbers are n different words.
func numbers(n int) []string {
	var l []string
	for i := range n {
		l = append(l, number(i))
	}
	return l
}

// someItem is a random description of the grammar nest, with so many items at most.
func someItem(r *rand.Rand, deep int, left *int) api.Item {
	*left--
	if r.IntN(4) == 0 && deep > 1 {
		return api.Item{Class: "bag"}
	}
	x := box([]string{"", "b", "c"}[r.IntN(3)])
	for range r.IntN(4) {
		if deep < 3 && *left > 0 {
			x.Parts = append(x.Parts, someItem(r, deep+1, left))
		}
	}
	return x
}

// someItems are random descriptions of the grammar nest.
func someItems(r *rand.Rand, n, most int) []api.Item {
	var l []api.Item
	for range n {
		left := most
		l = append(l, someItem(r, 1, &left))
	}
	return l
}

// same reports whether two items are the same value; a nil and an empty list are.
func same(a, b api.Item) bool {
	return a.Class == b.Class && slices.Equal(a.Says, b.Says) && slices.EqualFunc(a.Parts, b.Parts, same)
}

// isZero reports whether an item is the zero value.
func isZero(x api.Item) bool { return x.Class == "" && len(x.Says) == 0 && len(x.Parts) == 0 }

// copied is a copy of an item that shares no memory with it.
func copied(x api.Item) api.Item {
	y := api.Item{Class: x.Class, Says: slices.Clone(x.Says)}
	for _, part := range x.Parts {
		y.Parts = append(y.Parts, copied(part))
	}
	return y
}

// spelt is the text of an item of the grammars shop and nest, written anew.
func spelt(g []api.Class, x api.Item) string {
	i := slices.IndexFunc(g, func(c api.Class) bool { return c.Name == x.Class })
	s := x.Class
	for j, t := range g[i].Traits {
		if x.Says[j] != "" {
			s += " " + t.Name + "=" + x.Says[j]
		}
	}
	if len(x.Parts) == 0 {
		return s
	}
	var parts []string
	for _, part := range x.Parts {
		parts = append(parts, spelt(g, part))
	}
	return s + " ( " + strings.Join(parts, " ; ") + " )"
}

// printed is the text of a valid description.
func printed(t *testing.T, g []api.Class, x api.Item) string {
	t.Helper()
	s, e := pledge.Print(g, x)
	if e != api.OK {
		t.Fatalf("Print(%v): error %d", x, e)
	}
	return s
}

// errs checks that an error is the one that is wanted.
func errs(t *testing.T, name string, got, want api.Errno) {
	t.Helper()
	if got != want {
		t.Errorf("%s: error %d, want %d", name, got, want)
	}
}
