package wanted_test

import (
	"math"
	"math/rand/v2"
	"slices"
	"strconv"
	"testing"

	"lombard/api"
	"lombard/wanted"
)

// shop, pairs, jewel and list are the grammar, the pairs, the description and the entries of the document.
func shop() []api.Class {
	return []api.Class{
		{Name: "ring", Traits: []api.Trait{
			{Name: "metal", Values: []string{"gold", "silver"}, Must: true},
			{Name: "size", Values: []string{"small", "large"}},
		}, Parts: []string{"gem"}, Most: 2},
		{Name: "gem", Traits: []api.Trait{{Name: "cut", Values: []string{"round", "oval"}}}},
	}
}

func pairs() []api.Pair {
	return []api.Pair{pair("ring", "jewel"), pair("gold", "yellow"), pair("ruby", "red"), pair("oval", "long")}
}

func jewel() api.Item { return ring("", gem("")) }

func list() []api.Entry {
	return []api.Entry{
		since(5, clause("jewel"), clause("yellow", "silver")),
		since(3, clause("jewel"), clause("round"), clause("long")),
		not(since(1, clause("jewel")), "gold"),
		until(since(4, clause("jewel"), clause("round")), 9),
	}
}

func pair(said, listed string) api.Pair { return api.Pair{Said: said, Listed: listed} }

// gem is a gem of the document's grammar.
func gem(cut string) api.Item { return api.Item{Class: "gem", Says: []string{cut}} }

// ring is a ring of gold of the document's grammar.
func ring(size string, gems ...api.Item) api.Item {
	return api.Item{Class: "ring", Says: []string{"gold", size}, Parts: gems}
}

func clause(words ...string) []string { return words }

func since(day int, clauses ...[]string) api.Entry { return api.Entry{Clauses: clauses, Day: day} }

func until(x api.Entry, day int) api.Entry {
	x.Until = day
	return x
}

func not(x api.Entry, words ...string) api.Entry {
	x.Not = words
	return x
}

// endless is a description that is a part of itself.
func endless() api.Item {
	parts := make([]api.Item, 1)
	parts[0] = api.Item{Class: "ring", Says: []string{"gold", ""}, Parts: parts}
	return parts[0]
}

// notWords are texts that are no words.
func notWords() []string {
	return []string{"", "A", "1a", "-", "a b", "a_", "ab\x00", "\xff", "ä", "abcdefghijklmnopq"}
}

// number is a word for a number.
func number(n int) string { return "n" + strconv.Itoa(n) }

// numbers are words for so many numbers.
func numbers(n int) []string {
	var l []string
	for i := range n {
		l = append(l, number(i))
	}
	return l
}

// random returns the same numbers in each run.
func random(seed uint64) *rand.Rand { return rand.New(rand.NewPCG(seed, 5)) }

// extremes are numbers that no function allows.
func extremes() []int { return []int{math.MinInt, math.MinInt / 2, math.MaxInt / 2, math.MaxInt} }

// beyond are numbers just outside of a range, and far outside.
func beyond(least, most int) []int { return append(extremes(), least-1, most+1) }

// same reports whether two items are the same value; a nil and an empty list are.
func same(a, b api.Item) bool {
	return a.Class == b.Class && slices.Equal(a.Says, b.Says) && slices.EqualFunc(a.Parts, b.Parts, same)
}

// isZero reports whether an item is the zero value.
func isZero(x api.Item) bool { return x.Class == "" && len(x.Says) == 0 && len(x.Parts) == 0 }

// errs checks that an error is the one that is wanted.
func errs(t *testing.T, name string, got, want api.Errno) {
	t.Helper()
	if got != want {
		t.Errorf("%s: error %d, want %d", name, got, want)
	}
}

// world is what may be asked about: a grammar, pairs, descriptions, and entries.
type world struct {
	g    []api.Class
	l    []api.Pair
	d    api.Item
	list []api.Entry
}

func example() world { return world{shop(), pairs(), jewel(), list()} }

// match is what Match returns without an error.
func (w world) match(t *testing.T, x api.Entry) (sure, may bool) {
	t.Helper()
	sure, may, e := wanted.Match(w.g, w.l, w.d, x)
	if e != api.OK {
		t.Fatalf("Match(%v, %v): error %d", w, x, e)
	}
	return sure, may
}

// explains is what Explains returns without an error.
func (w world) explains(t *testing.T, x api.Entry, clauses ...int) bool {
	t.Helper()
	is, e := wanted.Explains(w.g, w.l, w.d, x, clauses)
	if e != api.OK {
		t.Fatalf("Explains(%v, %v, %v): error %d", w, x, clauses, e)
	}
	return is
}

// held is what Held returns without an error.
func (w world) held(t *testing.T, day int) []int {
	t.Helper()
	l, e := wanted.Held(w.g, w.l, w.d, w.list, day)
	if e != api.OK {
		t.Fatalf("Held(%v, %d): error %d", w, day, e)
	}
	return l
}

// completes is what Completes returns without an error.
func completes(t *testing.T, g []api.Class, d, of api.Item) bool {
	t.Helper()
	is, e := wanted.Completes(g, d, of)
	if e != api.OK {
		t.Fatalf("Completes(%v, %v, %v): error %d", g, d, of, e)
	}
	return is
}

// The functions below make random worlds, small enough to go through all completions.

// someWord is one of a few words, so that a class, what is said of it, and what is listed often have the same one.
func someWord(r *rand.Rand) string { return number(r.IntN(12)) }

// someWords are different words.
func someWords(r *rand.Rand, n int) []string {
	l := numbers(12)
	r.Shuffle(len(l), func(i, j int) { l[i], l[j] = l[j], l[i] })
	return l[:n]
}

func someGrammar(r *rand.Rand) []api.Class {
	names := someWords(r, 1+r.IntN(3))
	var g []api.Class
	for _, name := range names {
		c := api.Class{Name: name}
		for _, trait := range someWords(r, r.IntN(4)) {
			c.Traits = append(c.Traits, api.Trait{Name: trait, Values: someWords(r, 1+r.IntN(3)), Must: r.IntN(4) == 0})
		}
		if r.IntN(3) > 0 {
			c.Parts, c.Most = names[r.IntN(len(names)):], r.IntN(4)
		}
		g = append(g, c)
	}
	return g
}

// someItem is a random description in which nothing is said of so many traits at most, with so many items at most.
func someItem(r *rand.Rand, g []api.Class, names []string, deep int, blanks, left *int) api.Item {
	*left--
	c := classOf(g, names[r.IntN(len(names))])
	x := api.Item{Class: c.Name}
	for _, trait := range c.Traits {
		said := trait.Values[r.IntN(len(trait.Values))]
		if !trait.Must && *blanks > 0 && r.IntN(3) > 0 {
			said = ""
			*blanks--
		}
		x.Says = append(x.Says, said)
	}
	for range c.Most {
		if deep < 3 && *left > 0 {
			x.Parts = append(x.Parts, someItem(r, g, c.Parts, deep+1, blanks, left))
		}
	}
	return x
}

// sayable are the words that may be said where nothing is said.
func sayable(g []api.Class, d api.Item) []string {
	var l []string
	for i, trait := range classOf(g, d.Class).Traits {
		if d.Says[i] == "" {
			l = append(l, trait.Values...)
		}
	}
	for _, part := range d.Parts {
		l = append(l, sayable(g, part)...)
	}
	return l
}

func classOf(g []api.Class, name string) api.Class {
	return g[slices.IndexFunc(g, func(c api.Class) bool { return c.Name == name })]
}

func namesOf(g []api.Class) []string {
	var names []string
	for _, c := range g {
		names = append(names, c.Name)
	}
	return names
}

func somePairs(r *rand.Rand) []api.Pair {
	var l []api.Pair
	for range r.IntN(2) * r.IntN(9) {
		l = append(l, pair(someWord(r), someWord(r)))
	}
	return l
}

// someEntry is a random entry; now and then its clauses are single words that may be said.
func (w world) someEntry(r *rand.Rand) api.Entry {
	x := api.Entry{Day: r.IntN(10)}
	sayable := sayable(w.g, w.d)
	single := len(sayable) > 0 && r.IntN(2) == 0
	for range 1 + r.IntN(3)*r.IntN(3) {
		words := someWords(r, 1+r.IntN(api.MaxChoice))
		if single && r.IntN(5) > 0 {
			words = []string{sayable[r.IntN(len(sayable))]}
		}
		x.Clauses = append(x.Clauses, words)
	}
	if r.IntN(2) == 0 {
		x.Not = someWords(r, r.IntN(3))
	}
	if r.IntN(2) == 0 {
		x.Until = x.Day + 1 + r.IntN(5)
	}
	return x
}

func someWorld(r *rand.Rand) world {
	w := world{g: someGrammar(r), l: somePairs(r)}
	w.d = w.someItem(r)
	for range r.IntN(6) {
		w.list = append(w.list, w.someEntry(r))
	}
	return w
}

// someItem is a random description of a world.
func (w world) someItem(r *rand.Rand) api.Item {
	blanks, left := 4, 6
	return someItem(r, w.g, namesOf(w.g), 1, &blanks, &left)
}
