package pledge_test

import (
	"reflect"
	"slices"
	"strings"
	"sync"
	"testing"

	"lombard/api"
	"lombard/pledge"
)

// scribble writes over all memory of an item.
func scribble(x api.Item) {
	for i := range x.Says[:cap(x.Says)] {
		x.Says[:cap(x.Says)][i] = "scribble"
	}
	parts := x.Parts[:cap(x.Parts)]
	for i := range parts {
		scribble(parts[i])
		parts[i].Class = "scribble"
	}
}

// P1.8: descriptions and grammars are not changed, and results share no memory with them
func TestMemoryOfItems(t *testing.T) {
	g, h := nest(), nest()
	says := []string{"b"}
	part := api.Item{Class: "box", Says: says, Parts: []api.Item{{Class: "box", Says: says}, {Class: "bag"}}}
	x := box("", part, box("c"), part, api.Item{Class: "bag"}) // its parts share memory
	before, text := copied(x), spelt(g, x)
	calls := func() []any {
		s, e := pledge.Print(g, x)
		n, said, e2 := pledge.Count(g, x)
		is, e3 := pledge.Covers(g, x, x)
		return []any{pledge.CheckGrammar(g), pledge.Check(g, x), s, e, n, said, e2, is, e3}
	}
	first := calls()
	y, _ := pledge.Sort(g, x)
	z, _ := pledge.Parse(g, text)
	want, wantZ := copied(y), copied(z)
	if !same(x, before) || !reflect.DeepEqual(g, h) || spelt(g, z) != text {
		t.Fatalf("arguments are changed: %v, %v", x, g)
	}
	scribble(y)
	if y2, e := pledge.Sort(g, x); !same(x, before) || !same(y2, want) || !same(z, wantZ) || e != api.OK {
		t.Errorf("Sort shares memory: %v, %v", x, y2)
	}
	scribble(z)
	if z2, e := pledge.Parse(g, text); !reflect.DeepEqual(g, h) || !same(z2, wantZ) || e != api.OK {
		t.Errorf("Parse shares memory: %v, %v", g, z2)
	}
	y, _ = pledge.Sort(g, x)
	z, _ = pledge.Parse(g, text)
	if again := calls(); !reflect.DeepEqual(first, again) {
		t.Errorf("another result: %v, %v", first, again)
	}
	scribble(x)
	for i := range g {
		clear(g[i].Traits)
		clear(g[i].Parts)
	}
	clear(g)
	if !same(y, want) || !same(z, wantZ) {
		t.Errorf("results change with the arguments: %v, %v", y, z)
	}
}

// P1.8: no two slices of a result share memory
func TestMemoryWithinItems(t *testing.T) {
	says := []string{"b"}
	inner := []api.Item{{Class: "box", Says: says}, {Class: "box", Says: says}}
	x := box("b", api.Item{Class: "box", Says: says, Parts: inner}, api.Item{Class: "box", Says: says, Parts: inner})
	y, _ := pledge.Sort(nest(), x)
	z, _ := pledge.Parse(nest(), spelt(nest(), x))
	for name, w := range map[string]api.Item{"Sort": y, "Parse": z} {
		want := copied(w)
		scribble(w.Parts[0])
		w.Parts[0] = want.Parts[0]
		_ = append(w.Says, "scribble")
		_ = append(w.Parts[1].Says, "scribble")
		_ = append(w.Parts[1].Parts, box("scribble"))
		if !same(w, want) {
			t.Errorf("%s: slices share memory: %v", name, w)
		}
	}
}

// P1.8: measures, readings, fakes, sets and prices are not changed, and results share no memory with them
func TestMemoryOfMeasures(t *testing.T) {
	m, reads, l, sessions, set, prices := scales(), taken(), fakes(), [][]int{{100, 1000}, {103, -1}}, []int{0, 1}, []int{1, 4}
	var results [][]any
	for range 3 {
		spans, e := pledge.Narrow(m, sessions)
		agree, e2 := pledge.Agree(m, reads, sessions[1])
		found, e3 := pledge.Finds(m, reads, l[1])
		shows, e4 := pledge.Shows(m, reads, l, set)
		least, labour, e5 := pledge.Least(m, reads, l)
		bound, e6 := pledge.Bound(m, reads, l, prices)
		results = append(results, []any{slices.Clone(spans), e, agree, e2, slices.Clone(found), e3, shows, e4, slices.Clone(least), labour, e5, bound, e6})
		for i := range spans[:cap(spans)] {
			spans[:cap(spans)][i] = api.Span{Min: 7, Max: 3}
		}
		for i := range found[:cap(found)] {
			found[:cap(found)][i] = 77
		}
		for i := range least[:cap(least)] {
			least[:cap(least)][i] = 77
		}
	}
	if !reflect.DeepEqual(m, scales()) || !reflect.DeepEqual(reads, taken()) || !reflect.DeepEqual(l, fakes()) || !reflect.DeepEqual(sessions, [][]int{{100, 1000}, {103, -1}}) || !slices.Equal(set, []int{0, 1}) || !slices.Equal(prices, []int{1, 4}) {
		t.Errorf("arguments are changed: %v, %v, %v, %v, %v, %v", m, reads, l, sessions, set, prices)
	}
	want := []any{[]api.Span{{Min: 101, Max: 102}, {Min: 995, Max: 1005}}, api.OK, true, api.OK, []int{1}, api.OK, true, api.OK, []int{0, 1}, 5, api.OK, 5, api.OK}
	for _, result := range results {
		if !reflect.DeepEqual(result, want) {
			t.Errorf("results: %v, want %v", result, want)
		}
	}
	spans, _ := pledge.Narrow(m, sessions)
	least, _, _ := pledge.Least(m, reads, l)
	for _, list := range append(sessions, reads) {
		clear(list)
	}
	clear(m)
	clear(l[0].Has)
	clear(l)
	if !reflect.DeepEqual(spans, want[0]) || !reflect.DeepEqual(least, want[8]) {
		t.Errorf("results change with the arguments: %v, %v", spans, least)
	}
}

// P2: the same arguments have the same result, whatever was called before, or is called at the same time
func TestSameResults(t *testing.T) {
	l := append(rings(), api.Item{}, ring("big"), endless())
	answers := func(l []api.Item) []string {
		var out []string
		for _, x := range l {
			s, _ := pledge.Print(shop(), x)
			y, _ := pledge.Parse(shop(), s)
			z, _ := pledge.Sort(shop(), x)
			u, _ := pledge.Print(shop(), y)
			v, _ := pledge.Print(shop(), z)
			out = append(out, strings.Join([]string{s, u, v}, ", "))
		}
		return out
	}
	first := answers(l)
	backwards := slices.Clone(l)
	slices.Reverse(backwards)
	second := answers(backwards)
	slices.Reverse(second)
	if !slices.Equal(first, second) {
		t.Errorf("other results in another order")
	}
	var group sync.WaitGroup
	for range 4 {
		group.Go(func() {
			if !slices.Equal(first, answers(l)) {
				t.Errorf("other results at the same time")
			}
		})
	}
	group.Wait()
}

// P1: whatever the arguments are, no function panics, and with an error all else is zero
func TestAnyArguments(t *testing.T) {
	grammars := [][]api.Class{nil, shop(), nest(), {{}}, {{Name: "box", Parts: []string{"box"}, Most: 6}}, make([]api.Class, 12)}
	descriptions := []api.Item{{}, ring(""), gem("oval"), box("b", box("")), endless(), {Class: "box", Parts: make([]api.Item, 3)}, {Class: "ring", Says: make([]string, 2)}, {Class: "box", Parts: endless().Parts}}
	for _, g := range grammars {
		for _, a := range descriptions {
			ok := pledge.CheckGrammar(g) == api.OK && pledge.Check(g, a) == api.OK
			s, e := pledge.Print(g, a)
			n, said, e2 := pledge.Count(g, a)
			x, e3 := pledge.Sort(g, a)
			for _, e := range []api.Errno{e, e2, e3} {
				if (e == api.OK) != ok || !ok && (s != "" || n != 0 || said != 0 || !isZero(x)) {
					t.Errorf("results of %d: %q, %d, %d, error %d", len(g), s, n, said, e)
				}
			}
			for _, b := range descriptions {
				both := ok && pledge.Check(g, b) == api.OK
				if is, e := pledge.Covers(g, a, b); (e == api.OK) != both || !both && is {
					t.Errorf("Covers of %d: %v, error %d", len(g), is, e)
				}
			}
		}
		for _, s := range []string{"", " ", "box", "box ( box )", "ring metal=gold", "\xff\xfe", "box ( ", strings.Repeat(" (", 40000)} {
			if x, e := pledge.Parse(g, s); e != api.OK && !isZero(x) {
				t.Errorf("Parse(%.20q): %v, error %d", s, x, e)
			}
		}
	}
}
