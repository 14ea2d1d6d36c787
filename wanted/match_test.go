package wanted_test

import (
	"testing"

	"lombard/api"
	"lombard/wanted"
)

// matches checks what Match returns, and whether Example fits it.
func matches(t *testing.T, w world, x api.Entry, sure, may bool) {
	t.Helper()
	if gotSure, gotMay := w.match(t, x); gotSure != sure || gotMay != may {
		t.Errorf("Match(%v, %v): %v, %v, want %v, %v", w, x, gotSure, gotMay, sure, may)
	}
	d, e := wanted.Example(w.g, w.l, w.d, x)
	if !may {
		if !isZero(d) || e != api.ErrNone {
			t.Errorf("Example(%v, %v): %v, error %d", w, x, d, e)
		}
		return
	}
	if e != api.OK || !completes(t, w.g, d, w.d) {
		t.Fatalf("Example(%v, %v): %v, error %d", w, x, d, e)
	}
	found := world{g: w.g, l: w.l, d: d}
	if alone := found.slowCases(x)[0]; !alone.matches(allOf(x)) { // the first case is that in which nothing more is said
		t.Errorf("Example(%v, %v): %v does not match", w, x, d)
	}
}

// P5.3: the examples of the document
func TestMatchExamples(t *testing.T) {
	l := list()
	matches(t, example(), l[0], true, true)
	matches(t, example(), l[1], false, false)
	matches(t, example(), l[2], false, false)
	matches(t, example(), l[3], false, true)
	d, e := wanted.Example(shop(), pairs(), jewel(), l[3])
	if d.Says[1] = ""; !same(d, ring("", gem("round"))) || e != api.OK {
		t.Errorf("Example: %v, error %d", d, e)
	}
}

// P5.3: what is said, and what may be said
func TestMatch(t *testing.T) {
	for i, x := range []struct {
		d         api.Item
		x         api.Entry
		sure, may bool
	}{
		{ring("small", gem("oval")), since(0, clause("gold"), clause("small"), clause("gem"), clause("oval"), clause("ring"), clause("long")), true, true},
		{ring("small", gem("oval")), since(0, clause("round")), false, false},
		{ring("small", gem("oval")), since(0, clause("large")), false, false},
		{jewel(), since(0, clause("cut")), false, false},   // the name of a trait is no word
		{jewel(), since(0, clause("metal")), false, false}, // nor is it one where something is said of it
		{jewel(), since(0, clause("silver")), false, false},
		{jewel(), since(0, clause("small"), clause("round")), false, true},
		{jewel(), since(0, clause("small"), clause("large")), false, false}, // one trait, one word
		{ring("", gem(""), gem("")), since(0, clause("round"), clause("long")), false, true},
		{ring("", gem("oval"), gem("")), since(0, clause("round"), clause("long")), false, true},
		{ring("", gem("oval"), gem("")), since(0, clause("round"), clause("long"), clause("small", "large")), false, true},
		{ring("", gem("oval"), gem("oval")), since(0, clause("round"), clause("long")), false, false},
		{ring("", gem("oval"), gem("round")), since(0, clause("round"), clause("long")), true, true},
		{ring(""), since(0, clause("round")), false, false},
		{ring(""), since(0, clause("gem")), false, false}, // parts are what is named
		// what must not be meant: said already, sayable, and the only way to meet a clause
		{jewel(), not(since(0, clause("ring")), "yellow"), false, false},
		{jewel(), not(since(0, clause("ring")), "red", "jewel"), false, false},
		{jewel(), not(since(0, clause("ring")), "gem"), false, false},
		{jewel(), not(since(0, clause("ring")), "long"), false, true},
		{jewel(), not(since(0, clause("ring")), "red", "round"), false, true},
		{jewel(), not(since(0, clause("oval", "round")), "long"), false, true},
		{jewel(), not(since(0, clause("oval")), "long"), false, false},
		{jewel(), not(since(0, clause("oval"), clause("small")), "large"), false, true},
		{jewel(), not(since(0, clause("ring")), "silver"), true, true}, // it can not be said any more
		{ring("", gem("round")), not(since(0, clause("ring")), "long"), true, true},
		{ring("", gem("round"), gem("")), not(since(0, clause("ring")), "long"), false, true},
		{jewel(), not(since(0, clause("small", "ring")), "small"), false, true},
		// meanings go one way
		{jewel(), since(0, clause("yellow")), true, true},
		{ring("", gem("oval")), not(since(0, clause("long")), "ruby"), true, true},
	} {
		w := example()
		w.d = x.d
		matches(t, w, x.x, x.sure, x.may)
		if t.Failed() {
			t.Fatalf("case %d", i)
		}
	}
	w := example()
	w.l = []api.Pair{pair("jewel", "ring"), pair("long", "oval")}
	matches(t, w, since(0, clause("jewel")), false, false)
	matches(t, w, since(0, clause("oval")), false, true)
	w.l = nil
	matches(t, w, since(0, clause("ring")), true, true)
	w.l = []api.Pair{pair("round", "a"), pair("a", "b"), pair("b", "c")}
	matches(t, w, since(0, clause("x", "y", "z", "c")), false, true)
	matches(t, w, not(since(0, clause("a")), "c"), false, false)
}

// P5.3: against the definitions, of any description, pairs and entry
func TestMatchOfAny(t *testing.T) {
	r := random(5)
	counts := map[[2]bool]int{}
	for range 3000 {
		w := someWorld(r)
		for _, x := range w.list {
			sure, may := slowMatch(w.slowCases(x), allOf(x))
			matches(t, w, x, sure, may)
			counts[[2]bool{sure, may}]++
			if t.Failed() {
				t.FailNow()
			}
		}
	}
	for _, x := range [][2]bool{{false, false}, {false, true}, {true, true}} {
		if counts[x] < 300 {
			t.Errorf("only %d times: sure %v, may %v", counts[x], x[0], x[1])
		}
	}
}

// wide is a grammar and a description at the limits: all its items have eight traits, of which nothing is said.
func wide() ([]api.Class, api.Item) {
	values := func(i int) []string {
		var l []string
		for j := range api.MaxValues {
			l = append(l, number(8*i+j))
		}
		return l
	}
	c := api.Class{Name: "box", Parts: []string{"box"}, Most: api.MaxParts}
	for i := range api.MaxTraits {
		c.Traits = append(c.Traits, api.Trait{Name: number(i), Values: values(i)})
	}
	box := func(parts ...api.Item) api.Item {
		return api.Item{Class: "box", Says: make([]string, api.MaxTraits), Parts: parts}
	}
	var inner []api.Item
	for range 5 {
		inner = append(inner, box(box(), box(), box()))
	}
	inner = append(inner, box(box(), box()))
	return []api.Class{c}, box(inner...)
}

// P1, P5.3, P5.5: the greatest description, list and pairs there may be
func TestLimits(t *testing.T) {
	g, d := wide()
	var l []api.Pair
	for i := range api.MaxPairs { // each word means all the next ones
		l = append(l, pair(number(i), number(i+1)))
	}
	last := number(api.MaxPairs)
	x := since(0, clause(number(0)), clause(number(9)), clause(number(20)), clause(number(30)), clause(number(40)), clause("x", "y", "z", last))
	w := world{g: g, l: l, d: d}
	if sure, may := w.match(t, x); sure || !may {
		t.Errorf("Match at the limits: %v, %v", sure, may)
	}
	x.Clauses[0] = clause("box")
	x.Not = []string{"z", "y", "x", number(41)} // all but the last ones mean it
	if sure, may := w.match(t, x); sure || may {
		t.Errorf("Match at the limits, with Not: %v, %v", sure, may)
	}
	reason, e := wanted.Reason(g, l, d, x)
	if len(reason) != 1 || reason[0] != 1 || e != api.OK {
		t.Errorf("Reason at the limits: %v, error %d", reason, e)
	}
	x = since(0, clause("box"), clause(last))
	var pledges []api.Item
	for range api.MaxPledges {
		pledges = append(pledges, d)
		w.list = append(w.list, x)
	}
	held, e := wanted.Screen(g, l, pledges, w.list, 0)
	if len(held) != 24 || e != api.OK {
		t.Fatalf("Screen at the limits: %v, error %d", held, e)
	}
	for i := range held {
		if len(held[i]) != 24 {
			t.Errorf("Screen at the limits: %d are held for the pledge %d", len(held[i]), i)
		}
	}
}
