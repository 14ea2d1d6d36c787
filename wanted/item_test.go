package wanted_test

import (
	"math/rand/v2"
	"slices"
	"testing"

	"lombard/api"
	"lombard/wanted"
)

// words checks what Words returns.
func words(t *testing.T, g []api.Class, d api.Item, want ...string) {
	t.Helper()
	if l, e := wanted.Words(g, d); !slices.Equal(l, want) || e != api.OK {
		t.Errorf("Words(%v, %v): %v, error %d, want %v", g, d, l, e, want)
	}
}

// P5.2: the example of the document; words of parts, and of their parts; each once, in the order of their bytes; no names of traits
func TestWords(t *testing.T) {
	words(t, shop(), jewel(), "gem", "gold", "ring")
	words(t, shop(), ring("small", gem("round"), gem("oval")), "gem", "gold", "oval", "ring", "round", "small")
	words(t, shop(), ring("large", gem("oval"), gem("oval")), "gem", "gold", "large", "oval", "ring")
	words(t, shop(), gem(""), "gem")
	g := []api.Class{
		{Name: "b", Traits: []api.Trait{{Name: "t", Values: []string{"b", "b0", "b-"}}, {Name: "u", Values: []string{"b0", "a"}}}, Parts: []string{"b", "c"}, Most: 6},
		{Name: "c"},
	}
	b := func(says ...string) api.Item { return api.Item{Class: "b", Says: says} }
	words(t, g, b("b", ""), "b")
	words(t, g, b("b0", "b0"), "b", "b0")
	words(t, g, b("b-", "b0"), "b", "b-", "b0")
	d, part := b("", ""), b("", "a")
	part.Parts = []api.Item{{Class: "c"}, b("b-", "")}
	d.Parts = []api.Item{part, b("", "")}
	words(t, g, d, "a", "b", "b-", "c")
}

// P5.2: against the definitions, of any description
func TestWordsOfAny(t *testing.T) {
	r := random(2)
	for range 3000 {
		w := someWorld(r)
		l := slowWords(w.d)
		slices.Sort(l)
		words(t, w.g, w.d, slices.Compact(l)...)
	}
}

// P5.2: what is a completion, and what is not
func TestCompletes(t *testing.T) {
	for i, x := range []struct {
		d, of api.Item
		want  bool
	}{
		{jewel(), jewel(), true},
		{ring("small", gem("oval")), jewel(), true},
		{ring("small", gem("")), jewel(), true},
		{ring("", gem("oval")), jewel(), true},
		{jewel(), ring("small", gem("")), false},
		{jewel(), ring("", gem("oval")), false},
		{ring("small"), ring("large"), false},
		{ring("", gem("oval")), ring("", gem("round")), false},
		{api.Item{Class: "ring", Says: []string{"silver", ""}}, ring(""), false},
		{ring(""), jewel(), false},
		{jewel(), ring(""), false},
		{ring("", gem(""), gem("")), jewel(), false},
		{gem(""), ring(""), false},
		{gem("oval"), gem(""), true},
		{ring("", gem("oval"), gem("round")), ring("", gem("oval"), gem("")), true},
		{ring("", gem("round"), gem("round")), ring("", gem("oval"), gem("")), false},
		{ring("", gem("oval"), gem("")), ring("", gem("round"), gem("")), false},
		// descriptions are the same whatever the order of their parts is
		{ring("", gem("round"), gem("oval")), ring("", gem("oval"), gem("round")), true},
		{ring("", gem("round"), gem("oval")), ring("", gem("oval"), gem("")), true},
		{ring("", gem("round"), gem("")), ring("", gem("oval"), gem("")), false},
	} {
		if is := completes(t, shop(), x.d, x.of); is != x.want {
			t.Errorf("Completes %d, of %v by %v: %v", i, x.of, x.d, is)
		}
	}
}

// changed is a description that differs a little from another one, and may not be valid any more.
func changed(r *rand.Rand, w world, d api.Item) api.Item {
	d.Says, d.Parts = slices.Clone(d.Says), slices.Clone(d.Parts)
	if n := len(d.Says); n > 0 && r.IntN(3) > 0 {
		i := r.IntN(n)
		values := classOf(w.g, d.Class).Traits[i].Values
		d.Says[i] = append(slices.Clone(values), "", "")[r.IntN(len(values)+2)]
	}
	if n := len(d.Parts); n > 0 {
		i, j := r.IntN(n), r.IntN(n)
		switch r.IntN(4) {
		case 0:
			d.Parts[i], d.Parts[j] = d.Parts[j], d.Parts[i]
		case 1:
			d.Parts[i] = changed(r, w, d.Parts[i])
		case 2:
			d.Parts = slices.Delete(d.Parts, i, i+1)
		}
	}
	return d
}

// P5.2: against the definitions, of any two descriptions
func TestCompletesAny(t *testing.T) {
	r := random(3)
	counts := map[bool]int{}
	for range 20000 {
		w := someWorld(r)
		d := changed(r, w, changed(r, w, w.d))
		is, e := wanted.Completes(w.g, d, w.d)
		if e == api.ErrItem {
			continue // it is not valid any more
		}
		if is != slowCompletes(d, w.d) || e != api.OK {
			t.Fatalf("Completes(%v, %v, %v): %v, error %d", w.g, d, w.d, is, e)
		}
		if !same(d, w.d) {
			counts[is]++
		}
	}
	if counts[true] < 2000 || counts[false] < 2000 {
		t.Errorf("only %v", counts)
	}
}

// P5.2: all that is said besides is a completion, and each of these says what the first one says
func TestAllCompletions(t *testing.T) {
	r := random(4)
	for range 300 {
		w := someWorld(r)
		for _, d := range slowCompletions(w.g, w.d) {
			if !completes(t, w.g, d, w.d) || completes(t, w.g, w.d, d) != same(w.d, d) {
				t.Fatalf("Completes(%v, %v, %v) is false, or the other way around", w.g, d, w.d)
			}
		}
	}
}
