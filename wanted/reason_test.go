package wanted_test

import (
	"slices"
	"testing"

	"lombard/api"
	"lombard/wanted"
)

// reason checks what Reason returns.
func reason(t *testing.T, w world, x api.Entry, want ...int) {
	t.Helper()
	if l, e := wanted.Reason(w.g, w.l, w.d, x); !slices.Equal(l, want) || e != api.OK {
		t.Errorf("Reason(%v, %v): %v, error %d, want %v", w, x, l, e, want)
	}
}

// noReason checks that there is none, since it may match.
func noReason(t *testing.T, w world, x api.Entry) {
	t.Helper()
	if l, e := wanted.Reason(w.g, w.l, w.d, x); len(l) > 0 || e != api.ErrNone {
		t.Errorf("Reason(%v, %v): %v, error %d", w, x, l, e)
	}
}

// P5.4: the examples of the document
func TestReasonExamples(t *testing.T) {
	w, l := example(), list()
	noReason(t, w, l[0])
	reason(t, w, l[1], 1, 2)
	reason(t, w, l[2])
	noReason(t, w, l[3])
	if w.explains(t, l[1], 1) || !w.explains(t, l[1], 1, 2) || w.explains(t, l[3], 1) {
		t.Errorf("Explains: %v, %v, %v", w.explains(t, l[1], 1), w.explains(t, l[1], 1, 2), w.explains(t, l[3], 1))
	}
}

// P5.4: the fewest ones, and of these the first ones
func TestReasons(t *testing.T) {
	w := example()
	reason(t, w, since(0, clause("red")), 0)
	reason(t, w, since(0, clause("jewel"), clause("round"), clause("oval"), clause("red")), 3)
	reason(t, w, since(0, clause("jewel"), clause("green"), clause("red")), 1)
	reason(t, w, since(0, clause("small"), clause("round"), clause("large"), clause("oval")), 0, 2)
	reason(t, w, since(0, clause("small"), clause("round"), clause("oval"), clause("large")), 0, 3)
	reason(t, w, since(0, clause("ring"), clause("small"), clause("oval"), clause("round"), clause("large"), clause("long")), 1, 4)
	reason(t, w, since(0, clause("ring"), clause("round"), clause("round"), clause("ring"), clause("oval"), clause("long")), 1, 4)
	// two traits, three clauses
	three := []api.Class{{Name: "a", Traits: []api.Trait{{Name: "t", Values: []string{"b", "c", "d"}}, {Name: "u", Values: []string{"b", "c", "d"}}}}}
	w = world{g: three, d: api.Item{Class: "a", Says: make([]string, 2)}}
	reason(t, w, since(0, clause("a"), clause("b"), clause("c"), clause("a"), clause("d")), 1, 2, 4)
	reason(t, w, since(0, clause("b"), clause("c"), clause("d"), clause("b"), clause("c"), clause("d")), 0, 1, 2)
	reason(t, w, not(since(0, clause("b"), clause("c"), clause("a"), clause("d")), "x", "d"), 3)
	reason(t, w, not(since(0, clause("b"), clause("c"), clause("a"), clause("d")), "x", "a"))
	noReason(t, w, since(0, clause("b"), clause("c"), clause("d", "a")))
	// what is said of three traits, and six clauses all of which are needed
	var g []api.Class
	g = append(g, api.Class{Name: "a"})
	for i := range 5 {
		g[0].Traits = append(g[0].Traits, api.Trait{Name: number(i), Values: []string{"b", "c", "d", "e", "f", "g"}})
	}
	w = world{g: g, d: api.Item{Class: "a", Says: make([]string, 5)}}
	reason(t, w, since(0, clause("b"), clause("c"), clause("d"), clause("e"), clause("f"), clause("g")), 0, 1, 2, 3, 4, 5)
}

// P5.4: what is no list of clauses
func TestWrongClauses(t *testing.T) {
	x := since(0, clause("jewel"), clause("round"), clause("long"))
	wrong := [][]int{{0, 0}, {1, 0}, {0, 1, 1}, {0, 2, 1}, {2, 1}, {0, 1, 2, 3}, {0, 1, 2, 0}, {0, -1}, make([]int, 7), make([]int, 100000)}
	for _, n := range beyond(0, 2) {
		wrong = append(wrong, []int{n}, []int{0, n}, []int{n, 2}, []int{0, 1, n}, []int{n, n}, []int{1, n, 2})
	}
	for _, l := range wrong {
		for _, d := range []api.Item{jewel(), ring(""), ring("", gem("round"), gem("oval"))} { // whatever is explained
			is, e := wanted.Explains(shop(), pairs(), d, x, l)
			if is || e != api.ErrClauses {
				t.Errorf("Explains by %v: %v, error %d", l[:min(len(l), 9)], is, e)
			}
		}
	}
	for _, l := range selections(3) {
		want := slices.Contains(l, 1) && slices.Contains(l, 2)
		if is := example().explains(t, x, l...); is != want {
			t.Errorf("Explains by %v: %v", l, is)
		}
	}
}

// P5.4: if a word of the description means one of Not, no clause is needed; otherwise none is no reason
func TestExplainsNothing(t *testing.T) {
	w := example()
	for word, want := range map[string]bool{"gold": true, "yellow": true, "jewel": true, "gem": true, "oval": false, "long": false, "silver": false, "x": false} {
		x := not(since(0, clause("jewel")), word)
		if w.explains(t, x) != want || w.explains(t, x, 0) != want {
			t.Errorf("Explains by nothing, without %s: %v, want %v", word, w.explains(t, x), want)
		}
	}
	if w.explains(t, since(0, clause("red"))) {
		t.Errorf("Explains by nothing: true")
	}
}

// P5.4: against the definitions, of any description, pairs and entry
func TestReasonOfAny(t *testing.T) {
	r := random(6)
	sizes := map[int]int{}
	for range 3000 {
		w := someWorld(r)
		for _, x := range w.list {
			cases := w.slowCases(x)
			for _, l := range selections(len(x.Clauses)) {
				if is := w.explains(t, x, l...); is == slowMay(cases, l) {
					t.Fatalf("Explains(%v, %v, %v): %v", w, x, l, is)
				}
			}
			l, ok := slowReason(cases, len(x.Clauses))
			if !ok {
				noReason(t, w, x)
				continue
			}
			reason(t, w, x, l...)
			sizes[len(l)]++
			if t.Failed() {
				t.FailNow()
			}
		}
	}
	for n := range 3 {
		if sizes[n] < 100 {
			t.Errorf("only %d reasons had %d clauses", sizes[n], n)
		}
	}
}
