package wanted_test

import (
	"slices"
	"strings"
	"testing"

	"lombard/api"
	"lombard/wanted"
)

// means checks what Means returns.
func means(t *testing.T, l []api.Pair, word string, want ...string) {
	t.Helper()
	if got, e := wanted.Means(l, word); !slices.Equal(got, want) || e != api.OK {
		t.Errorf("Means(%v, %q): %v, error %d, want %v", l, word, got, e, want)
	}
}

// P5.1: the examples of the document
func TestMeansExamples(t *testing.T) {
	errs(t, "CheckPairs", wanted.CheckPairs(pairs()), api.OK)
	means(t, pairs(), "ring", "jewel", "ring")
	means(t, pairs(), "gold", "gold", "yellow")
	means(t, pairs(), "jewel", "jewel")
}

// P5.1: pairs are used one after the other, in any order, also in a circle; a word may be listed by itself, and twice
func TestMeansChains(t *testing.T) {
	l := []api.Pair{pair("c", "d"), pair("b", "c"), pair("a", "b"), pair("x", "c")}
	for range 2 {
		means(t, l, "a", "a", "b", "c", "d")
		means(t, l, "b", "b", "c", "d")
		means(t, l, "c", "c", "d")
		means(t, l, "d", "d")
		means(t, l, "x", "c", "d", "x")
		slices.Reverse(l)
	}
	l = append(l, pair("d", "a"), pair("d", "d"), pair("a", "b"))
	means(t, l, "a", "a", "b", "c", "d")
	means(t, l, "d", "a", "b", "c", "d")
	means(t, l, "x", "a", "b", "c", "d", "x")
	means(t, []api.Pair{pair("m", "z"), pair("m", "b"), pair("m", "m"), pair("m", "b0"), pair("m", "b-"), pair("z", "ba")}, "m", "b", "b-", "b0", "ba", "m", "z")
	l = nil
	for i := range api.MaxPairs {
		l = append(l, pair(number(i+1), number(i)))
	}
	all := numbers(api.MaxPairs + 1)
	slices.Sort(all)
	means(t, l, number(api.MaxPairs), all...)
	means(t, l, number(0), number(0))
}

// P5.1: any text means itself
func TestMeansOfTexts(t *testing.T) {
	for _, s := range append(notWords(), "Ring", " ring", "ring ", "rin", strings.Repeat("ring", 20000)) {
		means(t, pairs(), s, s)
		means(t, nil, s, s)
	}
}

// P5.1: against the definitions, of any pairs
func TestMeansOfAny(t *testing.T) {
	r := random(1)
	sizes := map[int]int{}
	for range 3000 {
		l := somePairs(r)
		for _, word := range numbers(13) {
			want := slowMeans(l, word)
			means(t, l, word, want...)
			sizes[len(want)]++
		}
	}
	for n := range 5 {
		if sizes[n+1] < 100 {
			t.Errorf("only %d words meant %d words", sizes[n+1], n+1)
		}
	}
}

// P5.1, P5.2: what are no pairs; at most 64
func TestWrongPairs(t *testing.T) {
	wrong := func(l []api.Pair) {
		t.Helper()
		errs(t, "CheckPairs", wanted.CheckPairs(l), api.ErrPairs)
		for _, word := range []string{"ring", "", "\xff"} {
			if got, e := wanted.Means(l, word); len(got) > 0 || e != api.ErrPairs {
				t.Errorf("Means(%v, %q): %v, error %d", l, word, got, e)
			}
		}
		for name, x := range withPairs() {
			q := fine()
			q.l = l
			errs(t, name, x(q), api.ErrPairs)
		}
	}
	for _, s := range notWords() {
		wrong([]api.Pair{pair(s, "a")})
		wrong([]api.Pair{pair("a", s)})
		wrong(append(pairs(), pair("a", s)))
		wrong(append(pairs(), pair(s, "a"), pair("a", "b")))
	}
	wrong([]api.Pair{{}})
	l := slices.Repeat([]api.Pair{pair("a", "b")}, 64)
	errs(t, "CheckPairs of 64", wanted.CheckPairs(l), api.OK)
	means(t, l, "a", "a", "b")
	wrong(append(l, pair("a", "b")))
	errs(t, "CheckPairs of none", wanted.CheckPairs(nil), api.OK)
	errs(t, "CheckPairs of long words", wanted.CheckPairs([]api.Pair{pair("abcdefghijklmnop", "a-9")}), api.OK)
}
