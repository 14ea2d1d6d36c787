package pledge_test

import (
	"math/rand/v2"
	"slices"
	"strings"
	"testing"

	"lombard/api"
	"lombard/pledge"
)

func covers(t *testing.T, g []api.Class, a, b api.Item) bool {
	t.Helper()
	is, e := pledge.Covers(g, a, b)
	if e != api.OK {
		t.Fatalf("Covers(%v, %v): error %d", a, b, e)
	}
	return is
}

func sorted(t *testing.T, g []api.Class, x api.Item) api.Item {
	t.Helper()
	y, e := pledge.Sort(g, x)
	if e != api.OK {
		t.Fatalf("Sort(%v): error %d", x, e)
	}
	return y
}

// P1.3: ordinary cases, and parts that must be assigned anew
func TestCovers(t *testing.T) {
	x := ring("", gem("round"), gem(""))
	bag := api.Item{Class: "bag"}
	for i, y := range []struct {
		g    []api.Class
		a, b api.Item
		is   bool
	}{
		{shop(), x, x, true},
		{shop(), ring("", gem("")), x, true},
		{shop(), x, ring("", gem("")), false},
		{shop(), x, ring("small", gem("oval"), gem("round")), true},
		{shop(), ring("small", gem("oval"), gem("round")), x, false},
		{shop(), x, ring("", gem("oval"), gem("oval")), false},
		{shop(), ring("", gem("round"), gem("round")), ring("", gem("oval"), gem("round")), false},
		{shop(), ring("", gem(""), gem("round")), ring("", gem("round"), gem("")), true},
		{shop(), ring("", gem(""), gem("round")), ring("", gem("round"), gem("oval")), true},
		{shop(), ring("small"), ring("large"), false},
		{shop(), ring("small"), ring(""), false},
		{shop(), ring(""), ring("small"), true},
		{shop(), ring(""), api.Item{Class: "ring", Says: []string{"silver", ""}}, false},
		{shop(), gem(""), ring(""), false},
		{shop(), ring(""), gem(""), false},
		// a part that is first given the only one that suits another part, and so twice
		{nest(), box("", box(""), box("", box("")), box("", box(""), box(""))), box("", box("", box(""), box("")), box("", box("")), box("")), true},
		{nest(), box("", box(""), box(""), box("b")), box("", box("b"), box("c"), box("")), true},
		{nest(), box("", box(""), box("b"), box("b")), box("", box("b"), box("c"), box("b")), true},
		{nest(), box("", box("c"), box("b"), box("b")), box("", box("b"), box("c"), box("")), false},
		{nest(), box("", bag, box(""), bag), box("", box("b"), bag, bag), true},
		{nest(), box("", bag, bag), box("", box(""), bag, box("")), false},
		{nest(), box("", box("")), box("", box("", bag)), true},
		{nest(), box("", box("", bag)), box("", box("")), false},
		{nest(), box("", box(""), box("")), box("", box("", box(""))), false},
		{nest(), box("", box("", box("b"))), box("", box("b"), box("c", bag, bag)), false},
		{nest(), box("", box("", box("b"))), box("", box("b"), box("c", bag, box("b"))), true},
		{nest(), box("", box("b", box("b")), box("", box(""))), box("", box("b", box("b")), box("c", box("c"))), true},
	} {
		if is := covers(t, y.g, y.a, y.b); is != y.is {
			t.Errorf("Covers %d: %v", i, is)
		}
	}
}

// coversSlowly tries all ways to assign the parts.
func coversSlowly(a, b api.Item) bool {
	if a.Class != b.Class {
		return false
	}
	for i := range a.Says {
		if a.Says[i] != "" && a.Says[i] != b.Says[i] {
			return false
		}
	}
	if len(a.Parts) == 0 {
		return true
	}
	for i, part := range b.Parts {
		if !coversSlowly(a.Parts[0], part) {
			continue
		}
		rest := slices.Delete(slices.Clone(b.Parts), i, i+1)
		if coversSlowly(api.Item{Class: a.Class, Parts: a.Parts[1:]}, api.Item{Class: a.Class, Parts: rest}) {
			return true
		}
	}
	return false
}

// P1.3: as what tries all ways
func TestCoversAll(t *testing.T) {
	for _, a := range rings() {
		for _, b := range rings() {
			if want := coversSlowly(a, b); covers(t, shop(), a, b) != want {
				t.Errorf("%v covers %v: want %v", a, b, want)
			}
		}
	}
	r := random(3)
	count := 0
	for range 20000 {
		a, b := bare(r, 6), bare(r, 6)
		want := coversSlowly(a, b)
		if want {
			count++
		}
		if covers(t, nest(), a, b) != want {
			t.Fatalf("%v covers %v: want %v", a, b, want)
		}
	}
	if count < 100 {
		t.Errorf("only %d of the random descriptions cover others", count)
	}
}

// bare is a box with many parts that are alike.
func bare(r *rand.Rand, most int) api.Item {
	x := box("")
	for range r.IntN(most + 1) {
		y := box([]string{"", "", "b", "c"}[r.IntN(4)])
		for range r.IntN(3) {
			y.Parts = append(y.Parts, box([]string{"", "b"}[r.IntN(2)]))
		}
		x.Parts = append(x.Parts, y)
	}
	return x
}

// P1.3: the order is that of the bytes of texts, at each depth, of parts that are sorted themselves
func TestSort(t *testing.T) {
	order := []api.Class{
		{Name: "a", Traits: []api.Trait{{Name: "s", Values: []string{"y", "x", "x-", "x1"}}, {Name: "r", Values: []string{"v"}}}, Parts: []string{"a", "a-", "a1", "aa", "b"}, Most: 6},
		{Name: "aa"}, {Name: "a1"}, {Name: "b", Parts: []string{"b"}, Most: 1}, {Name: "a-"},
	}
	for s, want := range map[string]string{
		"a":                             "a",
		"a ( b )":                       "a ( b )",
		"a ( b ; aa ; a1 ; a- ; a )":    "a ( a ; a- ; a1 ; aa ; b )",
		"a ( aa ; b ; aa ; b ; aa )":    "a ( aa ; aa ; aa ; b ; b )",
		"a ( a s=x1 ; a s=x- ; a s=x )": "a ( a s=x ; a s=x- ; a s=x1 )",
		"a ( a s=x- ; a s=x r=v ; a s=x ; a r=v ; a )":    "a ( a ; a r=v ; a s=x ; a s=x r=v ; a s=x- )",
		"a ( a s=y ; a s=x )":                             "a ( a s=x ; a s=y )",
		"a ( a s=x ( b ) ; a s=x ; a ( b ) ; a s=x r=v )": "a ( a ( b ) ; a s=x ; a s=x ( b ) ; a s=x r=v )",
		"a ( b ( b ) ; b ; a ( b ; a ) ; a ( aa ; a1 ) )": "a ( a ( a ; b ) ; a ( a1 ; aa ) ; b ; b ( b ) )",
		"a ( a ( a1 ; b ) ; a ( b ; a ) )":                "a ( a ( a ; b ) ; a ( a1 ; b ) )",
		"a ( b ; a ( b ; aa ; b ) )":                      "a ( a ( aa ; b ; b ) ; b )",
		"a s=y r=v ( a s=y r=v ; a s=x )":                 "a s=y r=v ( a s=x ; a s=y r=v )",
	} {
		x, e := pledge.Parse(order, s)
		errs(t, "Parse of "+s, e, api.OK)
		if e != api.OK {
			continue
		}
		before := copied(x)
		if got := printed(t, order, sorted(t, order, x)); got != want {
			t.Errorf("Sort of %q: %q, want %q", s, got, want)
		}
		if !same(x, before) {
			t.Errorf("Sort of %q changed it", s)
		}
	}
}

// isSorted reports whether the parts are in the order of their texts, everywhere.
func isSorted(g []api.Class, x api.Item) bool {
	var texts []string
	for _, part := range x.Parts {
		if !isSorted(g, part) {
			return false
		}
		texts = append(texts, spelt(g, part))
	}
	return slices.IsSortedFunc(texts, strings.Compare)
}

// shuffled is the same description with its parts in another order.
func shuffled(r *rand.Rand, x api.Item) api.Item {
	y := copied(x)
	for i := range y.Parts {
		y.Parts[i] = shuffled(r, y.Parts[i])
	}
	r.Shuffle(len(y.Parts), func(i, j int) { y.Parts[i], y.Parts[j] = y.Parts[j], y.Parts[i] })
	return y
}

// P1.3, P1.10: what has the same parts in another order has the same sorted form
func TestSortShuffled(t *testing.T) {
	r := random(4)
	for _, x := range someItems(r, 1000, 24) {
		y := shuffled(r, x)
		a, b := sorted(t, nest(), x), sorted(t, nest(), y)
		if !same(a, b) || !isSorted(nest(), a) {
			t.Fatalf("Sort of %v: %v; of the same: %v", x, a, b)
		}
		if !covers(t, nest(), x, y) || !covers(t, nest(), y, x) || !covers(t, nest(), a, x) || !covers(t, nest(), x, a) {
			t.Fatalf("%v and the same do not cover each other", x)
		}
		n, said, _ := pledge.Count(nest(), x)
		if m, saying, e := pledge.Count(nest(), a); n != m || said != saying || e != api.OK {
			t.Fatalf("Sort of %v has %d items, and says %d things", x, m, saying)
		}
	}
}

// P1.10: each covers itself; covering is transitive; who cover each other have the same sorted text
func TestCoversProperties(t *testing.T) {
	r := random(5)
	check := func(g []api.Class, l []api.Item) {
		is := make([][]bool, len(l))
		texts := make([]string, len(l))
		for i, a := range l {
			texts[i] = printed(t, g, sorted(t, g, a))
			for _, b := range l {
				is[i] = append(is[i], covers(t, g, a, b))
			}
		}
		for i := range l {
			if !is[i][i] {
				t.Errorf("%v does not cover itself", l[i])
			}
			for j := range l {
				if (is[i][j] && is[j][i]) != (texts[i] == texts[j]) {
					t.Errorf("%v and %v: %v, %v", l[i], l[j], is[i][j], is[j][i])
				}
				for k := range l {
					if is[i][j] && is[j][k] && !is[i][k] {
						t.Errorf("%v covers %v, which covers %v", l[i], l[j], l[k])
					}
				}
			}
		}
	}
	check(shop(), rings())
	check(nest(), someItems(r, 100, 6))
	var l []api.Item
	for range 60 {
		l = append(l, bare(r, 3))
	}
	check(nest(), l)
}

// places are all items in an item, itself first.
func places(x *api.Item) []*api.Item {
	l := []*api.Item{x}
	for i := range x.Parts {
		l = append(l, places(&x.Parts[i])...)
	}
	return l
}

// more says something more somewhere, or names a part more.
func more(r *rand.Rand, x api.Item) api.Item {
	y := copied(x)
	l := places(&y)
	z := l[r.IntN(len(l))]
	if r.IntN(2) == 0 {
		z.Parts = slices.Insert(z.Parts, r.IntN(len(z.Parts)+1), box("b"))
	} else if i := slices.Index(z.Says, ""); i >= 0 {
		z.Says[i] = []string{"b", "c"}[r.IntN(2)]
	}
	return y
}

// P1.10: what covers a description covers it still if that says more, or names more parts
func TestCoversMore(t *testing.T) {
	r := random(6)
	grown := 0
	for _, x := range someItems(r, 2000, 10) {
		y := x
		for range 4 {
			if z := more(r, y); pledge.Check(nest(), z) == api.OK {
				y = z
			}
		}
		if !covers(t, nest(), x, y) {
			t.Fatalf("%v does not cover %v", x, y)
		}
		if !same(x, y) {
			grown++
		}
	}
	if grown < 100 {
		t.Errorf("only %d descriptions said more", grown)
	}
}
