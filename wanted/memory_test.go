package wanted_test

import (
	"reflect"
	"slices"
	"sync"
	"testing"

	"lombard/api"
	"lombard/wanted"
)

// answers are what all functions return for a question.
func answers(q question) []any {
	means, e := wanted.Means(q.l, "ring")
	words, e2 := wanted.Words(q.g, q.d)
	is, e3 := wanted.Completes(q.g, q.d, q.of)
	sure, may, e4 := wanted.Match(q.g, q.l, q.d, q.x)
	d, e5 := wanted.Example(q.g, q.l, q.d, q.x)
	explains, e6 := wanted.Explains(q.g, q.l, q.d, q.x, q.clauses)
	reason, e7 := wanted.Reason(q.g, q.l, q.d, q.x)
	held, e8 := wanted.Held(q.g, q.l, q.d, q.list, q.day)
	screen, e9 := wanted.Screen(q.g, q.l, q.pledges, q.list, q.day)
	day, e10 := wanted.Since(q.g, q.l, q.d, q.list)
	return []any{means, words, is, sure, may, d, explains, reason, held, screen, day, e, e2, e3, e4, e5, e6, e7, e8, e9, e10, wanted.CheckPairs(q.l), wanted.CheckEntry(q.x)}
}

// spared is a list with memory behind it.
func spared[T any](l []T) []T { return append(make([]T, 0, len(l)+3), l...) }

// spare is an item all of whose lists have memory behind them.
func spare(d api.Item) api.Item {
	d.Says, d.Parts = spared(d.Says), spared(d.Parts)
	for i := range d.Parts {
		d.Parts[i] = spare(d.Parts[i])
	}
	return d
}

// questions are questions about the example, whose lists have memory behind them: what may match, and what may not.
func questions() []question {
	var l []question
	for _, x := range list() {
		q := fine()
		q.x, q.clauses = x, []int{0}
		for i := range q.g {
			q.g[i].Traits, q.g[i].Parts = spared(q.g[i].Traits), spared(q.g[i].Parts)
		}
		q.x.Clauses, q.x.Not = spared(x.Clauses), spared(x.Not)
		for i := range q.x.Clauses {
			q.x.Clauses[i] = spared(q.x.Clauses[i])
		}
		q.d, q.of = spare(ring("", gem(""), gem("oval"))), spare(jewel())
		q.g, q.l, q.clauses, q.pledges, q.list = spared(q.g), spared(q.l), spared(q.clauses), spared([]api.Item{q.d, q.of, q.d}), spared(q.list)
		l = append(l, q)
	}
	return l
}

// behind reports whether the memory behind a list is zero.
func behind[T any](l []T) bool {
	return !slices.ContainsFunc(l[len(l):cap(l)], func(x T) bool { return !reflect.ValueOf(x).IsZero() })
}

// untouched reports whether all memory behind the lists of a question is zero.
func untouched(q question) bool {
	ok := behind(q.g) && behind(q.l) && behind(q.clauses) && behind(q.pledges) && behind(q.list) && behind(q.x.Clauses) && behind(q.x.Not)
	for _, clause := range q.x.Clauses {
		ok = ok && behind(clause)
	}
	for _, c := range q.g {
		ok = ok && behind(c.Traits) && behind(c.Parts)
	}
	for _, d := range []api.Item{q.d, q.of} {
		ok = ok && behind(d.Says) && behind(d.Parts)
		for _, part := range d.Parts {
			ok = ok && behind(part.Says) && behind(part.Parts)
		}
	}
	return ok
}

// scribbled writes over all memory of a list.
func scribbled[T any](l []T, x T) {
	for i := range l[:cap(l)] {
		l[:cap(l)][i] = x
	}
}

// scribble writes over all memory of an item.
func scribble(d api.Item) {
	scribbled(d.Says, "scribble")
	for _, part := range d.Parts {
		scribble(part)
	}
	scribbled(d.Parts, api.Item{Class: "scribble"})
}

// scribbleAll writes over all memory of results.
func scribbleAll(results []any) {
	for _, x := range results {
		switch x := x.(type) {
		case []string:
			scribbled(x, "scribble")
		case []int:
			scribbled(x, 77)
		case [][]int:
			for _, l := range x {
				scribbled(l, 77)
			}
			scribbled(x, []int{77})
		case api.Item:
			scribble(x)
		}
	}
}

// P5.7: arguments are not changed, nor the memory behind them; results share none with them, nor with other results
func TestMemory(t *testing.T) {
	for i, q := range questions() {
		first := answers(q)
		if want := questions()[i]; !reflect.DeepEqual(q, want) || !untouched(q) {
			t.Fatalf("arguments are changed: %v, want %v", q, want)
		}
		scribbleAll(answers(q))
		if again := answers(q); !reflect.DeepEqual(first, again) || !reflect.DeepEqual(q, questions()[i]) {
			t.Errorf("results share memory: %v, then %v", first, again)
		}
		want := answers(questions()[i])
		for j := range q.g {
			clear(q.g[j].Traits[:cap(q.g[j].Traits)])
			clear(q.g[j].Parts)
		}
		scribble(q.d)
		scribble(q.of)
		for _, clause := range q.x.Clauses {
			clear(clause)
		}
		clear(q.x.Not)
		clear(q.g)
		clear(q.l)
		clear(q.clauses)
		clear(q.pledges)
		clear(q.list)
		clear(q.x.Clauses)
		if !reflect.DeepEqual(first, want) {
			t.Errorf("results change with the arguments: %v, want %v", first, want)
		}
		if again := answers(questions()[i]); !reflect.DeepEqual(again, want) {
			t.Errorf("arguments are kept: %v, want %v", again, want)
		}
	}
}

// P5.7: no two lists of a result share memory, though those of the arguments do
func TestMemoryWithin(t *testing.T) {
	says := []string{""}
	gems := []api.Item{{Class: "gem", Says: says}, {Class: "gem", Says: says}}
	d := ring("", gems...)
	x := since(0, clause("long"), clause("round"))
	y, e := wanted.Example(shop(), pairs(), d, x)
	want := ring("", gem("oval"), gem("round"))
	if y.Parts[0].Says[0] == "round" {
		slices.Reverse(want.Parts)
	}
	want.Says[1] = y.Says[1]
	if !same(y, want) || e != api.OK || says[0] != "" {
		t.Fatalf("Example: %v, error %d, want %v", y, e, want)
	}
	_ = append(y.Says, "scribble")
	_ = append(y.Parts[0].Says, "scribble")
	_ = append(y.Parts[0].Parts, jewel())
	if !same(y, want) {
		t.Errorf("lists of an example share memory: %v, want %v", y, want)
	}
	held, e := wanted.Screen(shop(), pairs(), []api.Item{jewel(), jewel(), jewel()}, list(), 5)
	if len(held) != 3 || e != api.OK {
		t.Fatalf("Screen: %v, error %d", held, e)
	}
	for _, i := range []int{1, 0} {
		_ = append(held[i], 77)
		scribbled(held[i], 77)
	}
	if !slices.Equal(held[2], []int{0, 3}) {
		t.Errorf("lists of Screen share memory: %v", held)
	}
}

// P2: the same arguments have the same result, whatever was called before, or is called at the same time
func TestSameResults(t *testing.T) {
	r := random(16)
	var all []question
	for range 300 {
		w := someWorld(r)
		x := w.someEntry(r)
		all = append(all, question{w.g, w.l, w.d, w.someItem(r), x, []int{r.IntN(len(x.Clauses))}, []api.Item{w.d, w.someItem(r)}, w.list, r.IntN(12)})
	}
	ask := func(l []question) []any {
		var out []any
		for _, q := range l {
			out = append(out, answers(q))
		}
		return out
	}
	first := ask(all)
	backwards := slices.Clone(all)
	slices.Reverse(backwards)
	second := ask(backwards)
	slices.Reverse(second)
	if !reflect.DeepEqual(first, second) {
		t.Errorf("other results in another order")
	}
	var group sync.WaitGroup
	for range 4 {
		group.Go(func() {
			if !reflect.DeepEqual(first, ask(all)) {
				t.Errorf("other results at the same time")
			}
		})
	}
	group.Wait()
}

// alike reports whether results are the same; a nil and an empty list are.
func alike(a, b any) bool {
	switch x := a.(type) {
	case []string:
		return slices.Equal(x, b.([]string))
	case []int:
		return slices.Equal(x, b.([]int))
	case [][]int:
		return slices.EqualFunc(x, b.([][]int), slices.Equal)
	case api.Item:
		return same(x, b.(api.Item))
	}
	return a == b
}

// R3: a nil list and an empty one are the same
func TestNilAndEmpty(t *testing.T) {
	for i, change := range []func(q *question, empty bool){
		func(q *question, empty bool) { q.g = map[bool][]api.Class{true: {}}[empty] },
		func(q *question, empty bool) { q.g[1].Traits = map[bool][]api.Trait{true: {}}[empty] },
		func(q *question, empty bool) { q.g[1].Parts = map[bool][]string{true: {}}[empty] },
		func(q *question, empty bool) { q.l = map[bool][]api.Pair{true: {}}[empty] },
		func(q *question, empty bool) { q.d.Parts = map[bool][]api.Item{true: {}}[empty] },
		func(q *question, empty bool) { q.d.Says = map[bool][]string{true: {}}[empty] },
		func(q *question, empty bool) { q.d.Parts[0].Parts = map[bool][]api.Item{true: {}}[empty] },
		func(q *question, empty bool) { q.of.Parts[0].Parts = map[bool][]api.Item{true: {}}[empty] },
		func(q *question, empty bool) { q.x.Clauses = map[bool][][]string{true: {}}[empty] },
		func(q *question, empty bool) { q.x.Clauses[1] = map[bool][]string{true: {}}[empty] },
		func(q *question, empty bool) { q.x.Not = map[bool][]string{true: {}}[empty] },
		func(q *question, empty bool) { q.clauses = map[bool][]int{true: {}}[empty] },
		func(q *question, empty bool) { q.pledges = map[bool][]api.Item{true: {}}[empty] },
		func(q *question, empty bool) { q.list = map[bool][]api.Entry{true: {}}[empty] },
	} {
		for _, x := range list() {
			q, p := fine(), fine()
			q.x, p.x = x, x
			q.x.Clauses, p.x.Clauses = slices.Repeat(x.Clauses, 2), slices.Repeat(x.Clauses, 2)
			change(&q, false)
			change(&p, true)
			a, b := answers(q), answers(p)
			for j := range a {
				if !alike(a[j], b[j]) {
					t.Errorf("change %d, result %d: %v, then %v", i, j, a[j], b[j])
				}
			}
		}
	}
}

// P1: whatever the arguments are, no function panics, and with an error all else is zero
func TestAnyArguments(t *testing.T) {
	r := random(17)
	days := append(extremes(), -1, 0, 1, 5, 9, 36499, 36500, 36501)
	texts := append(notWords(), "ring", "gold", "jewel", "round", "red")
	text := func() string { return texts[r.IntN(len(texts))] }
	rare := func(x string) string {
		if r.IntN(12) > 0 {
			return x
		}
		return text()
	}
	grammars := [][]api.Class{nil, shop(), shop(), shop(), shop(), shop()[:1], {{}}, {{Name: "ring", Parts: []string{"ring"}, Most: 6}}}
	items := []api.Item{{}, jewel(), jewel(), ring("", gem(""), gem("")), ring("small", gem("oval")), ring(""), gem(""), endless(), {Class: "ring", Parts: endless().Parts}, {Class: "ring"}}
	item := func() api.Item { return items[r.IntN(len(items))] }
	entry := func() api.Entry {
		x := list()[r.IntN(4)]
		x.Day, x.Until = days[r.IntN(len(days))]*r.IntN(2), days[r.IntN(len(days))]*r.IntN(2)
		x.Clauses = append(x.Clauses, slices.Repeat([][]string{clause(rare("long"), rare("round"))}, r.IntN(6))...)
		x.Not = slices.Repeat([]string{rare("red")}, r.IntN(5))
		return x
	}
	fine := 0
	for range 30000 {
		q := question{grammars[r.IntN(len(grammars))], []api.Pair{pair(rare("ring"), rare("jewel"))}, item(), item(), entry(), nil, []api.Item{item(), item()}[:r.IntN(3)], nil, days[r.IntN(len(days))]}
		for range r.IntN(4) {
			q.clauses = append(q.clauses, append(extremes(), -1, 0, 1, 2, 3, 4, 5, 6)[r.IntN(12)])
			q.list = append(q.list, entry())
		}
		for name, call := range functions() {
			e := call(q)
			if e == mixed {
				t.Fatalf("%s with %v: results with an error", name, q)
			}
			if e == api.OK {
				fine++
			}
		}
		if l, e := wanted.Means(q.l, text()); e != api.OK && len(l) > 0 || e == api.OK && len(l) == 0 {
			t.Fatalf("Means of %v: %v, error %d", q.l, l, e)
		}
	}
	if fine < 20000 {
		t.Errorf("only %d calls had no error", fine)
	}
}
