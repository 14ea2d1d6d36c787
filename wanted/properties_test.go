package wanted_test

import (
	"math/rand/v2"
	"slices"
	"testing"

	"lombard/api"
	"lombard/wanted"
)

// of is a world with another description.
func (w world) of(d api.Item) world {
	w.d = d
	return w
}

// P5.8: if the description surely matches, the true one does; if the true one matches, the description may, and the goods are held
func TestTruth(t *testing.T) {
	r := random(9)
	counts := map[bool]int{}
	for range 800 {
		w := someWorld(r)
		for i, x := range w.list {
			sure, may := w.match(t, x)
			held := slices.Contains(w.held(t, x.Day), i)
			for _, truth := range slowCompletions(w.g, w.d) {
				if len(sayable(w.g, truth)) > 0 {
					continue // more could be said of it
				}
				matches, also := w.of(truth).match(t, x)
				if matches != also || sure && !matches || matches && !may || matches && !held {
					t.Fatalf("%v, %v: sure %v, may %v, held %v; the truth %v: %v, %v", w, x, sure, may, held, truth, matches, also)
				}
				counts[matches]++
			}
		}
	}
	if counts[true] < 1000 || counts[false] < 1000 {
		t.Errorf("only %v", counts)
	}
}

// P5.9: with the clauses of a reason no completion matches; with any one of them less, some completion does
func TestReasonsAreRight(t *testing.T) {
	r := random(10)
	for range 1500 {
		w := someWorld(r)
		for _, x := range w.list {
			l, e := wanted.Reason(w.g, w.l, w.d, x)
			_, may := w.match(t, x)
			if may != (e == api.ErrNone) || may != !w.explains(t, x, allOf(x)...) {
				t.Fatalf("Reason(%v, %v): error %d, it may match: %v", w, x, e, may)
			}
			if may {
				continue
			}
			if !w.explains(t, x, l...) {
				t.Fatalf("Reason(%v, %v): %v does not explain it", w, x, l)
			}
			for i := range l {
				less := slices.Delete(slices.Clone(l), i, i+1)
				if w.explains(t, x, less...) {
					t.Fatalf("Reason(%v, %v): %v, but %v explains it, too", w, x, l, less)
				}
				some := x
				some.Clauses = nil
				for _, j := range less {
					some.Clauses = append(some.Clauses, x.Clauses[j])
				}
				if len(less) == 0 {
					continue // that is no entry
				}
				if _, may := w.match(t, some); !may {
					t.Fatalf("Reason(%v, %v): %v, but without %d it may not match either", w, x, l, l[i])
				}
			}
		}
	}
}

// P5.10: with more pairs, what may match may still match, if Not is empty
func TestMorePairs(t *testing.T) {
	r := random(11)
	more := 0
	for range 2000 {
		w := someWorld(r)
		longer := w
		longer.l = slices.Concat(w.l, []api.Pair{pair(someWord(r), someWord(r)), pair(someWord(r), someWord(r))})
		for _, x := range w.list {
			x.Not = nil
			sure, may := w.match(t, x)
			sureMore, mayMore := longer.match(t, x)
			if may && !mayMore || sure && !sureMore {
				t.Fatalf("%v, %v: %v, %v; with more pairs %v, %v", w, x, sure, may, sureMore, mayMore)
			}
			if !may && mayMore {
				more++
			}
		}
	}
	if more < 100 {
		t.Errorf("only %d times more matched", more)
	}
}

// P5.10: with more said, what may not match may not match either
func TestMoreSaid(t *testing.T) {
	r := random(12)
	for range 600 {
		w := someWorld(r)
		for _, x := range w.list {
			sure, may := w.match(t, x)
			for _, d := range slowCompletions(w.g, w.d) {
				sureMore, mayMore := w.of(d).match(t, x)
				if mayMore && !may || sure && !sureMore {
					t.Fatalf("%v, %v: %v, %v; with more said %v, %v: %v", w, x, sure, may, sureMore, mayMore, d)
				}
			}
		}
	}
}

// shuffled is a list in another order, and where each of its elements was.
func shuffled[T any](r *rand.Rand, l []T) ([]T, []int) {
	at := r.Perm(len(l))
	var out []T
	for _, i := range at {
		out = append(out, l[i])
	}
	return out, at
}

// P5.10, P5.11: in whatever order entries are on the list, and with one more, nothing is released
func TestOrderOfEntries(t *testing.T) {
	r := random(13)
	for range 1500 {
		w := someWorld(r)
		other := w
		var at []int
		other.list, at = shuffled(r, w.list)
		longer := w
		longer.list = append(slices.Clone(w.list), w.someEntry(r))
		for day := 0; day < 16; day += 3 {
			want := w.held(t, day)
			var got []int
			for _, i := range other.held(t, day) {
				got = append(got, at[i])
			}
			slices.Sort(got)
			if !slices.Equal(got, want) {
				t.Fatalf("Held(%v, %d): %v, in the order %v %v", w, day, want, at, got)
			}
			if more := longer.held(t, day); !slices.Equal(slices.DeleteFunc(more, func(i int) bool { return i == len(w.list) }), want) {
				t.Fatalf("Held(%v, %d): %v, with an entry more %v", w, day, want, more)
			}
		}
	}
}

// P5.11: in whatever order pledges are asked for
func TestOrderOfPledges(t *testing.T) {
	r := random(14)
	for range 1000 {
		w := someWorld(r)
		var pledges []api.Item
		for range r.IntN(6) {
			pledges = append(pledges, w.someItem(r))
		}
		other, at := shuffled(r, pledges)
		day := r.IntN(15)
		want, e := wanted.Screen(w.g, w.l, pledges, w.list, day)
		got, e2 := wanted.Screen(w.g, w.l, other, w.list, day)
		if e != api.OK || e2 != api.OK || len(want) != len(pledges) || len(got) != len(other) {
			t.Fatalf("Screen(%v, %v): %v, %v, errors %d, %d", w, pledges, want, got, e, e2)
		}
		for i, j := range at {
			if !slices.Equal(got[i], want[j]) || !slices.Equal(got[i], w.of(other[i]).held(t, day)) {
				t.Fatalf("Screen(%v, %v): %v, in the order %v %v", w, pledges, want, at, got)
			}
		}
	}
}

// P5.11: in whatever order pairs, clauses and words of them are
func TestOrderOfWords(t *testing.T) {
	r := random(15)
	for range 1500 {
		w := someWorld(r)
		other := w
		other.l, _ = shuffled(r, w.l)
		for _, x := range w.list {
			y := x
			y.Clauses, _ = shuffled(r, x.Clauses)
			y.Not, _ = shuffled(r, x.Not)
			y.Clauses[0], _ = shuffled(r, y.Clauses[0])
			sure, may := w.match(t, x)
			if sure2, may2 := other.match(t, y); sure2 != sure || may2 != may {
				t.Fatalf("%v, %v: %v, %v; in another order %v, %v: %v, %v", w, x, sure, may, other, y, sure2, may2)
			}
		}
	}
}
