package wanted_test

import (
	"slices"
	"testing"

	"lombard/api"
	"lombard/wanted"
)

// holds checks for which entries a pledge is held on a day.
func holds(t *testing.T, w world, day int, want ...int) {
	t.Helper()
	if l := w.held(t, day); !slices.Equal(l, want) {
		t.Errorf("Held(%v, %d): %v, want %v", w, day, l, want)
	}
}

// heldSince checks since when a pledge is held; -1: never.
func heldSince(t *testing.T, w world, want int) {
	t.Helper()
	wantError := api.OK
	if want < 0 {
		want, wantError = 0, api.ErrNone
	}
	if day, e := wanted.Since(w.g, w.l, w.d, w.list); day != want || e != wantError {
		t.Errorf("Since(%v): %d, error %d, want %d, error %d", w, day, e, want, wantError)
	}
}

// P5.5: the examples of the document
func TestHeldExamples(t *testing.T) {
	holds(t, example(), 4, 3)
	holds(t, example(), 5, 0, 3)
	holds(t, example(), 9, 0)
	heldSince(t, example(), 4)
}

// P5.5: from Day on, and before Until
func TestOpen(t *testing.T) {
	fits := since(0, clause("ring"))
	for _, x := range []struct{ day, until int }{{0, 0}, {0, 1}, {0, 36500}, {1, 2}, {7, 0}, {7, 8}, {7, 9}, {36499, 36500}, {36499, 0}, {36500, 0}} {
		w := example()
		w.list = []api.Entry{until(since(x.day, fits.Clauses...), x.until)}
		for _, day := range []int{0, 1, 2, 6, 7, 8, 9, 10, 36498, 36499, 36500} {
			if day >= x.day && (x.until == 0 || day < x.until) {
				holds(t, w, day, 0)
				continue
			}
			holds(t, w, day)
		}
		heldSince(t, w, x.day)
	}
}

// P5.5: the first day of all entries that may match, wherever they are in the list
func TestSince(t *testing.T) {
	w := example()
	at := func(days ...int) {
		w.list = nil
		for _, day := range days {
			w.list = append(w.list, since(day, clause("round")))
		}
	}
	at(5, 9)
	heldSince(t, w, 5)
	at(9, 5, 7)
	heldSince(t, w, 5)
	at(7, 36500, 5)
	heldSince(t, w, 5)
	at(9, 0, 5)
	heldSince(t, w, 0)
	at(36500)
	heldSince(t, w, 36500)
	at(9, 3, 5)
	w.list[1].Not = []string{"ring"}
	heldSince(t, w, 5)
	w.list[2] = until(w.list[2], 6) // withdrawn, but held before
	heldSince(t, w, 5)
	w.list = list()[1:3]
	heldSince(t, w, -1)
	w.list = nil
	heldSince(t, w, -1)
	holds(t, w, 5)
}

// P5.5: at most 24 entries, and 24 pledges; entries and pledges may be there twice
func TestManyEntries(t *testing.T) {
	w := example()
	w.list = slices.Repeat(list()[:1], 24)
	holds(t, w, 4)
	var all []int
	for i := range 24 {
		all = append(all, i)
	}
	holds(t, w, 5, all...)
	heldSince(t, w, 5)
	q := fine()
	q.pledges = slices.Repeat([]api.Item{jewel(), ring("", gem("oval"))}, 12)
	held, e := wanted.Screen(q.g, q.l, q.pledges, q.list, 6)
	if len(held) != 24 || e != api.OK {
		t.Fatalf("Screen of 24: %v, error %d", held, e)
	}
	for i, l := range held {
		if want := [][]int{{0, 3}, {0}}[i%2]; !slices.Equal(l, want) {
			t.Errorf("Screen, pledge %d: %v, want %v", i, l, want)
		}
	}
	for name, call := range withList() {
		for _, n := range []int{25, 26, 100000} {
			q := fine()
			q.list = make([]api.Entry, n) // they are not valid either
			errs(t, name, call(q), api.ErrLimit)
			q.list = slices.Repeat(list()[:1], n)
			errs(t, name, call(q), api.ErrLimit)
		}
	}
	for _, n := range []int{25, 26, 100000} {
		q := fine()
		q.pledges = slices.Repeat([]api.Item{jewel()}, n)
		errs(t, "Screen of many", functions()["Screen"](q), api.ErrLimit)
		q.g, q.pledges = nil, make([]api.Item, n)
		errs(t, "Screen of many", functions()["Screen"](q), api.ErrLimit)
	}
}

// P5.5: what is no day
func TestWrongDays(t *testing.T) {
	for _, name := range []string{"Held", "Screen"} {
		for _, day := range beyond(0, api.MaxDay) {
			q := fine()
			q.day = day
			errs(t, name, functions()[name](q), api.ErrDay)
			q.list = nil
			errs(t, name, functions()[name](q), api.ErrDay)
		}
		for _, day := range []int{0, api.MaxDay} {
			q := fine()
			q.day = day
			errs(t, name, functions()[name](q), api.OK)
		}
	}
}

// P5.5: against the definitions, of any pledge and list
func TestHeldOfAny(t *testing.T) {
	r := random(7)
	counts := map[int]int{}
	for range 1500 {
		w := someWorld(r)
		mays := w.slowMays()
		first := -1
		for day := range 16 {
			want := slowHeld(w.list, mays, day)
			holds(t, w, day, want...)
			if len(want) > 0 && first < 0 {
				first = day
			}
			counts[len(want)]++
		}
		heldSince(t, w, first)
		if t.Failed() {
			t.FailNow()
		}
	}
	for n := range 4 {
		if counts[n] < 50 {
			t.Errorf("only %d times it was held for %d entries", counts[n], n)
		}
	}
}

// P5.5: against the definitions, of any pledges and list
func TestScreenOfAny(t *testing.T) {
	r := random(18)
	for range 1000 {
		w := someWorld(r)
		pledges := []api.Item{w.d, w.someItem(r), w.d, w.someItem(r)}[:r.IntN(5)]
		day := r.IntN(15)
		held, e := wanted.Screen(w.g, w.l, pledges, w.list, day)
		if len(held) != len(pledges) || e != api.OK {
			t.Fatalf("Screen(%v, %v, %d): %v, error %d", w, pledges, day, held, e)
		}
		for i, d := range pledges {
			if want := slowHeld(w.list, w.of(d).slowMays(), day); !slices.Equal(held[i], want) {
				t.Fatalf("Screen(%v, %v, %d): %v, want %v of the pledge %d", w, pledges, day, held, want, i)
			}
		}
	}
}
