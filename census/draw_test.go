package census_test

import (
	"math"
	"slices"
	"testing"

	"lombard/api"
	"lombard/census"
)

// factorials are how many orders of 0 to 8 things there are.
func factorials() []int { return []int{1, 1, 2, 6, 24, 120, 720, 5040, 40320} }

// P10.5: of each number of things all orders have the ranks from 0 on, one after the other
func TestRank(t *testing.T) {
	for n := 1; n <= 8; n++ {
		all := slowOrders(n)
		if len(all) != factorials()[n] {
			t.Fatalf("%d orders of %d", len(all), n)
		}
		for rank, l := range all {
			if m := ranked(t, l); m != rank {
				t.Fatalf("Rank(%v): %d, want %d", l, m, rank)
			}
			if own := unranked(t, n, rank); !slices.Equal(own, l) {
				t.Fatalf("Unrank(%d, %d): %v, want %v", n, rank, own, l)
			}
		}
	}
	if n, l := ranked(t, []int{2, 0, 1}), unranked(t, 3, 5); n != 4 || !slices.Equal(l, []int{2, 1, 0}) {
		t.Errorf("Rank: %d, Unrank: %v", n, l)
	}
}

// wrongOrders are no orders.
func wrongOrders() [][]int {
	l := [][]int{nil, {}, {1}, {0, 0}, {1, 1}, {0, 2}, {1, 2}, {0, 1, 1}, {0, 0, 2}, {2, 0, 0}, {1, 2, 3}, row(8, 0), row(1000, 0), counted(9), counted(1000)}
	for i := range 8 {
		for _, x := range append(beyond(0, 7), (i+1)%8) {
			l = append(l, replaced(counted(8), i, x))
		}
	}
	for _, x := range beyond(0, 0) {
		l = append(l, []int{x})
	}
	return l
}

// P10.5: lists that are no orders, numbers of things that there are not, and ranks out of their range
func TestRankErrors(t *testing.T) {
	for _, l := range wrongOrders() {
		if n, e := census.Rank(l); n != 0 || e != api.ErrDraw {
			t.Errorf("Rank(%v): %d, error %d", l, n, e)
		}
	}
	for _, n := range beyond(1, 8) {
		for _, rank := range []int{0, 1, 5, -1, math.MaxInt} {
			if l, e := census.Unrank(n, rank); len(l) > 0 || e != api.ErrDraw {
				t.Errorf("Unrank(%d, %d): %v, error %d", n, rank, l, e)
			}
		}
	}
	for n := 1; n <= 8; n++ {
		for _, rank := range beyond(0, factorials()[n]-1) {
			if l, e := census.Unrank(n, rank); len(l) > 0 || e != api.ErrRange {
				t.Errorf("Unrank(%d, %d): %v, error %d", n, rank, l, e)
			}
		}
	}
}

// P10.5: draws of the document; of none, and of all things; by one number, and by as many as there can be
func TestDraw(t *testing.T) {
	for _, x := range []struct {
		n, many int
		numbers []int
		want    []int
	}{
		{3, 2, []int{5, 3, 2}, []int{2, 0}}, {3, 3, []int{5, 1}, []int{0, 1, 2}}, {3, 3, []int{5}, []int{2, 1, 0}}, {3, 1, []int{5}, []int{2}}, {3, 0, []int{5}, nil},
		{3, 3, []int{5, 5}, []int{2, 0, 1}}, {3, 3, []int{0, 0, 0, 1}, []int{0, 2, 1}}, {1, 1, []int{0}, []int{0}}, {1, 0, []int{0}, nil}, {1, 1, row(16, 0), []int{0}},
		{8, 8, row(16, 40319), []int{7, 6, 5, 4, 1, 2, 0, 3}}, {8, 3, []int{40319}, []int{7, 6, 5}}, {8, 8, []int{40319, 1}, counted(8)}, {2, 2, row(15, 1), []int{1, 0}},
	} {
		if l := drawn(t, x.n, x.many, x.numbers); !slices.Equal(l, x.want) {
			t.Errorf("Draw(%d, %d, %v): %v, want %v", x.n, x.many, x.numbers, l, x.want)
		}
	}
}

// P10.5: what is drawn is the first part of the order whose rank is the rest of the sum
func TestDrawSlowly(t *testing.T) {
	r := random(6)
	all := make([][][]int, 9)
	for n := range all {
		all[n] = slowOrders(n)
	}
	for range 5000 {
		n := 1 + r.IntN(8)
		var numbers []int
		for range 1 + r.IntN(16) {
			numbers = append(numbers, r.IntN(factorials()[n]))
		}
		many := r.IntN(n + 1)
		if l, want := drawn(t, n, many, numbers), all[n][sumOf(numbers)%len(all[n])][:many]; !slices.Equal(l, want) {
			t.Fatalf("Draw(%d, %d, %v): %v, want %v", n, many, numbers, l, want)
		}
	}
}

// P10.5: a number of things that there is not and wrong numbers come first, then how many are drawn
func TestDrawErrors(t *testing.T) {
	check := func(n, many int, numbers []int, want api.Errno) {
		t.Helper()
		if l, e := census.Draw(n, many, numbers); len(l) > 0 || e != want {
			t.Errorf("Draw(%d, %d, %v): %v, error %d, want %d", n, many, numbers, l, e, want)
		}
	}
	for _, n := range beyond(1, 8) {
		for _, many := range []int{0, 1, -1, 9, math.MaxInt} {
			check(n, many, []int{0}, api.ErrDraw)
			check(n, many, nil, api.ErrDraw)
		}
	}
	for n := 1; n <= 8; n++ {
		for _, many := range append(beyond(0, n), 0, 1) {
			check(n, many, nil, api.ErrDraw)
			check(n, many, []int{}, api.ErrDraw)
			check(n, many, row(17, 0), api.ErrDraw)
			check(n, many, row(1000, 0), api.ErrDraw)
			for _, x := range beyond(0, factorials()[n]-1) {
				check(n, many, []int{x}, api.ErrDraw)
				check(n, many, []int{0, x}, api.ErrDraw)
				check(n, many, []int{x, 0, 0}, api.ErrDraw)
			}
		}
		for _, many := range beyond(0, n) {
			check(n, many, []int{0}, api.ErrRange)
			check(n, many, row(16, factorials()[n]-1), api.ErrRange)
		}
	}
}
