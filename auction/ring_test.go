package auction_test

import (
	"slices"
	"testing"

	"lombard/api"
	"lombard/auction"
)

// rings are what Rings returns without an error.
func rings(t *testing.T, past []int, few int) []int {
	t.Helper()
	l, e := auction.Rings(past, few)
	if e != api.OK {
		t.Fatalf("Rings(%v, %d): error %d", past, few, e)
	}
	return l
}

// P6.5: the examples, and the order of rings
func TestRings(t *testing.T) {
	for _, x := range []struct {
		past []int
		few  int
		want []int
	}{
		{past(), 2, []int{14, 9}},
		{past(), 1, []int{14, 9}},
		{past(), 3, nil},
		{nil, 1, nil},
		{[]int{0, 0}, 1, nil},
		// one bidder is no ring, nor are those who bid against each other
		{[]int{1, 1}, 1, nil},
		{[]int{1, 2, 3}, 1, nil},
		{[]int{1, 2}, 1, []int{3}},
		// each of them, not only some, bids often
		{[]int{1, 2, 2}, 2, nil},
		{[]int{1, 2, 2, 1, 4}, 2, []int{3}},
		{[]int{1, 2, 2, 1, 4, 4}, 2, []int{7}},
		{[]int{1, 2, 4, 8, 16, 32, 64, 128}, 1, []int{255}},
		// equally many by their numbers as sets: not in the order of their lists of bidders
		{[]int{3, 12}, 1, []int{5, 6, 9, 10}},
		{[]int{1, 2, 4, 8, 16, 17, 18, 20, 24}, 1, []int{15}},
		// many bidders come before few, also if their number is greater
		{[]int{1, 2, 6, 10, 18, 4, 8, 16}, 1, []int{29, 3}},
		{[]int{1, 2, 192, 65, 66, 128, 64}, 1, []int{131}},
		{slices.Repeat([]int{1, 2}, 32), 32, []int{3}},
		{slices.Repeat([]int{1, 2}, 32), 33, nil},
		{slices.Repeat([]int{1}, 64), 64, nil},
	} {
		if l := rings(t, x.past, x.few); !slices.Equal(l, x.want) {
			t.Errorf("Rings(%v, %d): %v, want %v", x.past, x.few, l, x.want)
		}
	}
}

// P6.5: what the past is, and few
func TestWrongPast(t *testing.T) {
	wrong := func(past []int, few int, want api.Errno) {
		t.Helper()
		if l, e := auction.Rings(past, few); len(l) > 0 || e != want {
			t.Errorf("Rings(%v, %d): %v, error %d, want %d", past, few, l, e, want)
		}
	}
	for _, n := range beyond(0, 255) {
		for _, few := range append(extremes(), 0, 1, 64, 65) {
			wrong([]int{n}, few, api.ErrPast)
			wrong([]int{1, 2, n}, few, api.ErrPast)
			wrong(make([]int, 65), few, api.ErrPast)
		}
	}
	for _, few := range beyond(1, 64) {
		wrong(past(), few, api.ErrRange)
		wrong(nil, few, api.ErrRange)
	}
	rings(t, make([]int, 64), 1)
	rings(t, []int{0, 255}, 64)
}

// P6.5: all rings of random pasts
func TestRingsRandom(t *testing.T) {
	r := random(8)
	several := 0
	for range 500 {
		l := somePast(r)
		few := 1 + r.IntN(4)
		got := rings(t, l, few)
		if want := slowRings(l, few); !slices.Equal(got, want) {
			t.Fatalf("Rings(%v, %d): %v, want %v", l, few, got, want)
		}
		if len(got) > 1 {
			several++
		}
	}
	if several < 100 {
		t.Errorf("only %d pasts had several rings", several)
	}
}
