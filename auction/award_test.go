package auction_test

import (
	"slices"
	"testing"

	"lombard/api"
	"lombard/auction"
)

// P6.4: the examples, and each thing that makes an award not fair
func TestFair(t *testing.T) {
	for _, x := range []struct {
		name       string
		to, prices []int
		want       bool
	}{
		{"the least prices", []int{0, 1, -1}, []int{5, 1}, true},
		{"greater ones", []int{0, 1, -1}, []int{6, 2}, true},
		{"the greatest ones", []int{0, 1, -1}, []int{10, 7}, true},
		{"a lot that is too dear", []int{0, 1, -1}, []int{11, 7}, false},
		{"the other one too dear", []int{0, 1, -1}, []int{10, 8}, false},
		{"just as good", []int{0, 1, -1}, []int{6, 5}, true},
		{"the other lot is better", []int{0, 1, -1}, []int{5, 0}, false},
		{"no lot is better", []int{0, 1, -1}, []int{8, 8}, false},
		{"a lot is better than none", []int{0, 1, -1}, []int{4, 1}, false},
		{"less than the reserve", []int{0, 1, -1}, []int{1, 0}, false},
		{"a lot that nobody gets is dear", []int{0, -1, -1}, []int{9, 7}, false},
		{"nobody gets anything", []int{-1, -1, -1}, []int{2, 0}, false},
		{"the wrong ones get them", []int{1, 0, -1}, []int{5, 1}, false},
	} {
		if is := isFair(t, closing(), award(x.to, x.prices)); is != x.want {
			t.Errorf("%s: Fair of %v at %v: %v", x.name, x.to, x.prices, is)
		}
	}
	alone := api.Closing{Reserves: []int{7}, Values: [][]int{{7}}}
	for _, x := range []struct {
		to, prices []int
		want       bool
	}{
		{[]int{0}, []int{7}, true}, {[]int{-1}, []int{7}, true}, {[]int{-1}, []int{8}, false}, {[]int{0}, []int{8}, false}, {[]int{0}, []int{6}, false}, {[]int{-1}, []int{6}, false},
	} {
		if is := isFair(t, alone, award(x.to, x.prices)); is != x.want {
			t.Errorf("one lot and one bidder: Fair of %v at %v: %v", x.to, x.prices, is)
		}
	}
}

// P6.4: what is no award
func TestWrongAwards(t *testing.T) {
	wrong := func(a api.Award) {
		t.Helper()
		if is, e := auction.Fair(closing(), a); is || e != api.ErrAward {
			t.Errorf("Fair of %v: %v, error %d", a, is, e)
		}
	}
	for _, to := range [][]int{nil, {}, {0, 1}, {0, 1, -1, -1}, {0, 0, -1}, {2, 1, -1}, {0, 1, -2}, {1, -1, 1}} {
		wrong(award(to, []int{5, 1}))
	}
	for _, prices := range [][]int{nil, {}, {5}, {5, 1, 0}, {-1, 1}, {5, -1}, {100001, 1}, {5, 100001}} {
		wrong(award([]int{0, 1, -1}, prices))
	}
	for _, n := range extremes() {
		wrong(award([]int{0, 1, -1}, []int{5, n}))
		wrong(award([]int{0, 1, n}, []int{5, 1}))
	}
	wrong(api.Award{})
	for _, prices := range [][]int{{0, 0}, {100000, 100000}} {
		isFair(t, closing(), award([]int{0, 1, -1}, prices))
	}
}

// P6.4: which awards of random closings are fair, and that Close returns one of these at the least prices
func TestFairRandom(t *testing.T) {
	r := random(6)
	fair := 0
	for range 400 {
		c := someClosing(r, 3, 3, 1+r.IntN(4))
		if a := awarded(t, c); !slowIsTo(c, a.To) || !slices.Equal(a.Prices, slowPrices(c)) || !slowFair(c, a) {
			t.Fatalf("Close(%v): %v", c, a)
		}
		slowLists(len(c.Values), -1, len(c.Reserves)-1, func(to []int) {
			if !slowIsTo(c, to) {
				return
			}
			slowLists(len(c.Reserves), 0, 5, func(prices []int) {
				a := award(to, prices)
				is, want := isFair(t, c, a), slowFair(c, a)
				if is != want {
					t.Fatalf("Fair(%v, %v): %v, want %v", c, a, is, want)
				}
				if is {
					fair++
				}
			})
		})
	}
	if fair < 1000 {
		t.Errorf("only %d awards were fair", fair)
	}
}

// P6.4: Close returns a fair award at the least prices also if there are many lots and bidders, and all numbers are large
func TestCloseRandom(t *testing.T) {
	r := random(7)
	for range 500 {
		c := someClosing(r, 5, 6, []int{2, 5, 1000, api.MaxBid}[r.IntN(4)])
		a := awarded(t, c)
		if !slowIsTo(c, a.To) || !slowFair(c, a) || !slices.Equal(a.Prices, priced(t, c)) {
			t.Fatalf("Close(%v): %v", c, a)
		}
	}
}
