package auction_test

import (
	"slices"
	"testing"

	"lombard/api"
	"lombard/auction"
)

// wrongClosing checks that a closing is not valid, and that all functions say so, whatever else they are given.
func wrongClosing(t *testing.T, name string, c api.Closing) {
	t.Helper()
	errs(t, name, auction.CheckClosing(c), api.ErrClosing)
	for _, to := range [][]int{nil, {0, 1, -1}, {5, 5}} {
		worth, e := auction.Worth(c, to)
		prices, e2 := auction.Prices(c)
		a, e3 := auction.Close(c)
		is, e4 := auction.Fair(c, award(to, []int{5, 1}))
		if worth != 0 || len(prices) > 0 || len(a.To) > 0 || len(a.Prices) > 0 || is {
			t.Errorf("%s: results %d, %v, %v, %v", name, worth, prices, a, is)
		}
		for i, e := range []api.Errno{e, e2, e3, e4} {
			if e != api.ErrClosing {
				t.Errorf("%s: function %d: error %d", name, i, e)
			}
		}
	}
}

func rightClosing(t *testing.T, name string, c api.Closing) {
	t.Helper()
	errs(t, name, auction.CheckClosing(c), api.OK)
	a := awarded(t, c)
	if !slices.Equal(a.Prices, priced(t, c)) || !isFair(t, c, a) {
		t.Errorf("%s: Close(%v): %v", name, c, a)
	}
}

// P6.1: what each number of a closing may be
func TestCheckClosingNumbers(t *testing.T) {
	for name, place := range map[string]func(c api.Closing) *int{
		"the first Reserve": func(c api.Closing) *int { return &c.Reserves[0] },
		"the last Reserve":  func(c api.Closing) *int { return &c.Reserves[1] },
		"the first value":   func(c api.Closing) *int { return &c.Values[0][0] },
		"a value":           func(c api.Closing) *int { return &c.Values[1][1] },
		"the last value":    func(c api.Closing) *int { return &c.Values[2][1] },
	} {
		for _, n := range []int{0, 1, 50000, 100000} {
			c := closing()
			*place(c) = n
			rightClosing(t, name, c)
		}
		for _, n := range beyond(0, 100000) {
			c := closing()
			*place(c) = n
			wrongClosing(t, name, c)
		}
	}
}

// P6.1: how many lots and bidders a closing has
func TestCheckClosingLists(t *testing.T) {
	for lots := range 8 {
		for bidders := range 9 {
			c := api.Closing{Reserves: make([]int, lots)}
			for range bidders {
				c.Values = append(c.Values, make([]int, lots))
			}
			if lots < 1 || lots > 5 || bidders < 1 || bidders > 6 {
				wrongClosing(t, "lots and bidders", c)
				continue
			}
			rightClosing(t, "lots and bidders", c)
			for bidder := range c.Values {
				for _, n := range []int{0, lots - 1, lots + 1} {
					was := c.Values[bidder]
					c.Values[bidder] = make([]int, n)
					wrongClosing(t, "values", c)
					c.Values[bidder] = was
				}
			}
		}
	}
	wrongClosing(t, "nothing", api.Closing{})
	wrongClosing(t, "no lots", api.Closing{Values: [][]int{nil}})
}

// P6.4: the examples, and lists with every mistake
func TestWorth(t *testing.T) {
	for _, x := range []struct {
		to   []int
		want int
		e    api.Errno
	}{
		{[]int{0, 1, -1}, 17, api.OK}, {[]int{1, 0, -1}, 14, api.OK}, {[]int{-1, -1, 1}, 2, api.OK}, {[]int{-1, -1, -1}, 2, api.OK}, {[]int{1, -1, 0}, 11, api.OK},
		{nil, 0, api.ErrAward}, {[]int{}, 0, api.ErrAward}, {[]int{0, 1}, 0, api.ErrAward}, {[]int{0, 1, -1, -1}, 0, api.ErrAward},
		{[]int{0, 0, -1}, 0, api.ErrAward}, {[]int{1, -1, 1}, 0, api.ErrAward}, {[]int{2, 1, -1}, 0, api.ErrAward}, {[]int{-1, -1, 2}, 0, api.ErrAward}, {[]int{-2, 1, 0}, 0, api.ErrAward},
		{[]int{0, 1, extremes()[0]}, 0, api.ErrAward}, {[]int{0, 1, extremes()[3]}, 0, api.ErrAward},
	} {
		if n, e := auction.Worth(closing(), x.to); n != x.want || e != x.e {
			t.Errorf("Worth of %v: %d, error %d, want %d, error %d", x.to, n, e, x.want, x.e)
		}
	}
}

// P6.4: the worth of each list for random closings; other lists are none
func TestWorthRandom(t *testing.T) {
	r := random(4)
	for range 300 {
		c := someClosing(r, 5, 4, api.MaxBid)
		slowLists(len(c.Values), -2, len(c.Reserves), func(to []int) {
			want, e := 0, api.ErrAward
			if slowIsTo(c, to) {
				want, e = slowWorth(c, to), api.OK
			}
			if n, e2 := auction.Worth(c, to); n != want || e2 != e {
				t.Fatalf("Worth(%v, %v): %d, error %d, want %d, error %d", c, to, n, e2, want, e)
			}
		})
	}
}

// P6.4: the examples, and lots that nobody wants, or all do
func TestPrices(t *testing.T) {
	for _, x := range []struct {
		c    api.Closing
		want []int
	}{
		{closing(), []int{5, 1}},
		{api.Closing{Reserves: []int{7, 3}, Values: [][]int{{6, 9}}}, []int{7, 3}},
		{api.Closing{Reserves: []int{0}, Values: [][]int{{4}, {9}, {6}}}, []int{6}},
		{api.Closing{Reserves: []int{8}, Values: [][]int{{4}, {9}, {6}}}, []int{8}},
		{api.Closing{Reserves: []int{10}, Values: [][]int{{4}, {9}, {6}}}, []int{10}},
		{api.Closing{Reserves: []int{0}, Values: [][]int{{0}}}, []int{0}},
		{api.Closing{Reserves: []int{0}, Values: [][]int{{100000}}}, []int{0}},
		{api.Closing{Reserves: []int{0}, Values: [][]int{{100000}, {100000}}}, []int{100000}},
		{api.Closing{Reserves: []int{100000}, Values: [][]int{{0}}}, []int{100000}},
		// who goes without one lot would take another one from its bidder
		{api.Closing{Reserves: []int{0, 0, 0}, Values: [][]int{{9, 8, 0}, {0, 7, 5}, {4, 0, 6}, {8, 0, 0}}}, []int{8, 7, 5}},
		{api.Closing{Reserves: []int{0, 0}, Values: [][]int{{5, 5}, {5, 5}}}, []int{0, 0}},
		{api.Closing{Reserves: []int{0, 0}, Values: [][]int{{5, 5}, {5, 5}, {5, 5}}}, []int{5, 5}},
	} {
		if l := priced(t, x.c); !slices.Equal(l, x.want) {
			t.Errorf("Prices(%v): %v, want %v", x.c, l, x.want)
		}
	}
}

// P6.4: the least prices of random closings, the largest ones among them
func TestPricesRandom(t *testing.T) {
	r := random(5)
	compare := func(c api.Closing) {
		t.Helper()
		if l, want := priced(t, c), slowPrices(c); !slices.Equal(l, want) {
			t.Fatalf("Prices(%v): %v, want %v", c, l, want)
		}
	}
	for range 600 {
		compare(someClosing(r, 4, 4, []int{3, 10, 100, api.MaxBid}[r.IntN(4)]))
	}
	for range 8 {
		c := api.Closing{Reserves: r.Perm(5)}
		for range 6 {
			c.Values = append(c.Values, r.Perm(5))
		}
		compare(c)
	}
}

// P6.4: the award of the example
func TestClose(t *testing.T) {
	a := awarded(t, closing())
	if !slices.Equal(a.To, []int{0, 1, -1}) || !slices.Equal(a.Prices, []int{5, 1}) {
		t.Errorf("Close: %v", a)
	}
}
