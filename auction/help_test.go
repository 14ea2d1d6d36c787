package auction_test

import (
	"math"
	"math/rand/v2"
	"slices"
	"testing"

	"lombard/api"
	"lombard/auction"
)

// lot, bids, closing and past are those of the document.
func lot() api.Lot { return ladder(10, 30, rise(0, 5), rise(50, 20)) }

func bids() []api.Bid {
	return []api.Bid{bid(3, api.BidProxy, 47), bid(1, api.BidRoom, 60), bid(2, api.BidSealed, 45)}
}

func closing() api.Closing {
	return api.Closing{Reserves: []int{2, 0}, Values: [][]int{{10, 6}, {8, 7}, {5, 0}}}
}

func past() []int { return []int{3, 5, 2, 4, 8, 8} }

func ladder(start, reserve int, l ...api.Rise) api.Lot {
	return api.Lot{Start: start, Reserve: reserve, Ladder: l}
}

func rise(from, by int) api.Rise { return api.Rise{From: from, By: by} }

func bid(bidder, way, most int) api.Bid { return api.Bid{Bidder: bidder, Way: way, Most: most} }

func award(to, prices []int) api.Award { return api.Award{To: to, Prices: prices} }

// nobody is the result of a lot that is not sold.
func nobody() api.Knock { return api.Knock{Winner: -1} }

// random returns the same numbers in each run.
func random(seed uint64) *rand.Rand { return rand.New(rand.NewPCG(seed, 6)) }

// extremes are numbers that no function allows.
func extremes() []int { return []int{math.MinInt, math.MinInt / 2, math.MaxInt / 2, math.MaxInt} }

// beyond are numbers just outside of a range, and far outside.
func beyond(least, most int) []int { return append(extremes(), least-1, most+1) }

// errs checks that an error is the one that is wanted.
func errs(t *testing.T, name string, got, want api.Errno) {
	t.Helper()
	if got != want {
		t.Errorf("%s: error %d, want %d", name, got, want)
	}
}

// sold, led, priced, awarded and isFair are what Sell, Room, Prices, Close and Fair return without an error.
func sold(t *testing.T, l api.Lot, bids []api.Bid) api.Knock {
	t.Helper()
	k, e := auction.Sell(l, bids)
	if e != api.OK {
		t.Fatalf("Sell(%v, %v): error %d", l, bids, e)
	}
	return k
}

func led(t *testing.T, l api.Lot, bids []api.Bid) []api.Lead {
	t.Helper()
	leads, e := auction.Room(l, bids)
	if e != api.OK || len(leads) != len(bids) {
		t.Fatalf("Room(%v, %v): %v, error %d", l, bids, leads, e)
	}
	return leads
}

func priced(t *testing.T, c api.Closing) []int {
	t.Helper()
	l, e := auction.Prices(c)
	if e != api.OK || len(l) != len(c.Reserves) {
		t.Fatalf("Prices(%v): %v, error %d", c, l, e)
	}
	return l
}

func awarded(t *testing.T, c api.Closing) api.Award {
	t.Helper()
	a, e := auction.Close(c)
	if e != api.OK || len(a.To) != len(c.Values) || len(a.Prices) != len(c.Reserves) {
		t.Fatalf("Close(%v): %v, error %d", c, a, e)
	}
	return a
}

func isFair(t *testing.T, c api.Closing, a api.Award) bool {
	t.Helper()
	is, e := auction.Fair(c, a)
	if e != api.OK {
		t.Fatalf("Fair(%v, %v): error %d", c, a, e)
	}
	return is
}

// someLot is a random lot, most likely with few rungs, so that many bids have the same one.
func someLot(r *rand.Rand) api.Lot {
	top := []int{30, 300, api.MaxBid}[r.IntN(3)]
	by := func() int { return 1 + top/40 + r.IntN(max(2, top/8)) }
	l := ladder(1+r.IntN(top/3), r.IntN(2)*r.IntN(top), rise(0, by()))
	if r.IntN(20) == 0 {
		l.Reserve = api.MaxBid - r.IntN(3)
	}
	last := func() int { return l.Ladder[len(l.Ladder)-1].From }
	for len(l.Ladder) < api.MaxLadder-1 && last() < api.MaxBid && r.IntN(3) > 0 {
		l.Ladder = append(l.Ladder, rise(min(last()+1+r.IntN(max(2, top/6)), api.MaxBid), by()))
	}
	if last() < 2*top && 2*top <= api.MaxBid && r.IntN(10) > 0 {
		l.Ladder = append(l.Ladder, rise(2*top, api.MaxBid/10))
	}
	return l
}

// someBids are random bids for a lot of few bidders, often up to the same rungs, or to none.
func someBids(r *rand.Rand, l api.Lot, most int) []api.Bid {
	var bids []api.Bid
	all := slowRungs(l)
	bidders := 1 + r.IntN(6)
	for range r.IntN(most + 1) {
		n := all[r.IntN(min(len(all), 8))] + r.IntN(5) - 2
		bids = append(bids, bid(r.IntN(bidders), r.IntN(4), min(max(1, n), api.MaxBid)))
	}
	return bids
}

// someClosing is a random closing of so many lots and bidders at most, with numbers up to most, many of which are equal.
func someClosing(r *rand.Rand, lots, bidders, most int) api.Closing {
	list := func(n, most int) []int {
		l := make([]int, n)
		for i := range l {
			l[i] = r.IntN(most + 1)
		}
		return l
	}
	c := api.Closing{Reserves: list(1+r.IntN(lots), r.IntN(most+1))}
	for range 1 + r.IntN(bidders) {
		c.Values = append(c.Values, list(len(c.Reserves), most))
	}
	return c
}

// somePast is a random past of few bidders, most of whom seldom bid.
func somePast(r *rand.Rand) []int {
	l := make([]int, r.IntN(2)*r.IntN(api.MaxNights+1)+r.IntN(12))
	chance := 2 + r.IntN(10)
	for i := range l {
		for k := range 8 {
			if r.IntN(chance) == 0 {
				l[i] |= 1 << k
			}
		}
	}
	return l[:min(len(l), api.MaxNights)]
}

// shuffled is a list in another order.
func shuffled[T any](r *rand.Rand, l []T) []T {
	l = slices.Clone(l)
	r.Shuffle(len(l), func(i, j int) { l[i], l[j] = l[j], l[i] })
	return l
}
