package auction_test

import (
	"math/rand/v2"
	"slices"
	"testing"

	"lombard/api"
	"lombard/auction"
)

// lastLead is the lead at the end.
func lastLead(t *testing.T, l api.Lot, bids []api.Bid) api.Lead {
	t.Helper()
	leads := led(t, l, bids)
	if len(leads) == 0 {
		return api.Lead{Bidder: api.NoBidder}
	}
	return leads[len(leads)-1]
}

// P6.7: in whatever order bids come, the lead at the end is the same, and so is who gets the lot
func TestOrderOfBids(t *testing.T) {
	r := random(9)
	for range 1500 {
		l := someLot(r)
		b := someBids(r, l, []int{3, 8, api.MaxBids}[r.IntN(3)])
		lead, knock := lastLead(t, l, b), sold(t, l, b)
		for range 8 {
			other := shuffled(r, b)
			if x := lastLead(t, l, other); x != lead {
				t.Fatalf("Room(%v): %v leads after %v, %v after %v", l, lead, b, x, other)
			}
			if k := sold(t, l, other); k != knock {
				t.Fatalf("Sell(%v): %v after %v, %v after %v", l, knock, b, k, other)
			}
		}
	}
}

// P6.7: all orders of bids that are equal in much
func TestAllOrders(t *testing.T) {
	b := []api.Bid{bid(1, 2, 45), bid(2, 1, 45), bid(1, 0, 47), bid(3, 0, 49), bid(1, 3, 50), bid(9, 0, 9)}
	want := lead(1, 50, 3, 45, 50)
	orders := 0
	slowLists(len(b), 0, len(b)-1, func(at []int) {
		var other []api.Bid
		for i, j := range at {
			if slices.Contains(at[:i], j) {
				return
			}
			other = append(other, b[j])
		}
		orders++
		if x := lastLead(t, lot(), other); x != want {
			t.Fatalf("Room: %v leads after %v, want %v", x, other, want)
		}
	})
	if orders != 720 {
		t.Errorf("%d orders", orders)
	}
}

// P6.7: who leads at the end gets the lot by the rule, at the price of the lead, or at the rung of the reserve
func TestRoomSells(t *testing.T) {
	r := random(10)
	counts := map[bool]int{}
	for range 4000 {
		l := someLot(r)
		b := someBids(r, l, []int{3, 8, api.MaxBids}[r.IntN(3)])
		lead, reserve := lastLead(t, l, b), slowReserve(l)
		want := nobody()
		if lead.Bidder != api.NoBidder && reserve >= 0 && lead.Limit >= reserve {
			want = api.Knock{Winner: lead.Bidder, Price: max(lead.Price, reserve)}
		}
		if k := sold(t, l, b); k != want {
			t.Fatalf("Sell(%v, %v): %v, but %v leads", l, b, k, lead)
		}
		counts[want == nobody()]++
	}
	if counts[true] < 500 || counts[false] < 500 {
		t.Errorf("only %v", counts)
	}
}

// P6.8: the winner pays their rung at most; with a bid more the lot is sold for no less
func TestBidMore(t *testing.T) {
	r := random(11)
	more := 0
	for range 4000 {
		l := someLot(r)
		b := someBids(r, l, []int{3, 8, api.MaxBids - 1}[r.IntN(3)])
		k := sold(t, l, b)
		if k == nobody() {
			continue
		}
		rung, _ := slowOffer(slowRungs(l), b, k.Winner)
		if k.Price > rung || k.Price < l.Start {
			t.Fatalf("Sell(%v, %v): %v, up to %d", l, b, k, rung)
		}
		for _, x := range append(someBids(r, l, 5), bid(k.Winner, 0, api.MaxBid), bid(99, 3, rung)) {
			k2 := sold(t, l, append(slices.Clone(b), x))
			if k2 == nobody() || k2.Price < k.Price {
				t.Fatalf("Sell(%v, %v): %v, with %v also %v", l, b, k, x, k2)
			}
			if k2.Price > k.Price {
				more++
			}
		}
	}
	if more < 500 {
		t.Errorf("only %d prices became greater", more)
	}
}

// P6.8: with a greater reserve a lot is sold for no less to the same one, or not at all
func TestReserveMore(t *testing.T) {
	r := random(12)
	counts := map[string]int{}
	for range 4000 {
		l := someLot(r)
		b := someBids(r, l, 8)
		k := sold(t, l, b)
		dear := l
		dear.Reserve = min(l.Reserve+r.IntN(2*l.Start+10), api.MaxBid)
		k2 := sold(t, dear, b)
		switch {
		case k2 == nobody():
			counts["not sold"]++
		case k2.Winner != k.Winner || k2.Price < k.Price || k2.Price < dear.Reserve:
			t.Fatalf("Sell(%v, %v): %v, with the Reserve %d %v", l, b, k, dear.Reserve, k2)
		case k2.Price > k.Price:
			counts["dearer"]++
		}
	}
	if counts["not sold"] < 500 || counts["dearer"] < 300 {
		t.Errorf("only %v", counts)
	}
}

// P6.9: the award of Close is fair, and no list has a greater worth
func TestCloseIsWorthMost(t *testing.T) {
	r := random(13)
	for range 300 {
		c := someClosing(r, 4, 4, []int{2, 6, api.MaxBid}[r.IntN(3)])
		a := awarded(t, c)
		most, e := auction.Worth(c, a.To)
		if e != api.OK || !isFair(t, c, a) {
			t.Fatalf("Close(%v): %v, error %d", c, a, e)
		}
		slowLists(len(c.Values), -1, len(c.Reserves)-1, func(to []int) {
			if n, e := auction.Worth(c, to); e == api.OK && n > most {
				t.Fatalf("Close(%v): %v, but %v is worth %d", c, a, to, n)
			}
		})
	}
}

// P6.9: no award is fair with a lesser price of any lot
func TestCloseIsLeast(t *testing.T) {
	r := random(14)
	fair := 0
	check := func(c api.Closing, least []int, a api.Award) {
		if !isFair(t, c, a) {
			return
		}
		fair++
		for lot, price := range a.Prices {
			if price < least[lot] {
				t.Fatalf("Prices(%v): %v, but %v is fair", c, least, a)
			}
		}
	}
	for range 150 {
		most := 1 + r.IntN(4)
		c := someClosing(r, 3, 3, most)
		least := priced(t, c)
		slowLists(len(c.Values), -1, len(c.Reserves)-1, func(to []int) {
			if !slowIsTo(c, to) {
				return
			}
			slowLists(len(c.Reserves), 0, most, func(prices []int) { check(c, least, award(to, prices)) })
		})
	}
	for range 100 {
		c := someClosing(r, 4, 4, api.MaxBid)
		least := priced(t, c)
		slowLists(len(c.Values), -1, len(c.Reserves)-1, func(to []int) {
			prices := slices.Clone(least)
			prices[r.IntN(len(prices))] += r.IntN(3) - 1
			if slowIsTo(c, to) && slices.Min(prices) >= 0 {
				check(c, least, award(to, prices))
			}
		})
	}
	if fair < 300 {
		t.Errorf("only %d awards were fair", fair)
	}
}

// gain is the value of the lot that a bidder gets less its price; 0 without a lot.
func gain(a api.Award, bidder int, values []int) int {
	if lot := a.To[bidder]; lot >= 0 {
		return values[lot] - a.Prices[lot]
	}
	return 0
}

// P6.10: nobody gains by values that are not true
func TestTruthfulValues(t *testing.T) {
	r := random(15)
	counts := map[string]int{}
	check := func(c api.Closing, bidder int, said []int) {
		t.Helper()
		lie := api.Closing{Reserves: c.Reserves, Values: slices.Clone(c.Values)}
		lie.Values[bidder] = said
		truth := gain(awarded(t, c), bidder, c.Values[bidder])
		lied := gain(awarded(t, lie), bidder, c.Values[bidder])
		if lied > truth {
			t.Fatalf("Close(%v): the bidder %d gains %d, and %d with %v", c, bidder, truth, lied, said)
		}
		if lied < truth {
			counts["loses"]++
		}
		if truth > 0 {
			counts["gains"]++
		}
	}
	for range 200 {
		most := 1 + r.IntN(3)
		c := someClosing(r, 3, 3, most)
		for bidder := range c.Values {
			slowLists(len(c.Reserves), 0, most+1, func(l []int) { check(c, bidder, slices.Clone(l)) })
		}
	}
	for range 300 {
		c := someClosing(r, 5, 6, []int{10, 1000, api.MaxBid}[r.IntN(3)])
		other := someClosing(r, 1, 1, 5)
		for bidder := range c.Values {
			check(c, bidder, liesOf(r, c.Values[bidder], other.Reserves[0]))
		}
	}
	if counts["loses"] < 500 || counts["gains"] < 2000 {
		t.Errorf("only %v", counts)
	}
}

// liesOf are values that are not true, some of them by not more than a number.
func liesOf(r *rand.Rand, values []int, by int) []int {
	var said []int
	for _, n := range values {
		switch r.IntN(4) {
		case 0:
			n = r.IntN(n + 1)
		case 1:
			n += r.IntN(2*by+1) - by
		case 2:
			n *= 2
		}
		said = append(said, max(0, min(n, api.MaxBid)))
	}
	return said
}

// P6.10: with a bidder more no price is less
func TestMoreBidders(t *testing.T) {
	r := random(16)
	dearer := 0
	for range 1500 {
		c := someClosing(r, 5, 5, []int{2, 10, api.MaxBid}[r.IntN(3)])
		more := api.Closing{Reserves: c.Reserves, Values: append(slices.Clone(c.Values), shuffled(r, c.Values[0]))}
		before, after := priced(t, c), priced(t, more)
		for lot := range before {
			if after[lot] < before[lot] {
				t.Fatalf("Prices(%v): %v, with one bidder less %v", more, after, before)
			}
			if after[lot] > before[lot] {
				dearer++
			}
		}
	}
	if dearer < 500 {
		t.Errorf("only %d prices became greater", dearer)
	}
}

// P6.11: no two of a ring bid against each other, and each ring is in one of those that are returned
func TestRingsAreRight(t *testing.T) {
	r := random(17)
	many := 0
	for range 500 {
		l := somePast(r)
		few := 1 + r.IntN(5)
		got := rings(t, l, few)
		for i, ring := range got {
			if !slowIsRing(l, few, ring) {
				t.Fatalf("Rings(%v, %d): %d is none", l, few, ring)
			}
			for _, other := range got[:i] {
				if ring&other == ring || ring&other == other {
					t.Fatalf("Rings(%v, %d): %d is in %d", l, few, ring, other)
				}
			}
		}
		for x := range 256 {
			if !slowIsRing(l, few, x) {
				continue
			}
			many++
			if !slices.ContainsFunc(got, func(ring int) bool { return ring&x == x }) {
				t.Fatalf("Rings(%v, %d): %v, and %d is in none", l, few, got, x)
			}
		}
	}
	if many < 1000 {
		t.Errorf("only %d rings", many)
	}
}

// P6.11: in whatever order the lots of the past are
func TestOrderOfPast(t *testing.T) {
	r := random(18)
	for range 500 {
		l := somePast(r)
		few := 1 + r.IntN(4)
		if a, b := rings(t, l, few), rings(t, shuffled(r, l), few); !slices.Equal(a, b) {
			t.Fatalf("Rings(%v, %d): %v, in another order %v", l, few, a, b)
		}
	}
}
