package auction_test

import (
	"slices"
	"testing"

	"lombard/api"
	"lombard/auction"
)

// P6.3: the examples, and who wins among equal offers
func TestSell(t *testing.T) {
	knock := func(winner, price int) api.Knock { return api.Knock{Winner: winner, Price: price} }
	free, dear, high := lot(), lot(), lot()
	free.Reserve, dear.Reserve, high.Reserve = 0, 99990, 99991
	for _, x := range []struct {
		l    api.Lot
		b    []api.Bid
		want api.Knock
	}{
		{lot(), bids(), knock(1, 50)},
		{lot(), []api.Bid{bids()[0], bids()[2]}, knock(3, 45)},
		{lot(), bids()[2:], knock(2, 30)},
		{lot(), []api.Bid{bid(0, 0, 29)}, nobody()},
		{lot(), []api.Bid{bid(0, 0, 30)}, knock(0, 30)},
		{lot(), nil, nobody()},
		{free, nil, nobody()},
		// a Most without a rung is no offer, nor a second one
		{free, []api.Bid{bid(0, 0, 9)}, nobody()},
		{free, []api.Bid{bid(0, 0, 9), bid(5, 3, 10)}, knock(5, 10)},
		{free, []api.Bid{bid(0, 0, 9), bid(5, 3, 60), bid(0, 2, 1)}, knock(5, 10)},
		{free, []api.Bid{bid(0, 0, 10), bid(5, 3, 60)}, knock(5, 15)},
		// the rung counts first, then the way, then the number
		{lot(), []api.Bid{bid(1, 0, 44), bid(2, 3, 45)}, knock(2, 45)},
		{lot(), []api.Bid{bid(1, 0, 45), bid(2, 3, 49)}, knock(1, 45)},
		{lot(), []api.Bid{bid(1, 2, 49), bid(2, 1, 45)}, knock(2, 45)},
		{lot(), []api.Bid{bid(99, 1, 49), bid(0, 2, 49), bid(98, 1, 45)}, knock(98, 45)},
		// the way is that of the greatest rung, also if another bid has a greater Most
		{lot(), []api.Bid{bid(5, 3, 46), bid(4, 1, 45), bid(5, 0, 44)}, knock(4, 45)},
		{lot(), []api.Bid{bid(5, 3, 49), bid(4, 1, 45), bid(5, 0, 45)}, knock(5, 45)},
		// nobody bids against themselves
		{lot(), []api.Bid{bid(5, 0, 70), bid(5, 1, 90), bid(5, 0, 50)}, knock(5, 30)},
		{lot(), []api.Bid{bid(5, 0, 70), bid(5, 1, 90), bid(6, 0, 31)}, knock(5, 35)},
		// the reserve counts from its rung on; it makes nobody's offer greater
		{ladder(10, 31, rise(0, 5)), []api.Bid{bid(5, 0, 34)}, nobody()},
		{ladder(10, 31, rise(0, 5)), []api.Bid{bid(5, 0, 35), bid(6, 0, 20)}, knock(5, 35)},
		{ladder(10, 31, rise(0, 5)), []api.Bid{bid(5, 0, 90), bid(6, 0, 35)}, knock(5, 40)},
		{ladder(10, 9, rise(0, 5)), []api.Bid{bid(5, 0, 90)}, knock(5, 10)},
		{dear, []api.Bid{bid(5, 0, 100000)}, knock(5, 99990)},
		{high, []api.Bid{bid(5, 0, 100000)}, nobody()},
		{high, []api.Bid{bid(5, 0, 100000), bid(6, 0, 100000)}, nobody()},
	} {
		if k, e := auction.Sell(x.l, x.b); k != x.want || e != api.OK {
			t.Errorf("Sell(%v, %v): %v, error %d, want %v", x.l, x.b, k, e, x.want)
		}
	}
}

// P6.3: the rule, with random lots and bids
func TestSellRandom(t *testing.T) {
	r := random(2)
	found := map[string]int{}
	for range 4000 {
		l := someLot(r)
		b := someBids(r, l, []int{4, 12, api.MaxBids}[r.IntN(3)])
		want := slowSell(l, b)
		if k := sold(t, l, b); k != want {
			t.Fatalf("Sell(%v, %v): %v, want %v", l, b, k, want)
		}
		switch {
		case want == nobody():
			found["not sold"]++
		case want.Price == slowReserve(l):
			found["at the reserve"]++
		default:
			found["above it"]++
		}
	}
	if found["not sold"] < 100 || found["at the reserve"] < 100 || found["above it"] < 100 {
		t.Errorf("too few of some: %v", found)
	}
}

// P6.3: what bids are
func TestWrongBids(t *testing.T) {
	wrong := func(name string, b []api.Bid) {
		t.Helper()
		if k, e := auction.Sell(lot(), b); k != (api.Knock{}) || e != api.ErrBids {
			t.Errorf("Sell with a wrong %s: %v, error %d", name, k, e)
		}
		if leads, e := auction.Room(lot(), b); len(leads) > 0 || e != api.ErrBids {
			t.Errorf("Room with a wrong %s: %v, error %d", name, leads, e)
		}
	}
	for _, x := range []struct {
		name        string
		least, most int
		change      func(b *api.Bid, n int)
	}{
		{"Bidder", 0, 99, func(b *api.Bid, n int) { b.Bidder = n }},
		{"Way", 0, 3, func(b *api.Bid, n int) { b.Way = n }},
		{"Most", 1, 100000, func(b *api.Bid, n int) { b.Most = n }},
	} {
		for i := range bids() {
			for _, n := range []int{x.least, (x.least + x.most) / 2, x.most} {
				b := bids()
				x.change(&b[i], n)
				sold(t, lot(), b)
				led(t, lot(), b)
			}
			for _, n := range beyond(x.least, x.most) {
				b := bids()
				x.change(&b[i], n)
				wrong(x.name, b)
			}
		}
	}
	many := slices.Repeat(bids()[:1], 33)
	sold(t, lot(), many[:32])
	led(t, lot(), many[:32])
	wrong("number of bids", many)
	wrong("bid", []api.Bid{{}})
}
