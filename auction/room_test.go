package auction_test

import (
	"slices"
	"testing"

	"lombard/api"
	"lombard/auction"
)

// lead is who leads, up to how much, in which way, with which second rung and price.
func lead(bidder, limit, way, second, price int) api.Lead {
	return api.Lead{Bidder: bidder, Limit: limit, Way: way, Second: second, Price: price}
}

// P6.3: the examples, and each case of a bid
func TestRoom(t *testing.T) {
	for _, x := range []struct {
		name string
		b    []api.Bid
		want []api.Lead
	}{
		{"the example", bids(), []api.Lead{lead(3, 45, 2, 0, 10), lead(1, 50, 0, 45, 50), lead(1, 50, 0, 45, 50)}},
		{"nothing", nil, nil},
		{"no rung, at first and later", []api.Bid{bid(0, 0, 9), bid(4, 3, 1), bid(4, 3, 12), bid(4, 0, 9), bid(5, 0, 9)}, []api.Lead{lead(-1, 0, 0, 0, 0), lead(-1, 0, 0, 0, 0), lead(4, 10, 3, 0, 10), lead(4, 10, 3, 0, 10), lead(4, 10, 3, 0, 10)}},
		{"who leads goes up, with another way", []api.Bid{bid(4, 1, 20), bid(4, 3, 30)}, []api.Lead{lead(4, 20, 1, 0, 10), lead(4, 30, 3, 0, 10)}},
		{"who leads says the same, with other ways", []api.Bid{bid(4, 2, 20), bid(4, 3, 24), bid(4, 1, 21)}, []api.Lead{lead(4, 20, 2, 0, 10), lead(4, 20, 2, 0, 10), lead(4, 20, 1, 0, 10)}},
		{"who leads says less", []api.Bid{bid(4, 2, 30), bid(4, 0, 20)}, []api.Lead{lead(4, 30, 2, 0, 10), lead(4, 30, 2, 0, 10)}},
		{"a greater rung", []api.Bid{bid(4, 0, 30), bid(5, 3, 40)}, []api.Lead{lead(4, 30, 0, 0, 10), lead(5, 40, 3, 30, 35)}},
		{"the same rung in a better way", []api.Bid{bid(4, 2, 30), bid(5, 1, 30)}, []api.Lead{lead(4, 30, 2, 0, 10), lead(5, 30, 1, 30, 30)}},
		{"the same rung in the same way", []api.Bid{bid(4, 2, 30), bid(5, 2, 30), bid(3, 2, 30)}, []api.Lead{lead(4, 30, 2, 0, 10), lead(4, 30, 2, 30, 30), lead(3, 30, 2, 30, 30)}},
		{"the same rung in a worse way", []api.Bid{bid(4, 2, 30), bid(3, 3, 34)}, []api.Lead{lead(4, 30, 2, 0, 10), lead(4, 30, 2, 30, 30)}},
		{"lesser rungs", []api.Bid{bid(4, 2, 50), bid(3, 0, 20), bid(5, 0, 15), bid(3, 0, 30)}, []api.Lead{lead(4, 50, 2, 0, 10), lead(4, 50, 2, 20, 25), lead(4, 50, 2, 20, 25), lead(4, 50, 2, 30, 35)}},
		{"two who outbid each other", []api.Bid{bid(4, 2, 20), bid(3, 0, 30), bid(4, 0, 25), bid(4, 3, 40), bid(3, 0, 30)}, []api.Lead{lead(4, 20, 2, 0, 10), lead(3, 30, 0, 20, 25), lead(3, 30, 0, 25, 30), lead(4, 40, 3, 30, 35), lead(4, 40, 3, 30, 35)}},
		{"who leads goes up from an equal offer", []api.Bid{bid(1, 0, 45), bid(2, 0, 45), bid(1, 2, 70)}, []api.Lead{lead(1, 45, 0, 0, 10), lead(1, 45, 0, 45, 45), lead(1, 70, 2, 45, 50)}},
		{"the reserve does not count", []api.Bid{bid(4, 2, 12), bid(3, 0, 15)}, []api.Lead{lead(4, 10, 2, 0, 10), lead(3, 15, 0, 10, 15)}},
		{"the last rungs", []api.Bid{bid(4, 2, 99980), bid(3, 0, 100000)}, []api.Lead{lead(4, 99970, 2, 0, 10), lead(3, 99990, 0, 99970, 99990)}},
	} {
		leads, e := auction.Room(lot(), x.b)
		if !slices.Equal(leads, x.want) || e != api.OK {
			t.Errorf("%s: %v, error %d, want %v", x.name, leads, e, x.want)
		}
	}
}

// P6.3: the room, with random lots and bids
func TestRoomRandom(t *testing.T) {
	r := random(3)
	for range 4000 {
		l := someLot(r)
		b := someBids(r, l, []int{4, 12, api.MaxBids}[r.IntN(3)])
		if leads, want := led(t, l, b), slowRoom(l, b); !slices.Equal(leads, want) {
			t.Fatalf("Room(%v, %v): %v, want %v", l, b, leads, want)
		}
	}
}
