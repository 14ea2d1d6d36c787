package auction

import (
	"cmp"
	"maps"
	"slices"

	"lombard/api"
)

// offer is a bid, and the rung of its Most.
type offer struct {
	api.Bid
	rung int
}

func (x offer) beats(y offer) bool {
	return cmp.Or(cmp.Compare(x.rung, y.rung), cmp.Compare(y.Way, x.Way), cmp.Compare(y.Bidder, x.Bidder)) > 0
}

func areBids(l []api.Bid) bool {
	isWrong := func(b api.Bid) bool {
		return !within(b.Bidder, 0, api.MaxPaddle) || !within(b.Way, api.BidRoom, api.BidSealed) || !isBid(b.Most)
	}
	return len(l) <= api.MaxBids && !slices.ContainsFunc(l, isWrong)
}

// open checks a lot and bids for it, and returns its rungs.
func open(l api.Lot, bids []api.Bid) (scale, api.Errno) {
	if e := Check(l); e != api.OK {
		return nil, e
	}
	if !areBids(bids) {
		return nil, api.ErrBids
	}
	return scaleOf(l), api.OK
}

func (s scale) offer(b api.Bid) offer { return offer{b, s.of(b.Most)} }

// offers returns the offer of each bidder who has one.
func (s scale) offers(bids []api.Bid) map[int]offer {
	offers := map[int]offer{}
	for _, b := range bids {
		x := s.offer(b)
		if old, ok := offers[x.Bidder]; x.rung > 0 && (!ok || x.beats(old)) {
			offers[x.Bidder] = x
		}
	}
	return offers
}

// second returns the greatest rung of all offers but the first one; 0, if there is no other one.
func second(offers map[int]offer, first offer) int {
	others := func(yield func(int) bool) {
		for _, x := range offers {
			if x != first && !yield(x.rung) {
				return
			}
		}
	}
	rung, _ := greatest(others, isMore)
	return rung
}

// Sell returns who gets a lot, and for how much.
func Sell(l api.Lot, bids []api.Bid) (api.Knock, api.Errno) {
	s, e := open(l, bids)
	if e != api.OK {
		return api.Knock{}, e
	}
	offers := s.offers(bids)
	first, ok := greatest(maps.Values(offers), offer.beats)
	reserve := s.from(l.Reserve)
	if !ok || reserve == 0 || first.rung < reserve {
		return api.Knock{Winner: api.NoBidder}, api.OK
	}
	price := s.price(first.rung, second(offers, first))
	return api.Knock{Winner: first.Bidder, Price: max(price, reserve)}, api.OK
}
