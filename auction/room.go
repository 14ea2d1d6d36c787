package auction

import "lombard/api"

// room is the lead for a lot while bids come.
type room struct {
	api.Lead
	scale
}

// leading returns what the lead offers. Where nobody leads, any offer beats it, since it has no rung.
func (r *room) leading() offer {
	return offer{api.Bid{Bidder: r.Bidder, Way: r.Way}, r.Limit}
}

// hear takes a bid, and returns the lead after it.
func (r *room) hear(b api.Bid) api.Lead {
	x, lead := r.offer(b), r.leading()
	switch {
	case x.rung == 0, x.Bidder == lead.Bidder && !x.beats(lead):
		return r.Lead
	case !x.beats(lead):
		r.Second = max(r.Second, x.rung)
	case x.Bidder != lead.Bidder:
		r.Second = r.Limit
		fallthrough
	default:
		r.Bidder, r.Limit, r.Way = x.Bidder, x.rung, x.Way
	}
	r.Price = r.price(r.Limit, r.Second)
	return r.Lead
}

// Room returns who leads after each bid.
func Room(l api.Lot, bids []api.Bid) ([]api.Lead, api.Errno) {
	s, e := open(l, bids)
	if e != api.OK {
		return nil, e
	}
	r := room{api.Lead{Bidder: api.NoBidder}, s}
	return each(bids, r.hear), api.OK
}
