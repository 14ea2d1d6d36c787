package auction_test

import (
	"math/bits"
	"slices"

	"lombard/api"
)

// The functions here are written anew from the definitions of the document, each as it is said there.

// slowRungs are all rungs of a lot.
func slowRungs(l api.Lot) []int {
	var all []int
	for p := l.Start; p <= 100000; {
		all = append(all, p)
		by := 0
		for _, x := range l.Ladder {
			if x.From <= p {
				by = x.By
			}
		}
		p += by
	}
	return all
}

// slowRung is the one of all rungs that is the rung of a number, or -1.
func slowRung(all []int, n int) int {
	rung := -1
	for _, p := range all {
		if p > n {
			break
		}
		rung = p
	}
	return rung
}

// slowBehind is the one of all rungs that is behind another one, or -1.
func slowBehind(all []int, rung int) int {
	i := slices.Index(all, rung)
	if i < 0 || i+1 == len(all) {
		return -1
	}
	return all[i+1]
}

// slowReserve is the rung of the reserve, or -1.
func slowReserve(l api.Lot) int {
	for _, p := range slowRungs(l) {
		if p >= l.Reserve {
			return p
		}
	}
	return -1
}

// slowOffer is the rung and the way of a bidder's offer; the rung is -1 if there is none.
func slowOffer(all []int, bids []api.Bid, bidder int) (rung, way int) {
	most := 0
	for _, b := range bids {
		if b.Bidder == bidder {
			most = max(most, b.Most)
		}
	}
	rung, way = slowRung(all, most), 4
	for _, b := range bids {
		if b.Bidder == bidder && slowRung(all, b.Most) == rung {
			way = min(way, b.Way)
		}
	}
	return rung, way
}

// slowBeats compares two offers by their rungs, ways and bidders.
func slowBeats(rung, way, bidder, rung2, way2, bidder2 int) bool {
	if rung != rung2 {
		return rung > rung2
	}
	if way != way2 {
		return way < way2
	}
	return bidder < bidder2
}

func slowSell(l api.Lot, bids []api.Bid) api.Knock {
	all := slowRungs(l)
	winner, top, topWay := -1, -1, 0
	for bidder := range 100 {
		rung, way := slowOffer(all, bids, bidder)
		if rung >= 0 && (winner < 0 || slowBeats(rung, way, bidder, top, topWay, winner)) {
			winner, top, topWay = bidder, rung, way
		}
	}
	reserve := slowReserve(l)
	if winner < 0 || reserve < 0 || top < reserve {
		return nobody()
	}
	s := -1
	for bidder := range 100 {
		if rung, _ := slowOffer(all, bids, bidder); bidder != winner {
			s = max(s, rung)
		}
	}
	price := l.Start
	if s == top {
		price = top
	} else if s >= 0 {
		price = slowBehind(all, s)
	}
	return api.Knock{Winner: winner, Price: max(price, reserve)}
}

// slowLead is the lead after another one and a bid; all are the rungs of the lot.
func slowLead(all []int, x api.Lead, b api.Bid) api.Lead {
	r := slowRung(all, b.Most)
	if r < 0 {
		return x
	}
	if x.Bidder == -1 {
		x.Bidder, x.Limit, x.Way = b.Bidder, r, b.Way
	} else if x.Bidder == b.Bidder {
		if r > x.Limit {
			x.Limit, x.Way = r, b.Way
		} else if r == x.Limit {
			x.Way = min(x.Way, b.Way)
		}
	} else if slowBeats(r, b.Way, b.Bidder, x.Limit, x.Way, x.Bidder) {
		x.Second = x.Limit
		x.Bidder, x.Limit, x.Way = b.Bidder, r, b.Way
	} else if r > x.Second {
		x.Second = r
	}
	switch {
	case x.Second == x.Limit:
		x.Price = x.Limit
	case x.Second == 0:
		x.Price = all[0]
	default:
		x.Price = slowBehind(all, x.Second)
	}
	return x
}

func slowRoom(l api.Lot, bids []api.Bid) []api.Lead {
	var leads []api.Lead
	all := slowRungs(l)
	lead := api.Lead{Bidder: -1}
	for _, b := range bids {
		lead = slowLead(all, lead, b)
		leads = append(leads, lead)
	}
	return leads
}

// slowLists calls visit with each list of numbers from least to most.
func slowLists(n, least, most int, visit func(l []int)) {
	l := slices.Repeat([]int{least}, n)
	for {
		visit(l)
		i := 0
		for i < n && l[i] == most {
			l[i] = least
			i++
		}
		if i == n {
			return
		}
		l[i]++
	}
}

// slowIsTo reports whether a list says which lot each bidder gets.
func slowIsTo(c api.Closing, to []int) bool {
	got := map[int]int{}
	for _, lot := range to {
		got[lot]++
		if lot < -1 || lot >= len(c.Reserves) || lot >= 0 && got[lot] > 1 {
			return false
		}
	}
	return len(to) == len(c.Values)
}

func slowWorth(c api.Closing, to []int) int {
	worth := 0
	for lot, reserve := range c.Reserves {
		if bidder := slices.Index(to, lot); bidder >= 0 {
			worth += c.Values[bidder][lot]
		} else {
			worth += reserve
		}
	}
	return worth
}

func slowGreatest(c api.Closing) int {
	most := 0
	slowLists(len(c.Values), -1, len(c.Reserves)-1, func(to []int) {
		if slowIsTo(c, to) {
			most = max(most, slowWorth(c, to))
		}
	})
	return most
}

func slowPrices(c api.Closing) []int {
	var prices []int
	for lot := range c.Reserves {
		more := api.Closing{Reserves: append(slices.Clone(c.Reserves), c.Reserves[lot])}
		for _, values := range c.Values {
			more.Values = append(more.Values, append(slices.Clone(values), values[lot]))
		}
		prices = append(prices, slowGreatest(more)-slowGreatest(c))
	}
	return prices
}

func slowFair(c api.Closing, a api.Award) bool {
	fair := true
	for lot, price := range a.Prices {
		fair = fair && price >= c.Reserves[lot]
		if !slices.Contains(a.To, lot) {
			fair = fair && price == c.Reserves[lot]
		}
	}
	for bidder, lot := range a.To {
		gain := 0
		if lot >= 0 {
			gain = c.Values[bidder][lot] - a.Prices[lot]
		}
		fair = fair && gain >= 0
		for other, price := range a.Prices {
			fair = fair && gain >= c.Values[bidder][other]-price
		}
	}
	return fair
}

func slowIsRing(past []int, few, x int) bool {
	for a := range 8 {
		if x>>a&1 == 0 {
			continue
		}
		lots := 0
		for _, night := range past {
			lots += night >> a & 1
			for b := range a {
				if x>>b&1 == 1 && night>>a&1 == 1 && night>>b&1 == 1 {
					return false
				}
			}
		}
		if lots < few {
			return false
		}
	}
	return bits.OnesCount(uint(x)) >= 2
}

// slowRings are all rings that are in no larger one, as they are listed.
func slowRings(past []int, few int) []int {
	var rings []int
	for many := 8; many >= 2; many-- {
		for x := range 256 {
			if bits.OnesCount(uint(x)) != many || !slowIsRing(past, few, x) {
				continue
			}
			larger := false
			for y := range 256 {
				larger = larger || y != x && y&x == x && slowIsRing(past, few, y)
			}
			if !larger {
				rings = append(rings, x)
			}
		}
	}
	return rings
}
