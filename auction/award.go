package auction

import (
	"slices"

	"lombard/api"
)

func isAward(c api.Closing, a api.Award) bool {
	return isTo(c, a.To) && len(a.Prices) == len(c.Reserves) && areAmounts(a.Prices)
}

// arePriced reports whether no lot is cheaper than its reserve, nor dearer if nobody gets it.
func arePriced(c api.Closing, a api.Award) bool {
	for lot, reserve := range c.Reserves {
		price := a.Prices[lot]
		if price < reserve || price > reserve && !slices.Contains(a.To, lot) {
			return false
		}
	}
	return true
}

// isContent reports whether a bidder likes nothing better than what they get.
func isContent(c api.Closing, a api.Award, bidder int) bool {
	gain := func(lot int) int {
		if lot == none {
			return 0
		}
		return c.Values[bidder][lot] - a.Prices[lot]
	}
	most := gain(none)
	for lot := range c.Reserves {
		most = max(most, gain(lot))
	}
	return gain(a.To[bidder]) == most
}

// Fair reports whether an award is fair.
func Fair(c api.Closing, a api.Award) (bool, api.Errno) {
	if e := CheckClosing(c); e != api.OK {
		return false, e
	}
	if !isAward(c, a) {
		return false, api.ErrAward
	}
	for bidder := range c.Values {
		if !isContent(c, a, bidder) {
			return false, api.OK
		}
	}
	return arePriced(c, a), api.OK
}
