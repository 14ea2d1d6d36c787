package auction

import (
	"slices"

	"lombard/api"
)

// none is the lot of a bidder who gets none.
const none = -1

// CheckClosing checks a closing.
func CheckClosing(c api.Closing) api.Errno {
	isWrong := func(values []int) bool { return len(values) != len(c.Reserves) || !areAmounts(values) }
	if !within(len(c.Reserves), 1, api.MaxLots) || !areAmounts(c.Reserves) ||
		!within(len(c.Values), 1, api.MaxBidders) || slices.ContainsFunc(c.Values, isWrong) {
		return api.ErrClosing
	}
	return api.OK
}

// isTo reports whether a list says which lot each bidder of a closing gets.
func isTo(c api.Closing, to []int) bool {
	if len(to) != len(c.Values) {
		return false
	}
	for bidder, lot := range to {
		if !within(lot, none, len(c.Reserves)-1) || lot != none && slices.Contains(to[:bidder], lot) {
			return false
		}
	}
	return true
}

func sum(l []int) int {
	n := 0
	for _, x := range l {
		n += x
	}
	return n
}

// extra returns how much more a lot is worth with a bidder than unsold.
func extra(c api.Closing, bidder, lot int) int {
	if lot == none {
		return 0
	}
	return c.Values[bidder][lot] - c.Reserves[lot]
}

// Worth returns the worth of who gets which lot.
func Worth(c api.Closing, to []int) (int, api.Errno) {
	if e := CheckClosing(c); e != api.OK {
		return 0, e
	}
	if !isTo(c, to) {
		return 0, api.ErrAward
	}
	worth := sum(c.Reserves)
	for bidder, lot := range to {
		worth += extra(c, bidder, lot)
	}
	return worth, api.OK
}

// best returns the first list of lots that is worth most, and its worth.
func best(c api.Closing) (to []int, most int) {
	most = -1
	now := make([]int, len(c.Values))
	var give func(bidder, worth int)
	give = func(bidder, worth int) {
		if bidder == len(now) {
			if worth > most {
				to, most = slices.Clone(now), worth
			}
			return
		}
		for lot := none; lot < len(c.Reserves); lot++ {
			if lot == none || !slices.Contains(now[:bidder], lot) {
				now[bidder] = lot
				give(bidder+1, worth+extra(c, bidder, lot))
			}
		}
	}
	give(0, sum(c.Reserves))
	return to, most
}

// doubled returns a closing with a lot once more.
func doubled(c api.Closing, lot int) api.Closing {
	again := func(l []int) []int { return append(slices.Clone(l), l[lot]) }
	return api.Closing{Reserves: again(c.Reserves), Values: each(c.Values, again)}
}

// Prices returns the least prices of all lots.
func Prices(c api.Closing) ([]int, api.Errno) {
	a, e := Close(c)
	return a.Prices, e
}

// Close returns a fair award with the least prices.
func Close(c api.Closing) (api.Award, api.Errno) {
	if e := CheckClosing(c); e != api.OK {
		return api.Award{}, e
	}
	to, most := best(c)
	a := api.Award{To: to}
	for lot := range c.Reserves {
		_, more := best(doubled(c, lot))
		a.Prices = append(a.Prices, more-most)
	}
	return a, api.OK
}
