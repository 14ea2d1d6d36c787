package purse

import (
	"lombard/api"
	"lombard/pledge"
)

func valueOf(x api.Part) int { return x.Value }

// areParts reports whether a lot can have these parts, apart from their dues.
func areParts(l []api.Part) bool {
	if !within(len(l), 1, api.MaxLotParts) {
		return false
	}
	named := map[string]bool{}
	for _, x := range l {
		if !pledge.IsWord(x.Pledge) || named[x.Pledge] {
			return false
		}
		named[x.Pledge] = true
	}
	return areWeights(each(l, valueOf))
}

func hasDues(x api.Part) bool { return areDues(x.Dues) }

// portion returns what a part brought that has this share of the price.
func portion(x api.Part, price int) api.Portion {
	paid, left := spread(x.Dues, price)
	return api.Portion{Price: price, Paid: paid, Left: left}
}

// Portions returns the portions of a lot.
func Portions(price int, parts []api.Part) ([]api.Portion, api.Errno) {
	switch {
	case !isAmount(price):
		return nil, api.ErrRange
	case !areParts(parts):
		return nil, api.ErrParts
	case !all(parts, hasDues):
		return nil, api.ErrDues
	}
	var portions []api.Portion
	for i, brought := range share(each(parts, valueOf), price) {
		portions = append(portions, portion(parts[i], brought))
	}
	return portions, api.OK
}
