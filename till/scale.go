package till

import "lombard/api"

const (
	light  = -1
	heavy  = 1
	noCoin = -1
)

// row is a number for each weighing, and 0 for weighings that are not there: their results, or on which sides a coin lies, which are the results if it is too heavy.
type row [api.MaxWeigh]int

func (r row) plus(x row) row {
	for i, n := range x {
		r[i] += n
	}
	return r
}

func (r row) times(side int) row {
	for i := range r {
		r[i] *= side
	}
	return r
}

// verdict is which coin is false, and whether it is too heavy or too light.
type verdict struct{ coin, side int }

// sides returns on which sides a coin lies.
func sides(plan [][]int, coin int) row {
	var r row
	for i, weighing := range plan {
		r[i] = weighing[coin]
	}
	return r
}

// cases returns which case has which results. Of several cases with the same ones it has one alone.
func cases(n int, plan [][]int) map[row]verdict {
	found := map[row]verdict{{}: {coin: noCoin}}
	for coin := range n {
		for _, side := range [...]int{heavy, light} {
			found[sides(plan, coin).times(side)] = verdict{coin, side}
		}
	}
	return found
}

func isWeighed(n int) bool { return within(n, api.MinCoins, api.MaxWeighed) }

func isSide(n int) bool { return within(n, -1, 1) }

func areWeighings(n int, plan [][]int) bool {
	isWeighing := func(l []int) bool { return len(l) == n && all(l, isSide) && total(l, itself) == 0 }
	return within(len(plan), 1, api.MaxWeigh) && all(plan, isWeighing)
}

// Tells reports whether weighings find a false coin.
func Tells(n int, plan [][]int) (bool, api.Errno) {
	if !isWeighed(n) {
		return false, api.ErrRange
	}
	if !areWeighings(n, plan) {
		return false, api.ErrScale
	}
	return len(cases(n, plan)) == 2*n+1, api.OK
}

// Judge returns which coin is false.
func Judge(n int, plan [][]int, results []int) (coin, side int, e api.Errno) {
	is, e := Tells(n, plan)
	if e != api.OK {
		return 0, 0, e
	}
	if !is {
		return 0, 0, api.ErrScale
	}
	if len(results) != len(plan) || !all(results, isSide) {
		return 0, 0, api.ErrRange
	}
	var shown row
	copy(shown[:], results)
	v, ok := cases(n, plan)[shown]
	if !ok {
		return 0, 0, api.ErrNone
	}
	return v.coin, v.side, api.OK
}

// ternary returns the digits of a number in balanced ternary. Each row but zero is that of exactly one number from 1 on, or such a row times -1.
func ternary(number int) row {
	var r row
	for i := range r {
		r[i] = (number+1)%3 - 1
		number = (number + 1) / 3
	}
	return r
}

// lay returns on which sides each of n coins lies in so many weighings that tell, or nothing if no such ones tell.
func lay(n, many int) []row {
	last := 0
	for range many {
		last = 3*last + 1
	}
	var coins []row
	// Weighings tell if no coin has the row zero, that of another coin, or that one times -1: so the numbers of the coins increase, and each row is tried as it is and times -1.
	var add func(first int, laid row) bool
	add = func(first int, laid row) bool {
		if len(coins) == n {
			return laid == row{}
		}
		for number := first; number <= last; number++ {
			for _, side := range [...]int{heavy, light} {
				coin := ternary(number).times(side)
				coins = append(coins, coin)
				if add(number+1, laid.plus(coin)) {
					return true
				}
				coins = coins[:len(coins)-1]
			}
		}
		return false
	}
	add(1, row{})
	return coins
}

// Weigh returns as few weighings as possible that find a false coin.
func Weigh(n int) ([][]int, api.Errno) {
	if !isWeighed(n) {
		return nil, api.ErrRange
	}
	many := 1
	coins := lay(n, many)
	// This ends: three weighings are enough for all coins that are weighed.
	for len(coins) == 0 {
		many++
		coins = lay(n, many)
	}
	var plan [][]int
	for i := range many {
		plan = append(plan, each(coins, func(r row) int { return r[i] }))
	}
	return plan, api.OK
}
