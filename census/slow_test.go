package census_test

import (
	"math/bits"
	"slices"

	"lombard/api"
)

// The functions here are written anew from the definitions of the document, each as it is said there.

// slowLists calls visit with each list of numbers from 0 to those that are given, the first ones first.
func slowLists(most []int, visit func(l []int)) {
	l := make([]int, len(most))
	for {
		visit(l)
		i := len(l) - 1
		for i >= 0 && l[i] == most[i] {
			l[i] = 0
			i--
		}
		if i < 0 {
			return
		}
		l[i]++
	}
}

// slowMiss tries all choices of a sample, where the last pledges of each room are missing.
func slowMiss(a api.Audit, sample, lost []int) (ways, all int) {
	var sets []int
	for _, n := range a.Stock {
		sets = append(sets, 1<<n-1)
	}
	slowLists(sets, func(chosen []int) {
		misses := true
		for room, set := range chosen {
			if bits.OnesCount(uint(set)) != sample[room] {
				return
			}
			misses = misses && set>>(a.Stock[room]-lost[room]) == 0
		}
		all++
		if misses {
			ways++
		}
	})
	return ways, all
}

// slowChoose is how many of the sets of n things have so many of them.
func slowChoose(n, many int) int {
	ways := 0
	for set := range 1 << n {
		if bits.OnesCount(uint(set)) == many {
			ways++
		}
	}
	return ways
}

// chooses is slowChoose of each n and number.
var chooses = func() (t [9][9]int) {
	for n := range t {
		for many := range t[n] {
			t[n][many] = slowChoose(n, many)
		}
	}
	return t
}()

// slowCount is how many choices miss a loss, as the document says in brackets.
func slowCount(a api.Audit, sample, lost []int) (ways, all int) {
	ways, all = 1, 1
	for room, n := range a.Stock {
		ways *= chooses[n-lost[room]][sample[room]]
		all *= chooses[n][sample[room]]
	}
	return ways, all
}

// slowLosses are all losses with Lost pledges in all, the first ones first.
func slowLosses(a api.Audit) [][]int {
	var out [][]int
	slowLists(a.Stock, func(l []int) {
		if sumOf(l) == a.Lost {
			out = append(out, slices.Clone(l))
		}
	})
	return out
}

// slowWorst is the first one of those losses that the most choices miss.
func slowWorst(a api.Audit, losses [][]int, sample []int) (lost []int, ways, all int) {
	for i, l := range losses {
		n, m := slowCount(a, sample, l)
		if i == 0 || n > ways {
			lost, ways, all = l, n, m
		}
	}
	return lost, ways, all
}

func slowFinds(a api.Audit, losses [][]int, sample []int) bool {
	_, ways, all := slowWorst(a, losses, sample)
	return 1000*ways <= all*(1000-a.Sure)
}

func slowCost(a api.Audit, sample []int) int {
	cost := 0
	for room, n := range sample {
		cost += n * a.Costs[room]
	}
	return cost
}

// slowSamples are all samples for an audit, the cheapest ones first, and of those that cost as much the first ones.
func slowSamples(a api.Audit) [][]int {
	var out [][]int
	slowLists(a.Stock, func(l []int) { out = append(out, slices.Clone(l)) })
	slices.SortStableFunc(out, func(x, y []int) int { return slowCost(a, x) - slowCost(a, y) })
	return out
}

func slowLeast(a api.Audit) ([]int, int) {
	losses := slowLosses(a)
	for _, l := range slowSamples(a) {
		if slowFinds(a, losses, l) {
			return l, slowCost(a, l)
		}
	}
	return nil, -1
}

func slowRisk(losses, weights []int) int {
	var products []int
	for room, loss := range losses {
		products = append(products, loss*(64-weights[room]))
	}
	return slices.Max(products)
}

func slowNeed(losses []int, risk int) int {
	sum := 0
	for _, loss := range losses {
		weight := 0
		for loss*(64-weight) > risk {
			weight++
		}
		sum += weight
	}
	return sum
}

// slowWeights calls visit with all weights of so many rooms.
func slowWeights(rooms int, visit func(weights []int)) {
	slowLists(row(rooms-1, 64), func(l []int) {
		if left := 64 - sumOf(l); left >= 0 {
			visit(append(slices.Clone(l), left))
		}
	})
}

// slowPatrol tries all weights.
func slowPatrol(losses []int) int {
	least := 1 << 30
	slowWeights(len(losses), func(weights []int) { least = min(least, slowRisk(losses, weights)) })
	return least
}

// nightly is the risk if each night, one after the other, is given to a room with the greatest product.
func nightly(losses []int) int {
	weights := make([]int, len(losses))
	for range 64 {
		first := 0
		for room, loss := range losses {
			if loss*(64-weights[room]) > losses[first]*(64-weights[first]) {
				first = room
			}
		}
		weights[first]++
	}
	return slowRisk(losses, weights)
}

// slowOrders are all orders of n things, the first ones first.
func slowOrders(n int) [][]int {
	out := [][]int{nil}
	for range n {
		var longer [][]int
		for _, l := range out {
			for x := range n {
				if !slices.Contains(l, x) {
					longer = append(longer, append(slices.Clone(l), x))
				}
			}
		}
		out = longer
	}
	slices.SortFunc(out, slices.Compare)
	return out
}

// slowKeeps looks at each so many days in a row, from the day before the first turn to the last one.
func slowKeeps(periods, turns []int) bool {
	for room, period := range periods {
		for first := 0; first+period <= len(turns)+1; first++ {
			isCounted := first == 0 // on the day before the first turn, which is the day 0, all are
			for day := max(1, first); day < first+period; day++ {
				isCounted = isCounted || turns[day-1] == room
			}
			if !isCounted {
				return false
			}
		}
	}
	return true
}

// slowEnd is the greatest number of turns that begin with some and keep the periods, -1 if they do not keep them, and most if there are so many.
func slowEnd(periods, turns []int, most int) int {
	if !slowKeeps(periods, turns) {
		return -1
	}
	if len(turns) == most {
		return most
	}
	end := len(turns)
	for room := range periods {
		end = max(end, slowEnd(periods, append(slices.Clone(turns), room), most))
		if end == most {
			break
		}
	}
	return end
}

// enough is so many turns that behind the first few of them there are more days than cases of how long ago each room was counted: one comes twice, and the turns can go round.
func enough(periods []int, first int) int {
	cases := 1
	for _, period := range periods {
		cases *= period
	}
	return first + cases + 1
}

// slowLasts is -1 if some turns can go on for ever, otherwise the greatest number of turns.
func slowLasts(periods []int) int {
	most := enough(periods, 0)
	if n := slowEnd(periods, nil, most); n < most {
		return n
	}
	return -1
}

// slowTurns are the first ones of so many turns that can go on for ever, of all that there are.
func slowTurns(periods []int, days int) ([]int, bool) {
	var out []int
	ok := false
	most := enough(periods, days)
	slowLists(row(days, len(periods)-1), func(l []int) {
		if !ok && slowEnd(periods, l, most) == most {
			out, ok = slices.Clone(l), true
		}
	})
	return out, ok
}

// lastReached is the last day behind some turns, up to so many days, at the end of which there is any case of how long ago each room was counted.
func lastReached(periods, turns []int, days int) int {
	var first [5]int
	for room := range periods {
		first[room] = len(turns) // since the day before the first turn, unless there is a later one
		for day, x := range turns {
			if x == room {
				first[room] = len(turns) - 1 - day
			}
		}
	}
	now := map[[5]int]bool{first: true}
	for day := range days {
		next := map[[5]int]bool{}
		for x := range now {
			for room := range periods {
				y := x
				late := false
				for i, period := range periods {
					y[i]++
					late = late || i != room && y[i] == period
				}
				y[room] = 0
				if !late {
					next[y] = true
				}
			}
		}
		if len(next) == 0 {
			return day
		}
		now = next
	}
	return days
}
