package census

import (
	"slices"

	"lombard/api"
)

// order is an order of as many things as there can be at most, with zeros behind it if there are fewer.
type order [api.MaxDrawn]int

// firstOrder returns the first order of n things.
func firstOrder(n int) order {
	var o order
	for i := range n {
		o[i] = i
	}
	return o
}

func isMany(n int) bool { return within(n, 1, api.MaxDrawn) }

// isOrder reports whether a list is an order: sorted, it is the first one.
func isOrder(l []int) bool {
	if !isMany(len(l)) {
		return false
	}
	var sorted order
	slices.Sort(sorted[:copy(sorted[:], l)])
	return sorted == firstOrder(len(l))
}

// orders returns how many orders of n things there are.
func orders(n int) int {
	many := 1
	for i := range n {
		many *= i + 1
	}
	return many
}

// Rank returns the rank of an order.
func Rank(order []int) (int, api.Errno) {
	if !isOrder(order) {
		return 0, api.ErrDraw
	}
	rank := 0
	for i, x := range order {
		left := order[i:]
		lesser := 0
		for _, y := range left {
			if y < x {
				lesser++
			}
		}
		rank = rank*len(left) + lesser
	}
	return rank, api.OK
}

// unrank returns the order of n things with a rank.
func unrank(n, rank int) []int {
	first := firstOrder(n)
	left := first[:n]
	var l []int
	for len(left) > 0 {
		each := orders(len(left) - 1) // so many orders begin with each thing that is left
		i := rank / each
		rank %= each
		l = append(l, left[i])
		left = slices.Delete(left, i, i+1)
	}
	return l
}

// isRank reports whether a number is the rank of an order of n things.
func isRank(n, rank int) bool { return within(rank, 0, orders(n)-1) }

// Unrank returns the order with a rank.
func Unrank(n, rank int) ([]int, api.Errno) {
	if !isMany(n) {
		return nil, api.ErrDraw
	}
	if !isRank(n, rank) {
		return nil, api.ErrRange
	}
	return unrank(n, rank), api.OK
}

// Draw returns what is drawn by numbers.
func Draw(n, many int, numbers []int) ([]int, api.Errno) {
	isNumber := func(x int) bool { return isRank(n, x) }
	if !isMany(n) || !within(len(numbers), 1, api.MaxSeeds) || !all(numbers, isNumber) {
		return nil, api.ErrDraw
	}
	if !within(many, 0, n) {
		return nil, api.ErrRange
	}
	return unrank(n, sum(numbers)%orders(n))[:many], api.OK
}
