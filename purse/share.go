package purse

import "lombard/api"

func within(n, least, most int) bool { return least <= n && n <= most }

// isAmount reports whether a number can be a weight, a value, a price or an amount that is due.
func isAmount(n int) bool { return within(n, 0, api.MaxDue) }

func isShared(sum int) bool { return within(sum, 0, api.MaxShared) }

// total returns the sum of numbers.
func total(l ...int) int {
	sum := 0
	for _, n := range l {
		sum += n
	}
	return sum
}

// places returns where in a list the elements are that fit.
func places[T any](l []T, fits func(T) bool) []int {
	var out []int
	for i, x := range l {
		if fits(x) {
			out = append(out, i)
		}
	}
	return out
}

// all reports whether all elements of a list fit.
func all[T any](l []T, fits func(T) bool) bool { return len(places(l, fits)) == len(l) }

// each returns what a function makes of each element of a list.
func each[T, U any](l []T, do func(T) U) []U {
	out := make([]U, 0, len(l))
	for _, x := range l {
		out = append(out, do(x))
	}
	return out
}

// areWeights reports whether numbers are weights.
func areWeights(l []int) bool {
	return within(len(l), 1, api.MaxShares) && all(l, isAmount) && total(l...) > 0
}

// share shares out a sum among weights.
// Nobody gets less than their part of the sum, rounded down (P7.9): so these cents are given at once, as giving each of 2^35 cents by itself would take too long. The others, which are fewer than the weights, are given cent by cent.
func share(weights []int, sum int) []int {
	whole := total(weights...)
	shares := each(weights, func(w int) int { return sum * w / whole })
	// Quotients are compared by products: a/b is greater than c/d if a*d is greater than c*b.
	next := func() int {
		first := 0
		for i, w := range weights {
			if w*(shares[first]+1) > weights[first]*(shares[i]+1) {
				first = i
			}
		}
		return first
	}
	for range sum - total(shares...) {
		shares[next()]++
	}
	return shares
}

// Share shares out a sum among weights.
func Share(weights []int, sum int) ([]int, api.Errno) {
	if !areWeights(weights) {
		return nil, api.ErrShares
	}
	if !isShared(sum) {
		return nil, api.ErrRange
	}
	return share(weights, sum), api.OK
}
