package auction

import (
	"iter"
	"slices"

	"lombard/api"
)

// Check checks a lot.
func Check(l api.Lot) api.Errno {
	if !isBid(l.Start) || !isAmount(l.Reserve) || !isLadder(l.Ladder) {
		return api.ErrLot
	}
	return api.OK
}

func isLadder(l []api.Rise) bool {
	if !within(len(l), 1, api.MaxLadder) || l[0].From != 0 {
		return false
	}
	for i, x := range l {
		if i > 0 && x.From <= l[i-1].From || x.From > api.MaxBid || !isBid(x.By) {
			return false
		}
	}
	return true
}

// rungs yields the rungs of a lot, increasing.
func rungs(l api.Lot) iter.Seq[int] {
	return func(yield func(int) bool) {
		step := 0
		for p := l.Start; p <= api.MaxBid && yield(p); p += l.Ladder[step].By {
			for step+1 < len(l.Ladder) && l.Ladder[step+1].From <= p {
				step++
			}
		}
	}
}

// scale is all rungs of a lot, increasing. They are at least 1: so 0 stands for a rung that is not there.
type scale []int

func scaleOf(l api.Lot) scale { return slices.Collect(rungs(l)) }

// of returns the rung of a number.
func (s scale) of(n int) int {
	i, is := slices.BinarySearch(s, n)
	switch {
	case is:
		return n
	case i == 0:
		return 0
	}
	return s[i-1]
}

// from returns the least rung that is not less than a number.
func (s scale) from(n int) int {
	i, _ := slices.BinarySearch(s, n)
	if i == len(s) {
		return 0
	}
	return s[i]
}

// behind returns the rung behind another one; behind 0, the first rung.
func (s scale) behind(rung int) int { return s.from(rung + 1) }

// price returns what an offer up to a rung costs against another one up to a second rung (0: against none).
func (s scale) price(limit, second int) int {
	if second == limit {
		return limit
	}
	return s.behind(second)
}

// Rung returns the greatest rung that is not greater than a number.
func Rung(l api.Lot, n int) (int, api.Errno) {
	if e := Check(l); e != api.OK {
		return 0, e
	}
	return found(scaleOf(l).of(n))
}

// Next returns the rung behind a rung.
func Next(l api.Lot, n int) (int, api.Errno) {
	if e := Check(l); e != api.OK {
		return 0, e
	}
	s := scaleOf(l)
	if _, is := slices.BinarySearch(s, n); !is {
		return 0, api.ErrRange
	}
	return found(s.behind(n))
}

// found returns a rung, or that it is not there.
func found(rung int) (int, api.Errno) {
	if rung == 0 {
		return 0, api.ErrNone
	}
	return rung, api.OK
}
