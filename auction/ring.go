package auction

import (
	"cmp"
	"math/bits"
	"slices"

	"lombard/api"
)

// set is a set of bidders: its bit k tells whether the bidder k is in it.
type set int

func (x set) size() int { return bits.OnesCount(uint(x)) }

func (x set) contains(y set) bool { return x&y == y }

func arePast(l []int) bool {
	isWrong := func(x int) bool { return !within(x, 0, 1<<api.MaxRing-1) }
	return len(l) <= api.MaxNights && !slices.ContainsFunc(l, isWrong)
}

// keen returns all who bid for at least few lots.
func keen(past []int, few int) set {
	var lots [api.MaxRing]int
	var all set
	for _, x := range past {
		for k := range lots {
			lots[k] += x >> k & 1
			if lots[k] >= few {
				all |= 1 << k
			}
		}
	}
	return all
}

// groups returns all sets of at least two bidders out of a set, in the order of rings.
func groups(all set) []set {
	var l []set
	for x := range all + 1 {
		if all.contains(x) && x.size() >= 2 {
			l = append(l, x)
		}
	}
	slices.SortFunc(l, func(a, b set) int { return cmp.Or(cmp.Compare(b.size(), a.size()), cmp.Compare(a, b)) })
	return l
}

// Rings returns the largest rings.
func Rings(past []int, few int) ([]int, api.Errno) {
	if !arePast(past) {
		return nil, api.ErrPast
	}
	if !within(few, 1, api.MaxNights) {
		return nil, api.ErrRange
	}
	var rings []int
search:
	for _, x := range groups(keen(past, few)) {
		for _, bidders := range past {
			if (x & set(bidders)).size() >= 2 {
				continue search
			}
		}
		// Larger rings come first.
		for _, ring := range rings {
			if set(ring).contains(x) {
				continue search
			}
		}
		rings = append(rings, int(x))
	}
	return rings, api.OK
}
