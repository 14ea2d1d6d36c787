package vault

import (
	"cmp"
	"iter"
	"math/bits"
	"slices"
)

// set is a set: its bit k tells whether k is in it. Sets of rooms, of people, of keys and of climates are types of their own, so that none is taken for another one.
type set interface{ ~int }

type (
	roomSet    int
	peopleSet  int
	keySet     int
	climateSet int
)

// full returns the set of all that are below a number.
func full[S set](n int) S { return 1<<n - 1 }

// isSet reports whether a number is a set of what is below another one.
func isSet(x, n int) bool { return within(x, 0, full[int](n)) }

func has[S set](x S, k int) bool { return x>>k&1 == 1 }

func contains[S set](x, part S) bool { return x&part == part }

func size[S set](x S) int { return bits.OnesCount(uint(x)) }

// members yields what is in a set, increasing.
func members[S set](x S) iter.Seq[int] {
	return func(yield func(int) bool) {
		for k := range bits.Len(uint(x)) {
			if has(x, k) && !yield(k) {
				return
			}
		}
	}
}

// least returns the least sets of what is below a number for which something holds: those that contain no other one.
func least[S set](n int, holds func(S) bool) []int {
	var l []S
	for x := range 1 << n {
		if holds(S(x)) {
			l = append(l, S(x))
		}
	}
	slices.SortFunc(l, func(a, b S) int { return cmp.Or(cmp.Compare(size(a), size(b)), cmp.Compare(a, b)) })
	var out []int
	for _, x := range l {
		// Smaller sets come first: if x contains another one, then also one that is kept already.
		if !slices.ContainsFunc(out, func(kept int) bool { return contains(x, S(kept)) }) {
			out = append(out, int(x))
		}
	}
	return out
}
