package census

import (
	"iter"
	"math"
	"slices"

	"lombard/api"
)

// counts is a number for each room, and 0 for rooms that are not there: a sample, or a loss.
type counts [api.MaxStores]int

// triangle is C(n, k) for each n and k, which is 0 if k is greater than n.
type triangle [api.MaxStock + 1][api.MaxStock + 1]int

func triangleOf() triangle {
	var t triangle
	for n := range t {
		t[n][0] = 1
		for k := 1; k <= n; k++ {
			t[n][k] = t[n-1][k-1] + t[n-1][k]
		}
	}
	return t
}

// search is an audit in the calculation.
type search struct {
	api.Audit
	choose triangle
}

func searchOf(a api.Audit) *search { return &search{a, triangleOf()} }

func isStock(n int) bool { return within(n, 1, api.MaxStock) }

func isCost(n int) bool { return within(n, 0, api.MaxCount) }

// Check checks an audit.
func Check(a api.Audit) api.Errno {
	if !within(len(a.Stock), 1, api.MaxStores) || !all(a.Stock, isStock) ||
		len(a.Costs) != len(a.Stock) || !all(a.Costs, isCost) ||
		!within(a.Lost, 1, sum(a.Stock)) || !within(a.Sure, 0, api.Thousand) {
		return api.ErrAudit
	}
	return api.OK
}

// areCounts reports whether a list is a sample for an audit, or a loss.
func areCounts(a api.Audit, l []int) bool {
	if len(l) != len(a.Stock) {
		return false
	}
	for room, n := range l {
		if !within(n, 0, a.Stock[room]) {
			return false
		}
	}
	return true
}

// checkSample checks an audit, and a sample for it.
func checkSample(a api.Audit, sample []int) api.Errno {
	if e := Check(a); e != api.OK {
		return e
	}
	if !areCounts(a, sample) {
		return api.ErrSample
	}
	return api.OK
}

func countsOf(l []int) counts {
	var c counts
	copy(c[:], l)
	return c
}

// list returns the numbers of the rooms that are there.
func (s *search) list(c counts) []int { return slices.Clone(c[:len(s.Stock)]) }

// lists yields all lists with a number for each room, from 0 to its Stock, whose sum is from least to most, the first ones first.
func (s *search) lists(least, most int) iter.Seq[counts] {
	return func(yield func(counts) bool) {
		var c counts
		var fill func(room, least, most int) bool
		fill = func(room, least, most int) bool {
			if room == len(s.Stock) {
				return yield(c)
			}
			behind := sum(s.Stock[room+1:])
			for n := max(0, least-behind); n <= min(s.Stock[room], most); n++ {
				c[room] = n
				if !fill(room+1, least-n, most-n) {
					return false
				}
			}
			return true
		}
		fill(0, least, most)
	}
}

// miss returns how many choices miss a loss.
func (s *search) miss(sample, lost counts) int {
	ways := 1
	for room, stock := range s.Stock {
		ways *= s.choose[stock-lost[room]][sample[room]]
	}
	return ways
}

// all returns how many choices there are: as many as miss it if nothing is lost.
func (s *search) all(sample counts) int { return s.miss(sample, counts{}) }

// worst returns the worst loss for a sample, and how many choices miss it.
func (s *search) worst(sample counts) (lost counts, ways int) {
	ways = -1
	for l := range s.lists(s.Lost, s.Lost) {
		if n := s.miss(sample, l); n > ways {
			lost, ways = l, n
		}
	}
	return lost, ways
}

// finds reports whether a sample finds what the audit asks for.
func (s *search) finds(sample counts) bool {
	_, ways := s.worst(sample)
	return api.Thousand*ways <= s.all(sample)*(api.Thousand-s.Sure)
}

func (s *search) cost(sample counts) int {
	cost := 0
	for room, each := range s.Costs {
		cost += sample[room] * each
	}
	return cost
}

// Miss returns how many choices of a sample miss a loss, of how many.
func Miss(a api.Audit, sample, lost []int) (ways, all int, e api.Errno) {
	if e := checkSample(a, sample); e != api.OK {
		return 0, 0, e
	}
	if !areCounts(a, lost) {
		return 0, 0, api.ErrLost
	}
	s, c := searchOf(a), countsOf(sample)
	return s.miss(c, countsOf(lost)), s.all(c), api.OK
}

// Worst returns the loss that the most choices of a sample miss.
func Worst(a api.Audit, sample []int) (lost []int, ways, all int, e api.Errno) {
	if e := checkSample(a, sample); e != api.OK {
		return nil, 0, 0, e
	}
	s, c := searchOf(a), countsOf(sample)
	l, ways := s.worst(c)
	return s.list(l), ways, s.all(c), api.OK
}

// Finds reports whether a sample finds what an audit asks for.
func Finds(a api.Audit, sample []int) (bool, api.Errno) {
	if e := checkSample(a, sample); e != api.OK {
		return false, e
	}
	return searchOf(a).finds(countsOf(sample)), api.OK
}

// Least returns the cheapest sample that finds what an audit asks for.
func Least(a api.Audit) (sample []int, cost int, e api.Errno) {
	if e := Check(a); e != api.OK {
		return nil, 0, e
	}
	s := searchOf(a)
	cost = math.MaxInt
	for c := range s.lists(0, sum(a.Stock)) {
		// That a sample finds is asked last, since this takes longest.
		if n := s.cost(c); n < cost && s.finds(c) {
			sample, cost = s.list(c), n
		}
	}
	return sample, cost, api.OK
}
