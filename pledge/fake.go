package pledge

import (
	"iter"
	"slices"

	"lombard/api"
)

func areFakes(m []api.Measure, l []api.Fake) bool {
	if len(l) > api.MaxFakes {
		return false
	}
	for _, f := range l {
		if len(f.Has) != len(m) {
			return false
		}
		for _, s := range f.Has {
			if s.Min < 0 || isEmpty(s) || s.Max > api.MaxSize {
				return false
			}
		}
	}
	return true
}

// finds reports whether a measure finds what has a size within a span.
// A tolerance each is what was taken, what is read of the fake, and by how much more both may differ.
func finds(x api.Measure, taken int, has api.Span) bool {
	return taken != unread && isEmpty(meet(has, around(taken, 3*x.Tol)))
}

// finders returns all measures that find a fake.
func finders(m []api.Measure, taken []int, f api.Fake) []int {
	var set []int
	for i, x := range m {
		if finds(x, taken[i], f.Has[i]) {
			set = append(set, i)
		}
	}
	return set
}

// Finds returns all measures that find a fake.
func Finds(m []api.Measure, taken []int, f api.Fake) ([]int, api.Errno) {
	if e := check(m, []api.Fake{f}, taken); e != api.OK {
		return nil, e
	}
	return finders(m, taken, f), api.OK
}

// Shows reports whether a set of measures finds all fakes.
func Shows(m []api.Measure, taken []int, l []api.Fake, set []int) (bool, api.Errno) {
	if e := check(m, l, taken); e != api.OK {
		return false, e
	}
	last := -1
	for _, i := range set {
		if !within(i, last+1, len(m)-1) {
			return false, api.ErrRange
		}
		last = i
	}
	return shows(m, taken, l, set), api.OK
}

func shows(m []api.Measure, taken []int, l []api.Fake, set []int) bool {
	for _, f := range l {
		found := func(i int) bool { return finds(m[i], taken[i], f.Has[i]) }
		if !slices.ContainsFunc(set, found) {
			return false
		}
	}
	return true
}

// sets yields all strictly increasing lists of indices below n, in the order of lists.
// A list that was yielded is changed afterwards.
func sets(n int) iter.Seq[[]int] {
	return func(yield func([]int) bool) { extend(n, nil, 0, yield) }
}

// extend reports whether the visit goes on behind a list and all that it begins.
func extend(n int, list []int, from int, yield func([]int) bool) bool {
	if !yield(list) {
		return false
	}
	for i := from; i < n; i++ {
		if !extend(n, append(list, i), i+1, yield) {
			return false
		}
	}
	return true
}

// Least returns the set of measures that finds all fakes with the least labour.
func Least(m []api.Measure, taken []int, l []api.Fake) (set []int, labour int, e api.Errno) {
	if e := check(m, l, taken); e != api.OK {
		return nil, 0, e
	}
	known := false
	for s := range sets(len(m)) {
		n := sum(s, func(i int) int { return m[i].Labour })
		// Of several with the least labour the first one stays.
		if (!known || n < labour) && shows(m, taken, l, s) {
			set, labour, known = slices.Clone(s), n, true
		}
	}
	if !known {
		return nil, 0, api.ErrNone
	}
	return set, labour, api.OK
}

// Bound returns the bound that prices prove.
func Bound(m []api.Measure, taken []int, l []api.Fake, prices []int) (int, api.Errno) {
	if e := check(m, l, taken); e != api.OK {
		return 0, e
	}
	if !arePrices(prices, len(l)) || !prove(m, taken, l, prices) {
		return 0, api.ErrProof
	}
	return sum(prices, func(price int) int { return price }), api.OK
}

func arePrices(prices []int, n int) bool {
	if len(prices) != n {
		return false
	}
	for _, price := range prices {
		if !within(price, 0, api.MaxLabour) {
			return false
		}
	}
	return true
}

// prove reports whether no measure is paid more than its labour by the fakes that it finds.
func prove(m []api.Measure, taken []int, l []api.Fake, prices []int) bool {
	paid := make([]int, len(m))
	for k, f := range l {
		for _, i := range finders(m, taken, f) {
			paid[i] += prices[k]
		}
	}
	for i, x := range m {
		if paid[i] > x.Labour {
			return false
		}
	}
	return true
}
