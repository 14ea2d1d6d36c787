package pledge_test

import (
	"math"
	"math/rand/v2"
	"slices"
	"testing"

	"lombard/api"
	"lombard/pledge"
)

// P1.4: fakes, at the limits and one beyond
func TestCheckFakes(t *testing.T) {
	right := fake(0, 100000, 5, 5)
	for name, x := range map[string]struct {
		l  []api.Fake
		ok bool
	}{
		"one": {[]api.Fake{right}, true}, "10": {slices.Repeat([]api.Fake{right}, 10), true}, "11": {slices.Repeat([]api.Fake{right}, 11), false}, "far too many": {make([]api.Fake, 1<<16), false},
		"no spans": {[]api.Fake{{}}, false}, "a span too few": {[]api.Fake{fake(1, 2)}, false}, "a span too many": {[]api.Fake{fake(1, 2, 1, 2, 1, 2)}, false},
		"Min beyond Max": {[]api.Fake{fake(0, 0, 6, 5)}, false}, "Min -1": {[]api.Fake{fake(-1, 5, 0, 0)}, false}, "Max 100001": {[]api.Fake{fake(0, 0, 0, 100001)}, false},
		"both below": {[]api.Fake{fake(0, 0, -2, -1)}, false}, "both beyond": {[]api.Fake{fake(100001, 100001, 0, 0)}, false}, "the greatest": {[]api.Fake{fake(100000, 100000, 0, 0)}, true},
		"far beyond": {[]api.Fake{fake(math.MinInt, math.MaxInt, 0, 0)}, false}, "far the other way": {[]api.Fake{fake(math.MaxInt, math.MinInt, 0, 0)}, false},
		"the last one wrong": {[]api.Fake{right, right, fake(1, 0, 1, 1)}, false}, "the first one wrong": {[]api.Fake{fake(1, 1), right, right}, false},
	} {
		want := api.OK
		if !x.ok {
			want = api.ErrFakes
		}
		reads := []int{50000, 50000}
		if len(x.l) == 1 {
			_, e := pledge.Finds(scales(), reads, x.l[0])
			errs(t, "Finds: "+name, e, want)
		}
		is, e := pledge.Shows(scales(), reads, x.l, nil)
		errs(t, "Shows: "+name, e, want)
		n, e := pledge.Bound(scales(), reads, x.l, make([]int, len(x.l)))
		errs(t, "Bound: "+name, e, want)
		set, labour, e := pledge.Least(scales(), reads, x.l)
		if x.ok != (e != api.ErrFakes) || is || n != 0 || !x.ok && (len(set) > 0 || labour != 0) {
			t.Errorf("%s: %v, %d, %v, %d, %d", name, is, n, set, labour, e)
		}
		if x.ok {
			continue
		}
		_, e = pledge.Shows(scales(), reads, x.l, []int{2})
		errs(t, "Shows with a wrong set: "+name, e, want)
		_, e = pledge.Bound(scales(), reads, x.l, []int{-1})
		errs(t, "Bound with wrong prices: "+name, e, want)
	}
}

// P1.6: by how much a size must be too great, or too small
func TestFinds(t *testing.T) {
	for i, x := range []struct {
		taken []int
		f     api.Fake
		want  []int
	}{
		{taken(), fakes()[0], []int{0}}, {taken(), fakes()[1], []int{1}},
		{taken(), fake(106, 200, 1015, 1100), nil}, {taken(), fake(107, 200, 1015, 1100), []int{0}}, {taken(), fake(106, 200, 1016, 1100), []int{1}}, {taken(), fake(107, 107, 1016, 1016), []int{0, 1}},
		{taken(), fake(0, 94, 0, 985), nil}, {taken(), fake(0, 93, 0, 985), []int{0}}, {taken(), fake(0, 94, 0, 984), []int{1}}, {taken(), fake(0, 93, 0, 984), []int{0, 1}},
		{taken(), fake(0, 100000, 0, 100000), nil}, {taken(), fake(94, 106, 985, 1015), nil}, {taken(), fake(100, 100, 1000, 1000), nil},
		{[]int{-1, 1000}, fake(107, 107, 1016, 1016), []int{1}}, {[]int{100, -1}, fake(107, 107, 1016, 1016), []int{0}}, {[]int{-1, -1}, fake(100000, 100000, 100000, 100000), nil},
		{[]int{0, 100000}, fake(6, 6, 99985, 99985), nil}, {[]int{0, 100000}, fake(7, 7, 99984, 99984), []int{0, 1}}, {[]int{100000, 0}, fake(0, 0, 100000, 100000), []int{0, 1}},
	} {
		if l, e := pledge.Finds(scales(), x.taken, x.f); !slices.Equal(l, x.want) || e != api.OK {
			t.Errorf("Finds %d: %v, %d", i, l, e)
		}
	}
	exact := []api.Measure{{Tol: 0, Labour: 1}, {Tol: 1000, Labour: 1}}
	if l, e := pledge.Finds(exact, []int{7, 10000}, fake(8, 8, 7000, 13000)); !slices.Equal(l, []int{0}) || e != api.OK {
		t.Errorf("Finds by an exact measure: %v, %d", l, e)
	}
	if l, e := pledge.Finds(exact, []int{7, 10000}, fake(7, 9, 13001, 13001)); !slices.Equal(l, []int{1}) || e != api.OK {
		t.Errorf("Finds by a coarse measure: %v, %d", l, e)
	}
}

// passes reports whether a reading that is true of a size within a span agrees with what was taken.
func passes(x api.Measure, taken int, s api.Span) bool {
	for size := s.Min; size <= s.Max; size++ {
		for r := max(size-x.Tol, 0); r <= size+x.Tol && r <= 100000; r++ {
			if max(r-taken, taken-r) <= 2*x.Tol {
				return true
			}
		}
	}
	return false
}

// P1.6, P1.12: a measure finds a fake exactly if none of the readings that may be taken of it agrees
func TestFindsAll(t *testing.T) {
	for _, end := range []int{0, 100000 - 14} {
		for tol := range 4 {
			m := []api.Measure{{Tol: tol, Labour: 1}}
			for taken := end; taken <= end+14; taken += 2 {
				for low := end; low <= end+14; low++ {
					for high := low; high <= end+14; high++ {
						l, e := pledge.Finds(m, []int{taken}, fake(low, high))
						if e != api.OK || (len(l) == 1) == passes(m[0], taken, api.Span{Min: low, Max: high}) {
							t.Fatalf("Finds of %d to %d, taken %d, Tol %d: %v, %d", low, high, taken, tol, l, e)
						}
					}
				}
			}
		}
	}
}

// P1.6: sets
func TestShows(t *testing.T) {
	for i, x := range []struct {
		taken []int
		l     []api.Fake
		set   []int
		is    bool
		e     api.Errno
	}{
		{taken(), fakes(), []int{0, 1}, true, api.OK}, {taken(), fakes(), []int{0}, false, api.OK}, {taken(), fakes(), []int{1}, false, api.OK}, {taken(), fakes(), nil, false, api.OK}, {taken(), fakes(), []int{}, false, api.OK},
		{taken(), fakes()[:1], []int{0}, true, api.OK}, {taken(), fakes()[1:], []int{0}, false, api.OK}, {taken(), fakes()[1:], []int{1}, true, api.OK}, {taken(), fakes()[1:], []int{0, 1}, true, api.OK},
		{taken(), nil, nil, true, api.OK}, {taken(), []api.Fake{}, []int{1}, true, api.OK}, {[]int{-1, -1}, nil, []int{}, true, api.OK}, {[]int{-1, 1000}, fakes(), []int{0, 1}, false, api.OK},
		{taken(), fakes(), []int{1, 0}, false, api.ErrRange}, {taken(), fakes(), []int{0, 0}, false, api.ErrRange}, {taken(), fakes(), []int{0, 1, 1}, false, api.ErrRange}, {taken(), fakes(), []int{0, 1, 2}, false, api.ErrRange},
		{taken(), fakes(), []int{2}, false, api.ErrRange}, {taken(), fakes(), []int{-1}, false, api.ErrRange}, {taken(), fakes(), []int{-1, 0, 1}, false, api.ErrRange}, {taken(), nil, []int{math.MaxInt}, false, api.ErrRange}, {taken(), nil, []int{math.MinInt}, false, api.ErrRange},
		{taken(), nil, make([]int, 1<<16), false, api.ErrRange},
	} {
		if is, e := pledge.Shows(scales(), x.taken, x.l, x.set); is != x.is || e != x.e {
			t.Errorf("Shows %d: %v, %d", i, is, e)
		}
	}
	if is, e := pledge.Shows(measures(8), repeated(8, 0), []api.Fake{fake(repeated(16, 100)...)}, []int{0, 1, 2, 3, 4, 5, 6, 7}); !is || e != api.OK {
		t.Errorf("Shows with all of 8 measures: %v, %d", is, e)
	}
}

// P1.7: the first one of those with the least labour
func TestLeast(t *testing.T) {
	// found is a fake that is found by those measures alone, of n exact ones
	found := func(n int, by ...int) api.Fake {
		ends := repeated(2*n, 0)
		for _, i := range by {
			ends[2*i], ends[2*i+1] = 5, 5
		}
		return fake(ends...)
	}
	labours := func(l ...int) []api.Measure {
		var m []api.Measure
		for _, n := range l {
			m = append(m, api.Measure{Labour: n})
		}
		return m
	}
	for i, x := range []struct {
		m      []api.Measure
		taken  []int
		l      []api.Fake
		set    []int
		labour int
		e      api.Errno
	}{
		{scales(), taken(), fakes(), []int{0, 1}, 5, api.OK}, {scales(), taken(), fakes()[:1], []int{0}, 1, api.OK}, {scales(), taken(), nil, nil, 0, api.OK}, {scales(), []int{-1, -1}, []api.Fake{}, nil, 0, api.OK},
		{scales(), []int{100, -1}, fakes(), nil, 0, api.ErrNone}, {scales(), taken(), append(fakes(), fake(94, 94, 985, 985)), nil, 0, api.ErrNone}, {scales(), taken(), []api.Fake{fake(0, 100000, 0, 100000)}, nil, 0, api.ErrNone},
		{labours(2, 1, 1), repeated(3, 0), []api.Fake{found(3, 0, 1), found(3, 0, 2)}, []int{0}, 2, api.OK},
		{labours(3, 1, 1), repeated(3, 0), []api.Fake{found(3, 0, 1), found(3, 0, 2)}, []int{1, 2}, 2, api.OK},
		{labours(1, 1, 2), repeated(3, 0), []api.Fake{found(3, 0, 2), found(3, 1, 2)}, []int{0, 1}, 2, api.OK},
		{labours(1, 1, 1), repeated(3, 0), []api.Fake{found(3, 1, 2), found(3, 0, 1, 2)}, []int{1}, 1, api.OK},
		{labours(7, 7, 7), repeated(3, 0), []api.Fake{found(3, 0, 1, 2)}, []int{0}, 7, api.OK},
		{labours(7, 7, 6), repeated(3, 0), []api.Fake{found(3, 0, 1, 2)}, []int{2}, 6, api.OK},
		{labours(1, 1, 1, 1), repeated(4, 0), []api.Fake{found(4, 0, 3), found(4, 1, 2)}, []int{0, 1}, 2, api.OK},
		{labours(2, 1, 1, 2), repeated(4, 0), []api.Fake{found(4, 0, 1, 3), found(4, 0, 2), found(4, 3, 2, 1)}, []int{1, 2}, 2, api.OK},
		{labours(1, 2, 2, 3), repeated(4, 0), []api.Fake{found(4, 0, 1), found(4, 3, 1), found(4, 2, 0)}, []int{0, 1}, 3, api.OK},
		{labours(1000, 1000, 1000, 1000, 1000, 1000, 1000, 1000), repeated(8, 0), []api.Fake{found(8, 0), found(8, 1), found(8, 2), found(8, 3), found(8, 4), found(8, 5), found(8, 6), found(8, 7), found(8, 0), found(8, 1)}, []int{0, 1, 2, 3, 4, 5, 6, 7}, 8000, api.OK},
	} {
		if set, n, e := pledge.Least(x.m, x.taken, x.l); !slices.Equal(set, x.set) || n != x.labour || e != x.e {
			t.Errorf("Least %d: %v, %d, %d, want %v, %d, %d", i, set, n, e, x.set, x.labour, x.e)
		}
	}
}

// P1.7: prices, and what they prove
func TestBound(t *testing.T) {
	three := []api.Measure{{Labour: 1000}, {Labour: 1000}}
	for i, x := range []struct {
		m      []api.Measure
		taken  []int
		l      []api.Fake
		prices []int
		n      int
		e      api.Errno
	}{
		{scales(), taken(), fakes(), []int{1, 4}, 5, api.OK}, {scales(), taken(), fakes(), []int{0, 0}, 0, api.OK}, {scales(), taken(), fakes(), []int{1, 0}, 1, api.OK}, {scales(), taken(), nil, nil, 0, api.OK}, {scales(), taken(), nil, []int{}, 0, api.OK},
		{scales(), taken(), fakes(), []int{2, 4}, 0, api.ErrProof}, {scales(), taken(), fakes(), []int{1, 5}, 0, api.ErrProof}, {scales(), taken(), fakes(), []int{2, 0}, 0, api.ErrProof},
		{scales(), taken(), fakes(), []int{1}, 0, api.ErrProof}, {scales(), taken(), fakes(), nil, 0, api.ErrProof}, {scales(), taken(), fakes(), []int{0, 0, 0}, 0, api.ErrProof}, {scales(), taken(), nil, []int{0}, 0, api.ErrProof},
		{scales(), taken(), fakes(), []int{-1, 1}, 0, api.ErrProof}, {scales(), taken(), fakes(), []int{1, -1}, 0, api.ErrProof}, {scales(), taken(), fakes(), []int{math.MinInt, math.MaxInt}, 0, api.ErrProof},
		// both found by the first measure: their prices together count
		{scales(), taken(), []api.Fake{fakes()[0], fakes()[0]}, []int{1, 0}, 1, api.OK}, {scales(), taken(), []api.Fake{fakes()[0], fakes()[0]}, []int{1, 1}, 0, api.ErrProof},
		{scales(), taken(), []api.Fake{fakes()[1], fakes()[1]}, []int{2, 2}, 4, api.OK}, {scales(), taken(), []api.Fake{fakes()[1], fakes()[1]}, []int{2, 3}, 0, api.ErrProof},
		// found by both measures: the price counts for each of them
		{scales(), taken(), []api.Fake{fake(0, 0, 0, 0)}, []int{1}, 1, api.OK}, {scales(), taken(), []api.Fake{fake(0, 0, 0, 0)}, []int{4}, 0, api.ErrProof},
		// what no measure finds has any price
		{scales(), []int{-1, -1}, fakes(), []int{1000, 1000}, 2000, api.OK}, {scales(), []int{-1, -1}, fakes(), []int{1001, 0}, 0, api.ErrProof}, {scales(), []int{-1, -1}, fakes(), []int{0, 1001}, 0, api.ErrProof}, {scales(), []int{-1, -1}, fakes(), []int{0, math.MaxInt}, 0, api.ErrProof},
		{three, []int{0, 0}, []api.Fake{fake(1, 1, 0, 0), fake(0, 0, 1, 1)}, []int{1000, 1000}, 2000, api.OK}, {three, []int{0, 0}, []api.Fake{fake(1, 1, 0, 0), fake(2, 2, 1, 1)}, []int{1, 1000}, 0, api.ErrProof},
		{scales(), []int{-1, -1}, slices.Repeat(fakes(), 5), repeated(10, 1000), 10000, api.OK},
	} {
		if n, e := pledge.Bound(x.m, x.taken, x.l, x.prices); n != x.n || e != x.e {
			t.Errorf("Bound %d: %d, %d", i, n, e)
		}
	}
}

// someFakes are random fakes around what was taken.
func someFakes(r *rand.Rand, m []api.Measure, taken []int, n int) []api.Fake {
	var l []api.Fake
	for range n {
		var f api.Fake
		for i, x := range m {
			a := min(max(taken[i]+r.IntN(10*x.Tol+11)-5*x.Tol-5, 0), api.MaxSize)
			f.Has = append(f.Has, api.Span{Min: a, Max: min(a+r.IntN(2*x.Tol+2), api.MaxSize)})
		}
		l = append(l, f)
	}
	return l
}

// leastSlowly tries all sets; nil and false if none finds all fakes.
func leastSlowly(t *testing.T, m []api.Measure, taken []int, l []api.Fake) (best []int, labour int, ok bool) {
	for bits := range 1 << len(m) {
		var set []int
		n := 0
		for i, x := range m {
			if bits>>i&1 == 1 {
				set, n = append(set, i), n+x.Labour
			}
		}
		is, e := pledge.Shows(m, taken, l, set)
		if e != api.OK {
			t.Fatalf("Shows: error %d", e)
		}
		if is && (!ok || n < labour || n == labour && slices.Compare(set, best) < 0) {
			best, labour, ok = set, n, true
		}
	}
	return best, labour, ok
}

// someCase is a random case: measures, what was taken, and fakes.
func someCase(r *rand.Rand) ([]api.Measure, []int, []api.Fake) {
	m := someMeasures(r, 1+r.IntN(8), 6, 1+r.IntN(6))
	var sizes []int
	for range m {
		sizes = append(sizes, []int{r.IntN(30), r.IntN(100001), 100000 - r.IntN(30)}[r.IntN(3)])
	}
	taken := reads(r, m, sizes)
	return m, taken, someFakes(r, m, sizes, r.IntN(11))
}

// P1.7, P1.13: the least set among all; no prices prove more; more fakes never make it less
func TestLeastAll(t *testing.T) {
	r := random(8)
	least, bounds := 0, 0
	for range 2000 {
		m, taken, l := someCase(r)
		want, labour, ok := leastSlowly(t, m, taken, l)
		set, n, e := pledge.Least(m, taken, l)
		if ok != (e == api.OK) || !ok && e != api.ErrNone || !slices.Equal(set, want) || n != labour {
			t.Fatalf("Least(%v, %v, %v): %v, %d, %d, want %v, %d", m, taken, l, set, n, e, want, labour)
		}
		for k := range l {
			if _, fewer, e := pledge.Least(m, taken, l[:k]); ok && (e != api.OK || fewer > n) {
				t.Fatalf("Least of fewer fakes: %d, %d, of all: %d", fewer, e, n)
			}
		}
		prices := make([]int, len(l))
		for range 20 {
			if len(l) > 0 {
				prices[r.IntN(len(l))]++
			}
			bound, e := pledge.Bound(m, taken, l, prices)
			if (e == api.OK) != prove(t, m, taken, l, prices) || e == api.OK && ok && bound > n {
				t.Fatalf("Bound(%v, %v, %v, %v): %d, %d, but the least is %d", m, taken, l, prices, bound, e, n)
			}
			if e == api.OK && bound > 0 {
				bounds++
			}
		}
		if ok && len(l) > 1 {
			least++
		}
	}
	if least < 100 || bounds < 100 {
		t.Errorf("only %d cases with a least set, and %d with a bound", least, bounds)
	}
}

// prove reports whether prices prove a bound, by what Finds returns.
func prove(t *testing.T, m []api.Measure, taken []int, l []api.Fake, prices []int) bool {
	for i, x := range m {
		n := 0
		for k, f := range l {
			set, e := pledge.Finds(m, taken, f)
			if e != api.OK {
				t.Fatalf("Finds: error %d", e)
			}
			if slices.Contains(set, i) {
				n += prices[k]
			}
		}
		if n > x.Labour {
			return false
		}
	}
	return true
}

// P1.12: whatever is read of a fake by a set that finds it does not agree with what was taken
func TestNoFakePasses(t *testing.T) {
	r := random(9)
	tried := 0
	for range 2000 {
		m, taken, l := someCase(r)
		set, _, e := pledge.Least(m, taken, l)
		if e != api.OK {
			continue
		}
		for _, f := range l {
			for range 10 {
				returned := repeated(len(m), -1)
				for _, i := range set {
					s := f.Has[i]
					returned[i] = read(r, s.Min+r.IntN(s.Max-s.Min+1), m[i].Tol)
				}
				if is, e := pledge.Agree(m, taken, returned); is || e != api.OK {
					t.Fatalf("the fake %v passes: taken %v, returned %v", f, taken, returned)
				}
				tried++
			}
		}
	}
	if tried < 1000 {
		t.Errorf("only %d readings of fakes", tried)
	}
}
