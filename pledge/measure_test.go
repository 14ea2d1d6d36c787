package pledge_test

import (
	"math"
	"math/rand/v2"
	"slices"
	"testing"

	"lombard/api"
	"lombard/pledge"
)

// scales, taken and fakes are those of the document.
func scales() []api.Measure { return []api.Measure{{Tol: 2, Labour: 1}, {Tol: 5, Labour: 4}} }

func taken() []int { return []int{100, 1000} }

func fakes() []api.Fake { return []api.Fake{fake(90, 93, 900, 1100), fake(95, 105, 1016, 1030)} }

// fake has the spans between pairs of numbers.
func fake(ends ...int) api.Fake {
	var f api.Fake
	for i := 0; i < len(ends); i += 2 {
		f.Has = append(f.Has, api.Span{Min: ends[i], Max: ends[i+1]})
	}
	return f
}

// measures are n measures.
func measures(n int) []api.Measure {
	var l []api.Measure
	for i := range n {
		l = append(l, api.Measure{Tol: i, Labour: 1 + i})
	}
	return l
}

// repeated is n times the same number.
func repeated(n, number int) []int {
	l := make([]int, n)
	for i := range l {
		l[i] = number
	}
	return l
}

// all calls each function with measures: it returns their errors, and checks that nothing else is returned with one.
func all(t *testing.T, m []api.Measure, reads []int, l []api.Fake) map[string]api.Errno {
	t.Helper()
	var f api.Fake
	if len(l) > 0 {
		f = l[len(l)-1]
	}
	_, narrow := narrowed(t, m, [][]int{reads})
	agree, e1 := pledge.Agree(m, reads, reads)
	set, e2 := pledge.Finds(m, reads, f)
	shows, e3 := pledge.Shows(m, reads, l, nil)
	least, labour, e4 := pledge.Least(m, reads, l)
	bound, e5 := pledge.Bound(m, reads, l, make([]int, len(l)))
	if e1 != api.OK && agree || e2 != api.OK && len(set) > 0 || e3 != api.OK && shows || e4 != api.OK && (len(least) > 0 || labour != 0) || e5 != api.OK && bound != 0 {
		t.Errorf("results with an error: %v, %v, %v, %v, %d, %d", agree, set, shows, least, labour, bound)
	}
	return map[string]api.Errno{"Narrow": narrow, "Agree": e1, "Finds": e2, "Shows": e3, "Least": e4, "Bound": e5}
}

// narrowed is what Narrow returns; with an error nothing else.
func narrowed(t *testing.T, m []api.Measure, reads [][]int) ([]api.Span, api.Errno) {
	t.Helper()
	l, e := pledge.Narrow(m, reads)
	if e != api.OK && len(l) > 0 {
		t.Errorf("Narrow: %v with error %d", l, e)
	}
	return l, e
}

// P1.4: measures, at the limits and one beyond; their error is the first one
func TestCheckMeasures(t *testing.T) {
	one := func(tol, labour int) []api.Measure { return []api.Measure{{Tol: tol, Labour: labour}} }
	for name, x := range map[string]struct {
		m  []api.Measure
		ok bool
	}{
		"nil": {nil, false}, "empty": {[]api.Measure{}, false}, "1": {measures(1), true}, "8": {measures(8), true}, "9": {measures(9), false}, "far too many": {make([]api.Measure, 1<<16), false},
		"Tol 0": {one(0, 1), true}, "Tol 1000": {one(1000, 1), true}, "Tol -1": {one(-1, 1), false}, "Tol 1001": {one(1001, 1), false},
		"Labour 1": {one(1, 1), true}, "Labour 1000": {one(1, 1000), true}, "Labour 0": {one(1, 0), false}, "Labour -1": {one(1, -1), false}, "Labour 1001": {one(1, 1001), false},
		"the last one wrong": {append(scales(), api.Measure{}), false}, "the first one wrong": {append([]api.Measure{{}}, scales()...), false},
		"the greatest": {one(math.MaxInt, math.MaxInt), false}, "the least": {one(math.MinInt, math.MinInt), false},
	} {
		want := api.OK
		if !x.ok {
			want = api.ErrMeasures
		}
		errs(t, name, pledge.CheckMeasures(x.m), want)
		if x.ok {
			continue
		}
		for _, reads := range [][]int{nil, {-2}, repeated(len(x.m), 1)} {
			for _, l := range [][]api.Fake{nil, {{}}, make([]api.Fake, 11)} {
				for f, e := range all(t, x.m, reads, l) {
					errs(t, f+" with wrong measures: "+name, e, want)
				}
			}
		}
		_, e := narrowed(t, x.m, make([][]int, 17))
		errs(t, "Narrow of 17 sessions with wrong measures: "+name, e, want)
		set, e := pledge.Shows(x.m, nil, nil, []int{-1})
		errs(t, "Shows with a wrong set and wrong measures: "+name, e, want)
		n, e := pledge.Bound(x.m, nil, nil, []int{-1})
		errs(t, "Bound with wrong prices and wrong measures: "+name, e, want)
		if set || n != 0 {
			t.Errorf("results with wrong measures: %v, %d", set, n)
		}
	}
}

// P1.4: readings, at the limits and one beyond; their error is before that of fakes
func TestReadings(t *testing.T) {
	for _, x := range []struct {
		reads []int
		ok    bool
	}{
		{nil, false}, {[]int{}, false}, {[]int{1}, false}, {[]int{1, 2, 3}, false}, {[]int{0, 0}, true}, {[]int{-1, -1}, true}, {[]int{100000, 100000}, true},
		{[]int{-2, 0}, false}, {[]int{0, -2}, false}, {[]int{100001, 0}, false}, {[]int{0, 100001}, false}, {[]int{0, math.MinInt}, false}, {[]int{math.MaxInt, 0}, false}, {make([]int, 1<<16), false},
	} {
		want := api.OK
		if !x.ok {
			want = api.ErrReadings
		}
		for f, e := range all(t, scales(), x.reads, nil) {
			if f == "Finds" && x.ok { // no fake at all is none
				errs(t, f, e, api.ErrFakes)
			} else {
				errs(t, f+" of readings", e, want)
			}
		}
		if is, e := pledge.Agree(scales(), taken(), x.reads); e != want || is && !x.ok {
			t.Errorf("Agree with the returned ones %v: %v, %d", x.reads, is, e)
		}
		if is, e := pledge.Agree(scales(), x.reads, taken()); e != want || is && !x.ok {
			t.Errorf("Agree of the taken ones %v: %v, %d", x.reads, is, e)
		}
		if x.ok {
			continue
		}
		for f, e := range all(t, scales(), x.reads, []api.Fake{{}}) {
			errs(t, f+" of wrong readings and fakes", e, want)
		}
		_, e := narrowed(t, scales(), [][]int{{0, 0}, {9, 9}, x.reads}) // before ErrClash
		errs(t, "Narrow of wrong readings that clash", e, want)
		_, e = pledge.Shows(scales(), x.reads, nil, []int{-1})
		errs(t, "Shows with a wrong set and wrong readings", e, want)
		_, e = pledge.Bound(scales(), x.reads, nil, []int{-1})
		errs(t, "Bound with wrong prices and wrong readings", e, want)
	}
}

// P1.5: spans, and where they end
func TestNarrow(t *testing.T) {
	span := func(ends ...int) []api.Span { return fake(ends...).Has }
	sixteen := slices.Repeat([][]int{{100, 1000}}, 16)
	for i, x := range []struct {
		reads [][]int
		want  []api.Span
		e     api.Errno
	}{
		{[][]int{{100, 1000}, {103, -1}}, span(101, 102, 995, 1005), api.OK},
		{nil, span(0, 100000, 0, 100000), api.OK},
		{[][]int{}, span(0, 100000, 0, 100000), api.OK},
		{[][]int{{-1, -1}, {-1, -1}}, span(0, 100000, 0, 100000), api.OK},
		{[][]int{{0, 100000}}, span(0, 2, 99995, 100000), api.OK},
		{[][]int{{1, 99999}}, span(0, 3, 99994, 100000), api.OK},
		{[][]int{{2, 99995}}, span(0, 4, 99990, 100000), api.OK},
		{[][]int{{3, 99994}}, span(1, 5, 99989, 99999), api.OK},
		{[][]int{{100, 1000}, {104, 990}}, span(102, 102, 995, 995), api.OK},
		{[][]int{{100, -1}, {105, -1}}, nil, api.ErrClash},
		{[][]int{{-1, 1000}, {-1, 989}}, nil, api.ErrClash},
		{[][]int{{100, 1000}, {102, 1000}, {99, 1000}, {103, 1000}}, span(101, 101, 995, 1005), api.OK},
		{[][]int{{100, 1000}, {103, 1000}, {98, 1000}}, nil, api.ErrClash},
		{sixteen, span(98, 102, 995, 1005), api.OK},
		{append(slices.Clone(sixteen), []int{100, 1000}), nil, api.ErrLimit},
		{append(slices.Clone(sixteen), []int{-2, 1000}), nil, api.ErrLimit},
		{make([][]int, 16), nil, api.ErrReadings},
		{make([][]int, 17), nil, api.ErrLimit},
		{make([][]int, 1<<16), nil, api.ErrLimit},
		{append(slices.Clone(sixteen[:15]), []int{105, 1000}), nil, api.ErrClash},
		{append(slices.Clone(sixteen[:15]), []int{105, -2}), nil, api.ErrReadings},
	} {
		if l, e := narrowed(t, scales(), x.reads); !slices.Equal(l, x.want) || e != x.e {
			t.Errorf("Narrow %d: %v, %d", i, l, e)
		}
	}
	exact := []api.Measure{{Tol: 0, Labour: 1}}
	if l, e := narrowed(t, exact, [][]int{{7}, {7}}); !slices.Equal(l, span(7, 7)) || e != api.OK {
		t.Errorf("Narrow of exact readings: %v, %d", l, e)
	}
	_, e := narrowed(t, exact, [][]int{{7}, {8}})
	errs(t, "Narrow of exact readings that differ", e, api.ErrClash)
	if l, e := narrowed(t, measures(8), [][]int{repeated(8, 50)}); e != api.OK || l[7] != (api.Span{Min: 43, Max: 57}) || l[0] != (api.Span{Min: 50, Max: 50}) {
		t.Errorf("Narrow of 8 measures: %v, %d", l, e)
	}
}

// P1.6: at most twice the tolerance, in both directions, for each measure
func TestAgree(t *testing.T) {
	for i, x := range []struct {
		a, b []int
		is   bool
	}{
		{taken(), []int{104, 1010}, true}, {taken(), []int{105, 1000}, false}, {taken(), []int{96, 990}, true}, {taken(), []int{95, 1000}, false}, {taken(), []int{100, 1011}, false}, {taken(), []int{100, 989}, false},
		{taken(), []int{-1, 990}, true}, {taken(), []int{-1, 989}, false}, {taken(), []int{104, -1}, true}, {taken(), []int{105, -1}, false}, {taken(), []int{-1, -1}, true},
		{[]int{-1, -1}, []int{-1, -1}, true}, {[]int{-1, -1}, []int{0, 100000}, true}, {[]int{-1, 5}, []int{5, -1}, true}, {[]int{-1, 0}, []int{100000, 10}, true}, {[]int{-1, 0}, []int{100000, 11}, false},
		{[]int{0, 0}, []int{4, 0}, true}, {[]int{0, 0}, []int{100000, 0}, false}, {[]int{0, 100000}, []int{-1, 0}, false}, {[]int{4, 0}, []int{-1, -1}, true},
	} {
		for j, l := range [][2][]int{{x.a, x.b}, {x.b, x.a}} {
			if is, e := pledge.Agree(scales(), l[0], l[1]); is != x.is || e != api.OK {
				t.Errorf("Agree %d, %d: %v, %d", i, j, is, e)
			}
		}
	}
	if is, e := pledge.Agree([]api.Measure{{Tol: 0, Labour: 1}}, []int{7}, []int{8}); is || e != api.OK {
		t.Errorf("Agree of exact readings: %v, %d", is, e)
	}
	if is, e := pledge.Agree([]api.Measure{{Tol: 1000, Labour: 1}}, []int{0}, []int{2000}); !is || e != api.OK {
		t.Errorf("Agree of coarse readings: %v, %d", is, e)
	}
}

// someMeasures are random measures.
func someMeasures(r *rand.Rand, n, tol, labour int) []api.Measure {
	var m []api.Measure
	for range n {
		m = append(m, api.Measure{Tol: r.IntN(tol + 1), Labour: 1 + r.IntN(labour)})
	}
	return m
}

// read is a random reading that is true of a size.
func read(r *rand.Rand, size, tol int) int {
	return min(max(size+r.IntN(2*tol+1)-tol, 0), api.MaxSize)
}

// reads are random readings that are true of sizes; some are not taken.
func reads(r *rand.Rand, m []api.Measure, sizes []int) []int {
	var l []int
	for i, x := range m {
		if r.IntN(5) == 0 {
			l = append(l, -1)
		} else {
			l = append(l, read(r, sizes[i], x.Tol))
		}
	}
	return l
}

// P1.11: true readings agree, and the sizes lie in the spans, whose ends are such that all readings are true of them
func TestTrueReadings(t *testing.T) {
	r := random(7)
	for range 3000 {
		m := someMeasures(r, 1+r.IntN(8), []int{0, 3, 1000}[r.IntN(3)], 9)
		var sizes []int
		for range m {
			sizes = append(sizes, []int{r.IntN(20), r.IntN(100001), 100000 - r.IntN(20)}[r.IntN(3)])
		}
		var sessions [][]int
		for range r.IntN(17) {
			sessions = append(sessions, reads(r, m, sizes))
		}
		for _, a := range sessions {
			for _, b := range sessions {
				if is, e := pledge.Agree(m, a, b); !is || e != api.OK {
					t.Fatalf("%v and %v do not agree (%v): %d", a, b, m, e)
				}
			}
		}
		spans, e := narrowed(t, m, sessions)
		if e != api.OK || len(spans) != len(m) {
			t.Fatalf("Narrow of true readings: %v, %d", spans, e)
		}
		for i, s := range spans {
			if sizes[i] < s.Min || sizes[i] > s.Max {
				t.Fatalf("%d is not from %d to %d", sizes[i], s.Min, s.Max)
			}
			for size, want := range map[int]bool{s.Min: true, s.Max: true, s.Min - 1: false, s.Max + 1: false} {
				if possible(m[i], sessions, i, size) != want {
					t.Fatalf("the size %d and the span %v", size, s)
				}
			}
		}
	}
}

// possible reports whether all readings are true of a size.
func possible(x api.Measure, sessions [][]int, i, size int) bool {
	for _, l := range sessions {
		if l[i] != -1 && (l[i]-size > x.Tol || size-l[i] > x.Tol) {
			return false
		}
	}
	return 0 <= size && size <= 100000
}
