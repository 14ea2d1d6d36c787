package fund_test

import (
	"slices"
	"testing"

	"lombard/api"
	"lombard/fund"
)

// P9.1: the examples of the document, lists longer than Begin, ways that are longer but need less time, ways there and back, several ways between the same groups, and the latest start
func TestStarts(t *testing.T) {
	var chain []api.Spread
	for i := range 7 {
		chain = append(chain, way(6-i, 7-i, 12))
	}
	for i, x := range []struct {
		f            api.Fund
		begins, want []int
	}{
		{example(50), []int{0}, []int{0, 1, 1}},
		{example(50), []int{1}, []int{-1, 0, 0}},
		{example(50), []int{2}, []int{-1, -1, 0}},
		{example(50), nil, []int{-1, -1, -1}},
		{example(50), []int{0, 2}, []int{0, 1, 0}},
		{example(50), []int{0, 1, 2}, []int{0, 0, 0}},
		{changed(func(f *api.Fund) { f.Begin = 0 }), []int{0, 1}, []int{0, 0, 0}},
		{plain(1), nil, nil},
		{web(1), []int{0}, []int{0}},
		{web(2, way(0, 1, 0)), []int{0}, []int{0, 0}},
		{web(2, way(1, 0, 0)), []int{0}, []int{0, -1}},
		{web(2, way(0, 1, 5), way(0, 1, 3), way(0, 1, 4)), []int{0}, []int{0, 3}},
		{web(2, way(0, 1, 5), way(1, 0, 5)), []int{0}, []int{0, 5}},
		{web(3, way(0, 2, 9), way(0, 1, 4), way(1, 2, 4)), []int{0}, []int{0, 4, 8}},
		{web(3, way(0, 2, 8), way(0, 1, 4), way(1, 2, 5)), []int{0}, []int{0, 4, 8}},
		{web(3, way(1, 2, 4), way(2, 0, 3)), []int{1}, []int{7, 0, 4}},
		{web(4, way(0, 3, 7), way(2, 3, 2)), []int{0, 2}, []int{0, -1, 0, 2}},
		{web(4, way(0, 1, 1), way(2, 3, 1)), []int{0}, []int{0, 1, -1, -1}}, // from where nobody comes nobody goes on
		{web(8, chain...), []int{0}, []int{0, 12, 24, 36, 48, 60, 72, 84}},
		{web(8, chain...), []int{7}, []int{-1, -1, -1, -1, -1, -1, -1, 0}},
		{web(8, chain...), counted(0, 8), row(8, 0)},
		{limits(), []int{0, 3}, []int{0, -1, -1, 0, -1, -1, -1, 12}},
	} {
		if l := started(t, x.f, x.begins); !slices.Equal(l, x.want) {
			t.Errorf("Starts %d: %v, want %v", i, l, x.want)
		}
	}
}

// wrongBegins are no strictly increasing lists of indices of three groups.
func wrongBegins() [][]int {
	l := [][]int{{1, 0}, {0, 0}, {2, 2}, {0, 2, 1}, {0, 1, 1}, {0, 1, 2, 3}, {2, 1, 0}, row(1000, 0)}
	for _, n := range beyond(0, 2) {
		l = append(l, []int{n}, []int{0, n}, []int{n, 1}, []int{0, 1, n})
	}
	return l
}

// P9.1: what are no groups with which a run begins
func TestStartsErrors(t *testing.T) {
	for _, begins := range wrongBegins() {
		if l, e := fund.Starts(example(50), begins); len(l) > 0 || e != api.ErrBegins {
			t.Errorf("Starts(%v): %v, error %d", begins, l, e)
		}
	}
	for _, f := range []api.Fund{plain(1), plain(12)} {
		if l, e := fund.Starts(f, []int{0}); len(l) > 0 || e != api.ErrBegins {
			t.Errorf("Starts without groups: %v, error %d", l, e)
		}
	}
}

// P9.1: the starts that are found by following all ways
func TestStartsSlowly(t *testing.T) {
	r := random(1)
	late := 0
	for range 3000 {
		f := web(1 + r.IntN(8))
		if many := len(f.Groups); many > 1 {
			for range r.IntN(25) {
				from := r.IntN(many)
				f.Ways = append(f.Ways, way(from, (from+1+r.IntN(many-1))%many, r.IntN(1+r.IntN(13))))
			}
		}
		begins := someBegins(r, f, 1+r.IntN(3))
		l, want := started(t, f, begins), slowStarts(f, begins)
		if !slices.Equal(l, want) {
			t.Fatalf("Starts(%v, %v): %v, want %v", f, begins, l, want)
		}
		if slices.Max(l) > 2 {
			late++
		}
	}
	if late < 500 {
		t.Errorf("only %d runs spread", late)
	}
}

// P9.1: the runs of the document, and edges: what is taken on the first day, up to Limit, and up to Sum
func TestAllowed(t *testing.T) {
	two := func(f *api.Fund) { f.Begin = 2 }
	for i, x := range []struct {
		f  api.Fund
		r  api.Run
		is bool
	}{
		{example(50), greedy(), true},
		{example(50), run(nil, row(3, 0), row(3, 0), row(3, 0)), true},
		{example(50), run([]int{2}, row(3, 0), row(3, 0), row(3, 0)), true},
		{example(50), run([]int{0, 1}, greedy().Out...), false}, // Begin is 1
		{changed(two), run([]int{0, 1}, greedy().Out...), true},
		{changed(two), run([]int{0, 1, 2}, greedy().Out...), false},
		{changed(func(f *api.Fund) { f.Begin = 3 }), run([]int{0, 1, 2}, greedy().Out...), true},
		{changed(func(f *api.Fund) { f.Begin = 0 }), greedy(), false},
		{example(50), run(nil, greedy().Out...), false},
		{example(50), run([]int{0}, []int{41, 0, 0}, row(3, 0), row(3, 0)), false},
		{example(50), run([]int{0}, []int{40, 21, 0}, row(3, 0), row(3, 0)), false},
		{example(50), run([]int{0}, []int{0, 20, 40}, row(3, 0), row(3, 0)), true},
		{example(50), run([]int{0}, []int{1, 20, 40}, row(3, 0), row(3, 0)), false},
		{example(50), run([]int{0}, []int{-1, 20, 40}, row(3, 0), row(3, 0)), false},
		{example(50), run([]int{0}, row(3, 0), []int{0, 0, 30}, row(3, 0)), true},
		{example(50), run([]int{0}, row(3, 0), []int{0, 0, 31}, row(3, 0)), false},
		{example(50), run([]int{0}, row(3, 0), []int{0, 1, 0}, row(3, 0)), false}, // its start is 1, and its notice
		{example(50), run([]int{1}, row(3, 0), []int{0, 1, 0}, row(3, 0)), true},
		{example(50), run([]int{1}, row(3, 0), []int{1, 0, 0}, row(3, 0)), false},
		{example(50), run([]int{0}, row(3, 0), row(3, 0), []int{1, 0, 0}), false},
		{example(50), run([]int{0}, row(3, 0), row(3, 0), []int{0, 1, 19}), true},
		{example(50), run([]int{0}, row(3, 0), row(3, 0), []int{0, 1, 20}), false},
		{example(50), run([]int{1}, []int{0, 0, 1}, row(3, 0), row(3, 0)), false}, // it has no start
		{example(50), run([]int{2}, row(3, 0), []int{0, 0, 1}, row(3, 0)), false},
		{plain(2), api.Run{}, true},
		{plain(2), run([]int{}, [][]int{}...), true},
		{plain(2), run([]int{0}), false},
		{plain(2), run(nil, row(2, 0)), false},
		{changed(func(f *api.Fund) { f.Groups[0].Limit = 0 }), run([]int{0}, []int{0, 0, 1}, row(3, 0), row(3, 0)), false},
		{changed(func(f *api.Fund) { f.Groups[0].Sum = 0 }), run([]int{0}, []int{0, 0, 1}, row(3, 0), row(3, 0)), false},
	} {
		if is := allowed(t, x.f, x.r); is != x.is {
			t.Errorf("Allowed %d, of %v: %v", i, x.r, is)
		}
	}
}

// wrongRuns are no allowed runs of the fund of the document.
func wrongRuns() []api.Run {
	zeros := [][]int{row(3, 0), row(3, 0), row(3, 0)}
	l := []api.Run{{}, run([]int{0}), run([]int{0}, zeros[:2]...), run([]int{0}, append(zeros, row(3, 0))...), run([]int{0, 1}, zeros...)}
	for _, begins := range wrongBegins() {
		l = append(l, run(begins, zeros...))
	}
	for i := range 3 {
		for _, days := range []int{0, 2, 4} {
			r := greedy()
			r.Out[i] = row(days, 0)
			l = append(l, r)
		}
		for _, n := range beyond(0, []int{40, 30, 20}[i]) {
			r := greedy()
			r.Out[i][2] = n
			l = append(l, r)
		}
		r := greedy()
		r.Out[i] = row(3, 1<<62)
		l = append(l, r)
	}
	return l
}

// P9.1: what is no allowed run, also with numbers whose sum is none
func TestNotAllowed(t *testing.T) {
	for _, r := range wrongRuns() {
		if allowed(t, example(50), r) {
			t.Errorf("Allowed: %v", r)
		}
	}
	f := limits()
	f.Groups = slices.Repeat([]api.Group{group(1<<30, 1<<30, 0)}, 8)
	r := run(counted(0, 8), slices.Repeat([][]int{append(row(11, 0), 1<<30)}, 8)...)
	if !allowed(t, f, r) {
		t.Errorf("Allowed: not %v", r)
	}
	r.Out[3] = append([]int{1}, r.Out[3][1:]...)
	if allowed(t, f, r) {
		t.Errorf("Allowed: %v", r)
	}
}

// P9.1: runs that are allowed, and such in which something is changed
func TestAllowedSlowly(t *testing.T) {
	r := random(2)
	counts := map[bool]int{}
	for range 3000 {
		f := someFund(r, small)
		x := someRun(r, f)
		if !allowed(t, f, x) {
			t.Fatalf("Allowed(%v, %v): false", f, x)
		}
		if r.IntN(2) == 0 {
			x.Begins = someBegins(r, f, len(f.Groups))
		}
		if len(x.Out) > 0 {
			out := x.Out[r.IntN(len(x.Out))]
			out[r.IntN(len(out))] += r.IntN(4) - 1
		}
		is := allowed(t, f, x)
		if is != slowAllowed(f, x) {
			t.Fatalf("Allowed(%v, %v): %v", f, x, is)
		}
		counts[is]++
	}
	if counts[true] < 500 || counts[false] < 500 {
		t.Errorf("only %v", counts)
	}
}
