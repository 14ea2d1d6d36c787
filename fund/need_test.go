package fund_test

import (
	"slices"
	"testing"

	"lombard/api"
	"lombard/fund"
)

// P9.2: the example of the document, and edges: no run, no groups, needs that become less again, groups that are worst by different days, and the greatest numbers
func TestNeeds(t *testing.T) {
	for i, x := range []struct {
		f    api.Fund
		want []int
	}{
		{example(50), []int{-20, 10, 60}},
		{example(0), []int{30, 60, 110}},
		{example(1 << 40), []int{30 - 1<<40, 60 - 1<<40, 110 - 1<<40}},
		{changed(func(f *api.Fund) { f.Begin = 0 }), []int{-60, -70, -50}},
		{changed(func(f *api.Fund) { f.Groups, f.Ways, f.Begin = nil, nil, 0 }), []int{-60, -70, -50}},
		{changed(func(f *api.Fund) { f.Begin = 2 }), []int{0, 40, 90}},              // 60, 110 and 140 are taken
		{changed(func(f *api.Fund) { f.Ways = nil }), []int{-20, -10, 10}},          // 40, 60 and 60
		{changed(func(f *api.Fund) { f.Groups[1].Notice = 0 }), []int{-10, 40, 90}}, // 50, 110 and 140: from 1 on; from 0 on; from 0 on
		{changed(func(f *api.Fund) { f.In[0] = api.Span{Min: 25, Max: 100} }), []int{-35, -5, 45}},
		{changed(func(f *api.Fund) { f.Sell, f.Bars = row(3, 0), 0 }), []int{-20, 10, 60}},
		{changed(func(f *api.Fund) { f.Prices = make([]api.Span, 3) }), []int{-20, 10, 60}},
		{sales([]int{5, 0, 7}, row(3, 0), nil, 0), []int{5, 5, 12}},
		{plain(12), row(12, 0)},
	} {
		if l := needed(t, x.f); !slices.Equal(l, x.want) {
			t.Errorf("Needs %d: %v, want %v", i, l, x.want)
		}
	}
	f, want := limits(), []int(nil)
	f.Cash, f.In = 0, make([]api.Span, 12)
	for day := range 12 {
		want = append(want, (day+1)<<30)
	}
	if l := needed(t, f); !slices.Equal(l, want) { // with a notice of 12 nobody can take anything
		t.Errorf("Needs: %v, want %v", l, want)
	}
	for i := range f.Groups {
		f.Groups[i].Notice = 11
	}
	want[11] += 8 << 30
	if l := needed(t, f); !slices.Equal(l, want) {
		t.Errorf("Needs: %v, want %v", l, want)
	}
}

// P9.2: the needs by all allowed runs of tiny funds, and by all groups with which a run may begin of greater ones
func TestNeedsSlowly(t *testing.T) {
	r := random(3)
	for range 150 {
		f := someFund(r, tiny)
		want := row(len(f.In), -1<<60)
		slowRuns(f, func(x api.Run) {
			least := f.Cash
			for day := range f.In {
				least += f.In[day].Min - f.Bonds[day]
				want[day] = max(want[day], takenBy(x, day)-least)
			}
		})
		if l := needed(t, f); !slices.Equal(l, want) {
			t.Fatalf("Needs(%v): %v, want %v", f, l, want)
		}
	}
	for _, s := range []size{small, great} {
		for range 200 {
			f := someFund(r, s)
			if l, want := needed(t, f), slowNeeds(f); !slices.Equal(l, want) {
				t.Fatalf("Needs(%v): %v, want %v", f, l, want)
			}
		}
	}
}

// P9.2: the examples of the document, and of several lists the first one: a beginning before the whole, but lesser groups before fewer ones
func TestWorst(t *testing.T) {
	begin := func(n int, groups ...api.Group) api.Fund {
		f := plain(3)
		f.Groups, f.Begin = groups, n
		return f
	}
	ways := func(f api.Fund, l ...api.Spread) api.Fund {
		f.Ways = l
		return f
	}
	none, five, ten := group(0, 5, 0), group(9, 5, 0), group(10, 10, 0)
	for i, x := range []struct {
		f    api.Fund
		day  int
		want []int
		sum  int
	}{
		{example(50), 0, []int{0}, 40},
		{example(50), 1, []int{0}, 80},
		{example(50), 2, []int{0}, 110},
		{changed(func(f *api.Fund) { f.Begin = 0 }), 2, nil, 0},
		{changed(func(f *api.Fund) { f.Begin = 2 }), 0, []int{0, 1}, 60},
		{changed(func(f *api.Fund) { f.Begin = 2 }), 1, []int{0, 1}, 110},
		{changed(func(f *api.Fund) { f.Begin = 3 }), 1, []int{0, 1}, 110},
		{changed(func(f *api.Fund) { f.Groups[1].Notice = 0 }), 0, []int{1}, 50},
		{plain(1), 0, nil, 0},
		{plain(12), 11, nil, 0},
		{begin(2, none, none), 2, nil, 0},                  // nothing is taken: the empty list comes first
		{begin(1, none, five), 0, []int{1}, 5},             // one group alone
		{begin(2, none, five), 0, []int{0, 1}, 5},          // 0 1 comes before 1
		{begin(3, none, five, none), 0, []int{0, 1}, 5},    // and before 0 1 2
		{begin(3, none, none, five), 0, []int{0, 1, 2}, 5}, // the whole list comes first
		{begin(2, none, none, five), 0, []int{0, 2}, 5},    // 1 2 comes later
		{begin(1, five, five, five), 0, []int{0}, 5},       // of equal ones the first
		{begin(2, five, five, five), 0, []int{0, 1}, 10},
		{begin(2, five, ten, five), 0, []int{0, 1}, 15},
		{begin(2, five, five, ten), 0, []int{0, 2}, 15},
		{begin(1, five, ten), 2, []int{1}, 10},
		{begin(1, group(30, 4, 0), ten), 1, []int{1}, 10}, // by the days 1 and 2 others are worst
		{begin(1, group(30, 4, 0), ten), 2, []int{0}, 12},
		{begin(1, group(30, 9, 1), ten), 1, []int{1}, 10}, // a notice
		{begin(1, group(30, 9, 1), ten), 2, []int{0}, 18},
		{begin(1, group(30, 9, 3), group(1, 1, 2)), 2, []int{1}, 1}, // a notice for all the time
		{ways(begin(2, five, ten), way(0, 1, 0)), 0, []int{0}, 15},  // 0 brings 1 with it: 0 1 is longer
		{ways(begin(2, five, ten), way(1, 0, 0)), 0, []int{0, 1}, 15},
		{ways(begin(1, five, ten), way(1, 0, 0)), 0, []int{1}, 15},
		{ways(begin(2, five, ten), way(0, 1, 2)), 2, []int{0}, 19},
		{ways(begin(2, five, ten), way(0, 1, 3)), 2, []int{0, 1}, 19},
	} {
		if l, n := worst(t, x.f, x.day); !slices.Equal(l, x.want) || n != x.sum {
			t.Errorf("Worst %d: %v, %d, want %v, %d", i, l, n, x.want, x.sum)
		}
	}
}

// P9.2: what is no day
func TestDays(t *testing.T) {
	for _, f := range []api.Fund{example(50), plain(1), plain(12)} {
		for _, day := range beyond(0, len(f.In)-1) {
			if l, n, e := fund.Worst(f, day); len(l) > 0 || n != 0 || e != api.ErrRange {
				t.Errorf("Worst(%v, %d): %v, %d, error %d", f, day, l, n, e)
			}
			if r, e := fund.Example(f, day); len(r.Begins) > 0 || len(r.Out) > 0 || e != api.ErrRange {
				t.Errorf("Example(%v, %d): %v, error %d", f, day, r, e)
			}
		}
	}
}

// P9.2: the first one of all lists of groups in which most is taken, and a run in which so much is
func TestWorstSlowly(t *testing.T) {
	r := random(4)
	several := 0
	for i := range 2000 {
		f := someFund(r, []size{small, small, small, small, great}[i%5])
		day := r.IntN(len(f.In))
		l, n := worst(t, f, day)
		want, sum := slowWorst(f, day)
		if !slices.Equal(l, want) || n != sum {
			t.Fatalf("Worst(%v, %d): %v, %d, want %v, %d", f, day, l, n, want, sum)
		}
		x := exampled(t, f, day)
		if !slowAllowed(f, x) || !allowed(t, f, x) || takenBy(x, day) != sum {
			t.Fatalf("Example(%v, %d): %v, want %d", f, day, x, sum)
		}
		if len(l) > 1 {
			several++
		}
	}
	if several < 200 {
		t.Errorf("only %d times several groups begin", several)
	}
}

// P9.2: runs of the fund of the document, of no groups, and of groups that take nothing
func TestExample(t *testing.T) {
	nobody := changed(func(f *api.Fund) { f.Begin = 0 })
	for _, f := range []api.Fund{example(50), nobody, plain(1), plain(12), web(8), limits()} {
		for day := range f.In {
			x := exampled(t, f, day)
			if _, n := slowWorst(f, day); !slowAllowed(f, x) || takenBy(x, day) != n {
				t.Errorf("Example(%v, %d): %v, want %d", f, day, x, n)
			}
		}
	}
}
