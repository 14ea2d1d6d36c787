package fund_test

import (
	"slices"
	"testing"

	"lombard/api"
	"lombard/fund"
)

// P9.3: runs of the fund of the document, cash that is less than 0 and becomes more again, and the greatest numbers
func TestFollow(t *testing.T) {
	least, most := []int{10, 10, 10}, []int{20, 20, 20}
	low, high := []int{8, 10, 5}, []int{9, 12, 6}
	nobody := run(nil, row(3, 0), row(3, 0), row(3, 0))
	for i, x := range []struct {
		plan, in, prices []int
		r                api.Run
		want             []int
	}{
		{[]int{2, 2, 0}, least, low, greedy(), []int{36, 26, -24}},
		{[]int{0, 0, 0}, most, high, greedy(), []int{30, 10, -30}},
		{[]int{0, 2, 2}, []int{20, 10, 10}, high, run([]int{0}, []int{40, 20, 0}, []int{0, 0, 16}, []int{0, 20, 0}), []int{30, 24, 0}},
		{[]int{2, 0, 2}, least, high, nobody, []int{78, 88, 80}},
		{[]int{1, 0, 0}, []int{11, 12, 13}, []int{9, 11, 5}, nobody, []int{70, 82, 65}},
		{[]int{0, 1, 0}, []int{11, 12, 13}, []int{9, 11, 5}, nobody, []int{61, 84, 67}},
		{[]int{0, 0, 1}, []int{11, 12, 13}, []int{9, 11, 5}, nobody, []int{61, 73, 61}},
	} {
		if l := followed(t, example(50), x.plan, x.r, x.in, x.prices); !slices.Equal(l, x.want) {
			t.Errorf("Follow %d: %v, want %v", i, l, x.want)
		}
	}
	f := sales([]int{50, 0, 0}, []int{0, 1, 0}, []int{9, 9, 9}, 1)
	f.In[2].Max = 60
	if l := followed(t, f, []int{0, 1, 0}, api.Run{}, []int{0, 0, 60}, []int{9, 14, 9}); !slices.Equal(l, []int{-50, -36, 24}) {
		t.Errorf("Follow: %v", l)
	}
	f = limits()
	f.Groups = slices.Repeat([]api.Group{group(1<<30, 1<<30, 0)}, 8)
	r := run(counted(0, 8), slices.Repeat([][]int{append(row(11, 0), 1<<30)}, 8)...)
	want := append(row(11, 1<<40+1<<26), 1<<40+1<<26-1<<33)
	if l := followed(t, f, append([]int{64}, row(11, 0)...), r, row(12, 1<<30), row(12, 1<<20)); !slices.Equal(l, want) {
		t.Errorf("Follow: %v, want %v", l, want)
	}
	f.Cash, f.In = 0, make([]api.Span, 12)
	want = nil
	for day := range 12 {
		want = append(want, -(day+1)<<30)
	}
	want[11] -= 1 << 33
	if l := followed(t, f, row(12, 0), r, row(12, 0), row(12, 1<<20)); !slices.Equal(l, want) {
		t.Errorf("Follow: %v, want %v", l, want)
	}
}

// P9.3: Follow adds what comes in, and takes away what goes
func TestFollowSlowly(t *testing.T) {
	r := random(5)
	for range 3000 {
		f := someFund(r, small)
		plan, x, in, prices := somePlan(r, f), someRun(r, f), someWithin(r, f.In), someWithin(r, f.Prices)
		if l, want := followed(t, f, plan, x, in, prices), slowFollow(f, plan, x, in, prices); !slices.Equal(l, want) {
			t.Fatalf("Follow(%v, %v, %v, %v, %v): %v, want %v", f, plan, x, in, prices, l, want)
		}
	}
}

// wrongPlans are no plans of the fund of the document.
func wrongPlans() [][]int {
	l := [][]int{nil, {}, {0}, {0, 0}, {0, 0, 0, 0}, {2, 2, 1}, {1, 2, 2}, {2, 1, 2}, {2, 2, 2}, row(1000, 0), {-1, 2, 2}, row(3, 1<<62)}
	for _, n := range beyond(0, 2) {
		l = append(l, []int{n, 0, 0}, []int{0, n, 0}, []int{0, 0, n}, []int{n, n, n})
	}
	return l
}

// wrongFlows are not within these spans of three days.
func wrongFlows(s []api.Span) [][]int {
	fine := leastOf(s)
	l := [][]int{nil, {}, fine[:2], append(slices.Clone(fine), 0), append(slices.Clone(fine), fine[0])}
	for day := range s {
		for _, n := range beyond(s[day].Min, s[day].Max) {
			in := slices.Clone(fine)
			in[day] = n
			l = append(l, in)
		}
	}
	return l
}

// P9.3: a wrong plan comes before a run that is not allowed, and that before inflows and prices that are not within their spans
func TestFollowErrors(t *testing.T) {
	f := example(50)
	in, prices := leastOf(f.In), leastOf(f.Prices)
	check := func(plan []int, r api.Run, in, prices []int, want api.Errno) {
		t.Helper()
		if l, e := fund.Follow(f, plan, r, in, prices); len(l) > 0 || e != want {
			t.Errorf("Follow(%v, %v, %v, %v): %v, error %d, want %d", plan, r, in, prices, l, e, want)
		}
	}
	for _, plan := range wrongPlans() {
		check(plan, greedy(), in, prices, api.ErrSales)
		check(plan, api.Run{}, in, prices, api.ErrSales)
		check(plan, greedy(), nil, nil, api.ErrSales)
		check(plan, api.Run{}, nil, nil, api.ErrSales)
	}
	for _, r := range wrongRuns() {
		check(row(3, 0), r, in, prices, api.ErrRun)
		check(row(3, 0), r, nil, prices, api.ErrRun)
		check(row(3, 0), r, in, []int{8, 13, 5}, api.ErrRun)
	}
	for _, l := range wrongFlows(f.In) {
		check(row(3, 0), greedy(), l, prices, api.ErrFlows)
	}
	for _, l := range wrongFlows(f.Prices) {
		check(row(3, 0), greedy(), in, l, api.ErrFlows) // also of a day on which no bar is sold
		check([]int{2, 2, 0}, greedy(), nil, l, api.ErrFlows)
	}
}
