package fund_test

import (
	"slices"
	"testing"

	"lombard/api"
	"lombard/fund"
)

// P9.3: the examples of the document, plans that bring just enough, or bring it too late, and prices that are not the least ones
func TestSound(t *testing.T) {
	for i, x := range []struct {
		f    api.Fund
		plan []int
		is   bool
	}{
		{example(50), []int{2, 2, 0}, false},
		{example(50), []int{0, 2, 2}, false},
		{example(74), []int{2, 2, 0}, true},
		{example(73), []int{2, 2, 0}, false},
		{example(80), []int{0, 2, 2}, true}, // they bring 20 and 10
		{example(79), []int{0, 2, 2}, false},
		{example(60), []int{0, 2, 2}, false},
		{example(110), row(3, 0), true},
		{example(109), row(3, 0), false},
		{example(109), []int{0, 0, 1}, true},
		{sales([]int{7, 0, 0}, row(3, 2), []int{7, 7, 7}, 2), []int{1, 0, 0}, true},
		{sales([]int{7, 0, 0}, row(3, 2), []int{6, 7, 7}, 2), []int{1, 0, 0}, false},
		{sales([]int{7, 0, 0}, row(3, 2), []int{7, 7, 7}, 2), []int{0, 2, 0}, false}, // too late
		{sales([]int{0, 7, 0}, row(3, 2), []int{7, 7, 7}, 2), []int{1, 0, 0}, true},
		{sales([]int{0, 7, 0}, row(3, 2), []int{7, 7, 7}, 2), []int{0, 1, 0}, true},
		{sales([]int{0, 7, 0}, row(3, 2), []int{7, 7, 7}, 2), []int{0, 0, 2}, false},
		{sales([]int{0, 0, 7}, row(3, 2), []int{7, 7, 7}, 2), []int{0, 0, 1}, true},
		{sales([]int{0, 0, 15}, row(3, 2), []int{7, 8, 7}, 2), []int{1, 1, 0}, true},
		{sales([]int{0, 0, 15}, row(3, 2), []int{7, 8, 7}, 2), []int{1, 0, 1}, false},
		{sales([]int{5, 5, 5}, row(3, 2), []int{0, 0, 0}, 2), []int{1, 1, 0}, false},
		{plain(12), row(12, 0), true},
	} {
		if is := sound(t, x.f, x.plan); is != x.is {
			t.Errorf("Sound %d, of %v: %v", i, x.plan, is)
		}
	}
}

// P9.3: what is no plan; whether it would be sound does not matter
func TestSoundErrors(t *testing.T) {
	for _, plan := range wrongPlans() {
		for _, cash := range []int{0, 50, 1 << 40} {
			if is, e := fund.Sound(example(cash), plan); is || e != api.ErrSales {
				t.Errorf("Sound(%v): %v, error %d", plan, is, e)
			}
		}
	}
	f := limits()
	for _, plan := range [][]int{append(row(11, 0), 65), append([]int{64, 1}, row(10, 0)...), row(12, 64), row(11, 0)} {
		if is, e := fund.Sound(f, plan); is || e != api.ErrSales {
			t.Errorf("Sound(%v): %v, error %d", plan, is, e)
		}
	}
	for _, plan := range [][]int{append(row(11, 0), 64), append([]int{63, 1}, row(10, 0)...), row(12, 5)} {
		if !sound(t, f, plan) {
			t.Errorf("Sound(%v): false", plan)
		}
	}
}

// P9.3: a plan is sound if the cash is never less than 0 in all allowed runs, with all inflows and prices; tried with all of them
func TestSoundInAll(t *testing.T) {
	r := random(6)
	counts := map[bool]int{}
	for range 400 {
		f := someFund(r, tiny)
		for day := range f.In {
			f.In[day].Max, f.Prices[day].Max = min(f.In[day].Max, f.In[day].Min+1), min(f.Prices[day].Max, f.Prices[day].Min+1)
		}
		plan := somePlan(r, f)
		is := sound(t, f, plan)
		if is != slowSoundInAll(f, plan) {
			t.Fatalf("Sound(%v, %v): %v", f, plan, is)
		}
		counts[is]++
	}
	if counts[true] < 80 || counts[false] < 80 {
		t.Errorf("only %v", counts)
	}
}

// P9.3: whether a plan meets the needs
func TestSoundSlowly(t *testing.T) {
	r := random(7)
	counts := map[bool]int{}
	for i := range 1500 {
		f := someFund(r, []size{small, small, small, small, great}[i%5])
		needs, plan := slowNeeds(f), somePlan(r, f)
		f.Cash += slowLack(f, needs, plan) // now it does just so
		for _, less := range []int{0, 1} {
			if f.Cash < less {
				continue
			}
			f.Cash -= less
			is := sound(t, f, plan)
			if is != (slowLack(f, slowNeeds(f), plan) == 0) {
				t.Fatalf("Sound(%v, %v): %v", f, plan, is)
			}
			counts[is]++
		}
	}
	if counts[true] < 500 || counts[false] < 500 {
		t.Errorf("only %v", counts)
	}
}

// P9.4, P9.5: the examples of the document with more and more cash, and edges
func TestLeast(t *testing.T) {
	for i, x := range []struct {
		f       api.Fund
		plan    []int // none, if no plan is sound
		bars    int
		capital int
	}{
		{example(50), nil, 0, 24},
		{example(73), nil, 0, 1},
		{example(74), []int{2, 2, 0}, 4, 0},
		{example(82), []int{1, 2, 0}, 3, 0},
		{example(90), []int{0, 2, 0}, 2, 0},
		{example(99), []int{0, 1, 1}, 2, 0},
		{example(100), []int{0, 1, 0}, 1, 0},
		{example(105), []int{0, 0, 1}, 1, 0},
		{example(109), []int{0, 0, 1}, 1, 0},
		{example(110), row(3, 0), 0, 0},
		{example(1 << 40), row(3, 0), 0, 0},
		{sales([]int{0, 0, 14}, row(3, 2), []int{7, 7, 7}, 4), []int{0, 0, 2}, 2, 0},  // the last days come first
		{sales([]int{0, 0, 15}, row(3, 1), []int{8, 7, 8}, 4), []int{0, 1, 1}, 2, 0},  // 0 1 1 before 1 0 1
		{sales([]int{0, 0, 15}, row(3, 2), []int{15, 7, 8}, 4), []int{1, 0, 0}, 1, 0}, // one bar before 0 1 1
		{sales([]int{7, 0, 7}, row(3, 2), []int{7, 7, 7}, 4), []int{1, 0, 1}, 2, 0},
		{sales([]int{7, 0, 14}, row(3, 2), []int{7, 7, 7}, 4), []int{1, 0, 2}, 3, 0},
		{sales([]int{7, 7, 7}, row(3, 2), []int{7, 7, 7}, 3), []int{1, 1, 1}, 3, 0},
		{sales([]int{7, 7, 7}, row(3, 2), []int{7, 7, 7}, 2), nil, 0, 7},
		{sales([]int{7, 7, 7}, []int{1, 1, 0}, []int{7, 7, 7}, 9), nil, 0, 7},
		{sales([]int{7, 7, 7}, []int{0, 9, 9}, []int{7, 7, 7}, 9), nil, 0, 7},
		{sales([]int{7, 0, 0}, []int{0, 9, 9}, []int{7, 7, 7}, 9), nil, 0, 7}, // all of it comes too late
		{sales([]int{10, 0, 10}, []int{1, 0, 1}, []int{7, 0, 12}, 2), nil, 0, 3},
		{sales([]int{10, 0, 20}, []int{1, 0, 1}, []int{7, 0, 12}, 2), nil, 0, 11},
		{sales([]int{0, 0, 9}, row(3, 1), []int{4, 9, 9}, 3), []int{0, 0, 1}, 1, 0},
		{sales([]int{3, 0, 10}, row(3, 2), []int{4, 6, 9}, 2), []int{1, 0, 1}, 2, 0},
		{sales([]int{3, 0, 12}, row(3, 2), []int{4, 6, 9}, 2), nil, 0, 2},
		{sales([]int{3, 0, 16}, row(3, 2), []int{4, 6, 9}, 2), nil, 0, 3}, // with 3 more no cheap bar must be sold early
		{sales([]int{5}, []int{64}, []int{1}, 64), []int{5}, 5, 0},
		{sales([]int{64}, []int{64}, []int{1}, 64), []int{64}, 64, 0},
		{sales([]int{65}, []int{64}, []int{1}, 64), nil, 0, 1},
		{sales([]int{64, 64}, []int{64, 64}, []int{1, 2}, 64), nil, 0, 32},
		{sales([]int{5}, []int{64}, []int{0}, 64), nil, 0, 5},
		{sales([]int{5}, []int{64}, []int{9}, 0), nil, 0, 5},
		{sales([]int{5}, []int{0}, []int{9}, 64), nil, 0, 5},
		{plain(1), []int{0}, 0, 0},
		{plain(12), row(12, 0), 0, 0},
	} {
		want := x.plan != nil
		if l, n, ok := leastPlan(t, x.f); !slices.Equal(l, x.plan) || n != x.bars || ok != want {
			t.Errorf("Least %d: %v, %d, %v, want %v, %d", i, l, n, ok, x.plan, x.bars)
		}
		if l, ok := planned(t, x.f); ok != want || ok && !sound(t, x.f, l) {
			t.Errorf("Plan %d: %v, %v", i, l, ok)
		}
		if n := capital(t, x.f); n != x.capital {
			t.Errorf("Capital %d: %d, want %d", i, n, x.capital)
		}
	}
}

// P9.5: as much capital as can be needed, also by what bars bring on the last day alone
func TestGreatCapital(t *testing.T) {
	f := limits()
	f.Cash, f.In, f.Groups = 0, make([]api.Span, 12), slices.Repeat([]api.Group{group(1<<30, 1<<30, 0)}, 8)
	f.Bars = 0
	if n := capital(t, f); n != 20<<30 {
		t.Errorf("Capital: %d", n)
	}
	f.Bars = 64
	if n := capital(t, f); n != 20<<30-64<<20 {
		t.Errorf("Capital: %d", n)
	}
	f.Cash = 1 << 30
	if n := capital(t, f); n != 19<<30-64<<20 {
		t.Errorf("Capital: %d", n)
	}
	f.Cash = 20<<30 - 1
	if n := capital(t, f); n != 0 {
		t.Errorf("Capital: %d", n)
	}
	if l, n, ok := leastPlan(t, f); !slices.Equal(l, append(row(11, 0), 1)) || n != 1 || !ok {
		t.Errorf("Least: %v, %d, %v", l, n, ok)
	}
}

// P9.5: the examples of the document, all groups, and funds that cannot pay even if nobody runs, whatever Begin is
func TestBears(t *testing.T) {
	begin := func(cash, n int) api.Fund {
		f := example(cash)
		f.Begin = n
		return f
	}
	poor := sales([]int{7}, []int{0}, []int{0}, 0)
	poorGroups := sales([]int{7}, []int{0}, []int{0}, 0)
	poorGroups.Groups, poorGroups.Begin = []api.Group{group(1, 1, 0)}, 1
	rich := sales([]int{7}, []int{1}, []int{7}, 1)
	idle := sales([]int{7}, []int{1}, []int{7}, 1)
	idle.Groups = slices.Repeat([]api.Group{group(1, 1, 1)}, 8) // their notice is too long
	just := sales([]int{7}, []int{2}, []int{6}, 2)
	just.Groups = slices.Repeat([]api.Group{group(1, 1, 0)}, 8)
	for i, x := range []struct {
		f    api.Fund
		want int
	}{
		{example(50), 0}, {example(73), 0}, {example(74), 1}, {example(100), 1}, {example(103), 1}, {example(104), 3}, {example(1 << 40), 3},
		{begin(100, 0), 1}, {begin(100, 3), 1}, {begin(104, 0), 3}, {begin(50, 3), 0},
		{poor, -1}, {poorGroups, -1}, {rich, 0}, {plain(1), 0}, {idle, 8}, {just, 5},
	} {
		if n := bears(t, x.f); n != x.want {
			t.Errorf("Bears %d: %d, want %d", i, n, x.want)
		}
	}
}

// P9.4, P9.5: the first one of all plans, and the least capital of all of them
func TestLeastSlowly(t *testing.T) {
	r := random(8)
	counts := map[bool]int{}
	sold := 0
	for range 2000 {
		f := someFund(r, small)
		l, n, ok := leastPlan(t, f)
		want, is := slowLeast(f)
		if !slices.Equal(l, want) || ok != is || n != sumOf(want) {
			t.Fatalf("Least(%v): %v, %d, %v, want %v, %v", f, l, n, ok, want, is)
		}
		if plan, ok := planned(t, f); ok != is || ok && slowLack(f, slowNeeds(f), plan) > 0 {
			t.Fatalf("Plan(%v): %v, %v, want %v", f, plan, ok, want)
		}
		if n, want := capital(t, f), slowCapital(f); n != want || (n == 0) != is {
			t.Fatalf("Capital(%v): %d, want %d", f, n, want)
		}
		counts[ok]++
		if n > 1 {
			sold++
		}
	}
	if counts[true] < 500 || counts[false] < 500 || sold < 200 {
		t.Errorf("only %v, %d", counts, sold)
	}
}

// P9.4, P9.5: great funds: no fewer bars do, nor any plan that is earlier, nor less capital
func TestLeastOfGreat(t *testing.T) {
	r := random(9)
	many := 0
	for range 300 {
		f := someFund(r, great)
		needs := slowNeeds(f)
		l, n, ok := leastPlan(t, f)
		if fewest := slowFewest(f, needs); ok != (fewest >= 0) || ok && fewest != n {
			t.Fatalf("Least(%v): %v, %d, %v, want %d", f, l, n, ok, fewest)
		}
		more := capital(t, f)
		lacks := func(n int) []int {
			var l []int
			for _, need := range needs {
				l = append(l, need-n)
			}
			return l
		}
		if slowFewest(f, lacks(more)) < 0 || more > 0 && slowFewest(f, lacks(more-1)) >= 0 || ok != (more == 0) {
			t.Fatalf("Capital(%v): %d", f, more)
		}
		if !ok {
			continue
		}
		if slowLack(f, needs, l) > 0 || sumOf(l) != n || n > f.Bars {
			t.Fatalf("Least(%v): %v, %d", f, l, n)
		}
		if n > 5 {
			many++
		}
		f.Sell, f.Bars = slices.Clone(f.Sell), n
		for day, bars := range l {
			// Up to here the same bars are sold, but one fewer on this day.
			if f.Sell[day] = bars - 1; bars > 0 && slowFewest(f, needs) >= 0 {
				t.Fatalf("Least(%v): %v: it can begin with fewer on day %d", f, l, day)
			}
			f.Sell[day] = bars
		}
	}
	if many < 40 {
		t.Errorf("only %d plans with many bars", many)
	}
}

// P9.5: how many groups a fund bears, tried from 0 on; what Begin is does not matter
func TestBearsSlowly(t *testing.T) {
	r := random(10)
	var counts [10]int
	for i := range 1000 {
		f := someFund(r, []size{small, small, small, small, great}[i%5])
		n, want := bears(t, f), slowBears(f)
		if n != want {
			t.Fatalf("Bears(%v): %d, want %d", f, n, want)
		}
		f.Begin = r.IntN(len(f.Groups) + 1)
		if again := bears(t, f); again != n {
			t.Fatalf("Bears(%v): %d, with another Begin %d", f, again, n)
		}
		counts[n+1]++
	}
	if counts[0] < 50 || counts[1] < 100 || counts[2] < 100 || counts[3] < 30 {
		t.Errorf("only %v", counts)
	}
}
