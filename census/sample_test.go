package census_test

import (
	"slices"
	"testing"

	"lombard/api"
	"lombard/census"
)

// P10.1: what is an audit
func TestCheck(t *testing.T) {
	for i, a := range []api.Audit{
		example(), limits(),
		{Stock: []int{1}, Costs: []int{0}, Lost: 1}, {Stock: []int{8}, Costs: []int{1000}, Lost: 8, Sure: 1000},
		{Stock: row(4, 1), Costs: row(4, 0), Lost: 4}, {Stock: []int{1, 8, 1, 8}, Costs: []int{0, 1000, 0, 1000}, Lost: 18, Sure: 1},
		changed(func(a *api.Audit) { a.Lost = 1 }), changed(func(a *api.Audit) { a.Lost = 7 }),
		changed(func(a *api.Audit) { a.Sure = 0 }), changed(func(a *api.Audit) { a.Sure = 1000 }),
	} {
		if e := census.Check(a); e != api.OK {
			t.Errorf("audit %d, Check(%v): error %d", i, a, e)
		}
	}
	for i, a := range wrongAudits() {
		if e := census.Check(a); e != api.ErrAudit {
			t.Errorf("wrong audit %d, Check(%v): error %d", i, a, e)
		}
	}
}

// wrongAudits are no audits.
func wrongAudits() []api.Audit {
	l := []api.Audit{
		{}, {Lost: 1}, {Costs: []int{1}, Lost: 1}, {Stock: []int{1}, Lost: 1},
		{Stock: row(5, 1), Costs: row(5, 0), Lost: 1}, {Stock: row(1000, 1), Costs: row(1000, 0), Lost: 1},
	}
	add := func(change func(a *api.Audit)) { l = append(l, changed(change)) }
	for _, n := range []int{0, 1, 3, 4} {
		add(func(a *api.Audit) { a.Stock = row(n, 4) })
		add(func(a *api.Audit) { a.Costs = row(n, 1) })
	}
	for room := range 2 {
		for _, n := range beyond(1, 8) {
			add(func(a *api.Audit) { a.Stock[room] = n })
			add(func(a *api.Audit) { a.Stock[room], a.Lost = n, 1 })
			add(func(a *api.Audit) { a.Stock[0], a.Stock[1], a.Lost = n, n, 2*n })
		}
		for _, n := range beyond(0, 1000) {
			add(func(a *api.Audit) { a.Costs[room] = n })
		}
	}
	for _, n := range beyond(1, 7) {
		add(func(a *api.Audit) { a.Lost = n })
	}
	for _, n := range beyond(0, 1000) {
		add(func(a *api.Audit) { a.Sure = n })
	}
	for _, lost := range []int{0, 33} {
		a := limits()
		a.Lost = lost
		l = append(l, a)
	}
	return l
}

// wrongCounts are no samples for the audit of the document, nor losses.
func wrongCounts() [][]int {
	l := [][]int{nil, {}, {0}, {2}, {2, 1, 0}, {0, 0, 0, 0}, row(1000, 0)}
	for _, n := range beyond(0, 4) {
		l = append(l, []int{n, 1})
	}
	for _, n := range beyond(0, 3) {
		l = append(l, []int{1, n})
	}
	return l
}

// P10.1: all functions with an audit return the error of a wrong one first, then that of a wrong sample
func TestWrongAudits(t *testing.T) {
	for _, a := range wrongAudits() {
		for _, q := range []question{{a: a, sample: []int{2, 1}, lost: []int{2, 0}}, {a: a, sample: []int{9}, lost: []int{9}}, {a: a}} {
			for i, x := range audited(q) {
				if x.e != api.ErrAudit || !x.isZero() {
					t.Errorf("function %d with %v: %v, error %d", i, q, x.result, x.e)
				}
			}
		}
	}
	for _, l := range wrongCounts() {
		for _, lost := range [][]int{{2, 0}, {9}, nil} {
			for i, x := range audited(question{a: example(), sample: l, lost: lost})[2:] {
				if x.e != api.ErrSample || !x.isZero() {
					t.Errorf("function %d with the sample %v: %v, error %d", i, l, x.result, x.e)
				}
			}
		}
		for _, sample := range [][]int{{2, 1}, {0, 0}, {4, 3}} {
			if n, m, e := census.Miss(example(), sample, l); n != 0 || m != 0 || e != api.ErrLost {
				t.Errorf("Miss(%v, %v): %d, %d, error %d", sample, l, n, m, e)
			}
		}
	}
}

// P10.2: samples and losses of the document, none and all of them, losses of any number of pledges, and the greatest numbers
func TestMiss(t *testing.T) {
	wide := limits()
	for _, x := range []struct {
		a            api.Audit
		sample, lost []int
		ways, all    int
	}{
		{example(), []int{2, 1}, []int{2, 0}, 3, 18}, {example(), []int{2, 1}, []int{1, 1}, 6, 18}, {example(), []int{2, 1}, []int{0, 2}, 6, 18},
		{example(), []int{2, 1}, []int{0, 0}, 18, 18}, {example(), []int{2, 1}, []int{1, 0}, 9, 18}, {example(), []int{2, 1}, []int{0, 1}, 12, 18},
		{example(), []int{2, 1}, []int{4, 3}, 0, 18}, {example(), []int{2, 1}, []int{0, 3}, 0, 18}, {example(), []int{2, 1}, []int{3, 0}, 0, 18},
		{example(), []int{0, 0}, []int{4, 3}, 1, 1}, {example(), []int{4, 3}, []int{0, 0}, 1, 1}, {example(), []int{4, 3}, []int{0, 1}, 0, 1},
		{example(), []int{0, 3}, []int{4, 0}, 1, 1}, {example(), []int{0, 2}, []int{4, 1}, 1, 3}, {example(), []int{3, 0}, []int{1, 3}, 1, 4},
		{wide, row(4, 4), row(4, 0), 24010000, 24010000}, {wide, row(4, 4), []int{1, 0, 0, 0}, 12005000, 24010000},
		{wide, row(4, 4), row(4, 4), 1, 24010000}, {wide, row(4, 4), []int{4, 4, 5, 4}, 0, 24010000}, {wide, []int{1, 2, 3, 7}, []int{7, 6, 5, 1}, 1, 8 * 28 * 56 * 8},
	} {
		if ways, all := missed(t, x.a, x.sample, x.lost); ways != x.ways || all != x.all {
			t.Errorf("Miss(%v, %v, %v): %d of %d, want %d of %d", x.a, x.sample, x.lost, ways, all, x.ways, x.all)
		}
	}
	// What is looked for does not count: any loss may be asked for.
	for _, lost := range []int{1, 3, 7} {
		a := changed(func(a *api.Audit) { a.Lost, a.Sure, a.Costs = lost, lost, row(2, lost) })
		if ways, all := missed(t, a, []int{2, 1}, []int{1, 1}); ways != 6 || all != 18 {
			t.Errorf("Miss(%v): %d of %d", a, ways, all)
		}
	}
}

// P10.2, P10.8: of all choices of a sample just as many miss a loss as Miss says
func TestMissSlowly(t *testing.T) {
	r := random(1)
	some := 0
	for range 12000 {
		a := someAudit(r, tiny)
		sample, lost := someCounts(r, a), someCounts(r, a)
		ways, all := missed(t, a, sample, lost)
		if n, m := slowMiss(a, sample, lost); ways != n || all != m {
			t.Fatalf("Miss(%v, %v, %v): %d of %d, want %d of %d", a, sample, lost, ways, all, n, m)
		}
		if ways > 1 && ways < all {
			some++
		}
	}
	if some < 300 {
		t.Errorf("only %d losses were missed by some choices", some)
	}
	for range 3000 {
		a := someAudit(r, great)
		sample, lost := someCounts(r, a), someCounts(r, a)
		ways, all := missed(t, a, sample, lost)
		if n, m := slowCount(a, sample, lost); ways != n || all != m {
			t.Fatalf("Miss(%v, %v, %v): %d of %d, want %d of %d", a, sample, lost, ways, all, n, m)
		}
	}
}

// P10.2: of several losses that are missed as often the first one is worst, also if no choice misses any
func TestWorst(t *testing.T) {
	same := api.Audit{Stock: []int{3, 3, 3}, Costs: row(3, 0), Lost: 2}
	for _, x := range []struct {
		a            api.Audit
		sample, lost []int
		ways, all    int
	}{
		{example(), []int{2, 1}, []int{0, 2}, 6, 18}, {example(), []int{2, 2}, []int{1, 1}, 3, 18}, {example(), []int{1, 2}, []int{2, 0}, 6, 12},
		{example(), []int{0, 0}, []int{0, 2}, 1, 1}, {example(), []int{4, 0}, []int{0, 2}, 1, 1}, {example(), []int{0, 3}, []int{2, 0}, 1, 1},
		{example(), []int{4, 3}, []int{0, 2}, 0, 1}, {example(), []int{4, 2}, []int{0, 2}, 0, 3}, {example(), []int{3, 3}, []int{0, 2}, 0, 4},
		{same, []int{1, 1, 1}, []int{0, 1, 1}, 12, 27}, {same, []int{1, 0, 1}, []int{0, 2, 0}, 9, 9}, {same, []int{0, 1, 1}, []int{2, 0, 0}, 9, 9}, {same, []int{2, 2, 2}, []int{0, 1, 1}, 3, 27},
		{changed(func(a *api.Audit) { a.Lost = 7 }), []int{0, 0}, []int{4, 3}, 1, 1}, {changed(func(a *api.Audit) { a.Lost = 7 }), []int{1, 1}, []int{4, 3}, 0, 12},
		{changed(func(a *api.Audit) { a.Lost = 4 }), []int{1, 1}, []int{2, 2}, 2, 12}, {changed(func(a *api.Audit) { a.Lost = 6 }), []int{1, 0}, []int{3, 3}, 1, 4},
		{limits(), row(4, 8), row(4, 8), 0, 1}, {limits(), row(4, 0), row(4, 8), 1, 1},
	} {
		if lost, ways, all := worst(t, x.a, x.sample); !slices.Equal(lost, x.lost) || ways != x.ways || all != x.all {
			t.Errorf("Worst(%v, %v): %v, %d of %d, want %v, %d of %d", x.a, x.sample, lost, ways, all, x.lost, x.ways, x.all)
		}
	}
}

// P10.2: Worst and Finds look at all losses with Lost pledges
func TestWorstSlowly(t *testing.T) {
	r := random(2)
	finds, misses := 0, 0
	for i := range 2000 {
		a := someAudit(r, []size{tiny, small, small, great}[i%4])
		losses := slowLosses(a)
		for range 5 {
			sample := someCounts(r, a)
			lost, ways, all := worst(t, a, sample)
			if l, n, m := slowWorst(a, losses, sample); !slices.Equal(lost, l) || ways != n || all != m {
				t.Fatalf("Worst(%v, %v): %v, %d of %d, want %v, %d of %d", a, sample, lost, ways, all, l, n, m)
			}
			is := found(t, a, sample)
			if is != slowFinds(a, losses, sample) {
				t.Fatalf("Finds(%v, %v): %v", a, sample, is)
			}
			if is {
				finds++
			} else {
				misses++
			}
		}
	}
	if finds < 1000 || misses < 1000 {
		t.Errorf("only %d samples find, and %d do not", finds, misses)
	}
}

// P10.2: a sample finds just up to how often it does
func TestFinds(t *testing.T) {
	for _, x := range []struct {
		sample    []int
		ways, all int
		sure      int // up to so much it finds
		lost      int
	}{
		{[]int{2, 1}, 6, 18, 666, 2}, // 666 of 1000 is less than 12 of 18, and 667 is more
		{[]int{2, 2}, 3, 18, 833, 2}, {[]int{1, 1}, 6, 12, 500, 2}, {[]int{0, 0}, 1, 1, 0, 2}, {[]int{0, 3}, 1, 1, 0, 2},
		{[]int{4, 3}, 0, 1, 1000, 2}, {[]int{4, 2}, 0, 3, 1000, 2}, {[]int{4, 2}, 1, 3, 666, 1}, {[]int{2, 2}, 9, 18, 500, 1}, {[]int{3, 2}, 4, 12, 666, 1},
		{[]int{1, 0}, 4, 4, 0, 3}, {[]int{1, 1}, 2, 12, 833, 4}, {[]int{1, 1}, 1, 12, 916, 5},
	} {
		for _, sure := range []int{0, 1, 499, 500, 501, 665, 666, 667, 749, 750, 751, 832, 833, 834, 915, 916, 917, 999, 1000} {
			a := changed(func(a *api.Audit) { a.Lost, a.Sure = x.lost, sure })
			if is := found(t, a, x.sample); is != (sure <= x.sure) {
				t.Errorf("Finds(%v, %v): %v", a, x.sample, is)
			}
			if _, ways, all := worst(t, a, x.sample); ways != x.ways || all != x.all {
				t.Errorf("Worst(%v, %v): %d of %d, want %d of %d", a, x.sample, ways, all, x.ways, x.all)
			}
		}
	}
}

// P10.3: the least samples of the document; of several ones that cost as much the first one; nothing is looked at if nothing must be found
func TestLeast(t *testing.T) {
	for _, x := range []struct {
		a      api.Audit
		sample []int
		cost   int
	}{
		{example(), []int{2, 2}, 10},
		{changed(func(a *api.Audit) { a.Sure = 0 }), []int{0, 0}, 0},
		{changed(func(a *api.Audit) { a.Sure = 1 }), []int{1, 1}, 5},
		{changed(func(a *api.Audit) { a.Sure = 1000 }), []int{4, 2}, 14},
		{changed(func(a *api.Audit) { a.Sure, a.Lost = 1000, 1 }), []int{4, 3}, 17},
		{changed(func(a *api.Audit) { a.Sure, a.Lost = 1000, 7 }), []int{1, 0}, 2},
		{changed(func(a *api.Audit) { a.Sure, a.Lost, a.Costs = 1000, 7, row(2, 5) }), []int{0, 1}, 5},
		{changed(func(a *api.Audit) { a.Sure, a.Lost, a.Costs = 1000, 7, row(2, 0) }), []int{0, 1}, 0},
		{changed(func(a *api.Audit) { a.Costs = row(2, 0) }), []int{2, 2}, 0},
		{changed(func(a *api.Audit) { a.Sure, a.Costs = 1000, row(2, 1) }), []int{3, 3}, 6},
		{changed(func(a *api.Audit) { a.Sure, a.Costs = 1000, []int{0, 1} }), []int{4, 2}, 2},
		{changed(func(a *api.Audit) { a.Sure, a.Costs = 1000, []int{1, 0} }), []int{3, 3}, 3},
		{api.Audit{Stock: []int{8}, Costs: []int{1000}, Lost: 1, Sure: 1000}, []int{8}, 8000},
		{api.Audit{Stock: []int{8}, Costs: []int{1000}, Lost: 1, Sure: 500}, []int{4}, 4000},
		{api.Audit{Stock: []int{8}, Costs: []int{1000}, Lost: 1, Sure: 501}, []int{5}, 5000},
		{api.Audit{Stock: row(4, 8), Costs: row(4, 1000), Lost: 1, Sure: 1000}, row(4, 8), 32000},
		{limits(), []int{0, 0, 0, 1}, 1000},
	} {
		if l, n := least(t, x.a); !slices.Equal(l, x.sample) || n != x.cost {
			t.Errorf("Least(%v): %v, %d, want %v, %d", x.a, l, n, x.sample, x.cost)
		}
	}
}

// P10.3: Least returns the first one of the cheapest samples that find what is asked for, of all samples
func TestLeastSlowly(t *testing.T) {
	r := random(3)
	for i := range 1500 {
		a := someAudit(r, []size{tiny, small}[i%2])
		l, n := least(t, a)
		if sample, cost := slowLeast(a); !slices.Equal(l, sample) || n != cost {
			t.Fatalf("Least(%v): %v, %d, want %v, %d", a, l, n, sample, cost)
		}
	}
	for range 40 {
		a := someAudit(r, great)
		l, n := least(t, a)
		if sample, cost := slowLeast(a); !slices.Equal(l, sample) || n != cost {
			t.Fatalf("Least(%v): %v, %d, want %v, %d", a, l, n, sample, cost)
		}
	}
}
