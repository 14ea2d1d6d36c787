package till_test

import (
	"slices"
	"testing"

	"lombard/api"
	"lombard/till"
)

// P8.3: the examples of the document, and edges
func TestTells(t *testing.T) {
	for _, x := range []struct {
		n    int
		plan [][]int
		want bool
	}{
		{3, three(), true},
		{3, three()[:1], false},
		{3, append(three(), row(3, 0)), true},
		{3, append(three(), three()...), true},
		{3, [][]int{row(3, 0)}, false}, // a scale on which nothing lies
		{3, [][]int{row(3, 0), row(3, 0), row(3, 0), row(3, 0)}, false},
		{3, [][]int{{-1, 1, 0}, {1, -1, 0}}, false},
		{3, [][]int{{-1, 1, 0}, {-1, 1, 0}}, false},
		{3, [][]int{{-1, 1, 0}, {0, -1, 1}}, true},
		{3, [][]int{row(3, 0), {0, -1, 1}, row(3, 0), {1, -1, 0}}, true},
		{4, [][]int{{-1, 1, 0, 0}, {-1, 0, 1, 0}}, false}, // 3 is never weighed
		{4, [][]int{{-1, 1, -1, 1}, {-1, 1, 1, -1}}, false},
		{4, [][]int{{-1, 1, -1, 1}, {-1, 1, 1, -1}, {1, -1, 0, 0}}, false}, // 0 as the opposite of 1
		{4, [][]int{{-1, 1, -1, 1}, {-1, 1, 1, -1}, {0, -1, 0, 1}}, true},
	} {
		if is := told(t, x.n, x.plan); is != x.want {
			t.Errorf("Tells(%d, %v): %v", x.n, x.plan, is)
		}
	}
}

// wrongPlans are no weighings of three coins.
func wrongPlans() [][][]int {
	four := [][]int{{-1, 1, 0}, {-1, 0, 1}, row(3, 0), row(3, 0)}
	l := [][][]int{
		nil, {}, append(four, row(3, 0)), make([][]int, 1000), {nil}, {{}}, {{-1, 1}}, {{-1, 1, 0, 0}}, {row(1000, 0)},
		{{-1, 1, 0}, nil}, {{-1, 1, 0}, {-1, 1}}, {{-1, 0, 1, 0}, {-1, 1, 0}},
		{{-1, 0, 0}}, {{0, 1, 0}}, {{-1, 1, 1}}, {{-1, 1, -1}}, {{1, 1, 1}}, {{-1, 1, 0}, {-1, 0, 0}}, {{-1, -1, 0}, {1, 1, 0}},
	}
	for _, n := range beyond(-1, 1) {
		l = append(l, [][]int{{-1, 1, n}}, [][]int{{n, -n, 0}}, [][]int{{-1, 1, 0}, {n, 1, 1}}, [][]int{{0, 0, 0}, {1, n, 1}, {0, 0, 0}})
	}
	return l
}

// P8.3: what are no weighings; a wrong number of coins comes first
func TestTellsErrors(t *testing.T) {
	for _, plan := range wrongPlans() {
		if is, e := till.Tells(3, plan); is || e != api.ErrScale {
			t.Errorf("Tells(3, %v): %v, error %d", plan, is, e)
		}
	}
	for _, n := range []int{4, 5, 12} {
		if is, e := till.Tells(n, three()); is || e != api.ErrScale {
			t.Errorf("Tells(%d): %v, error %d", n, is, e)
		}
	}
	for _, n := range append(beyond(3, 12), 0, 1) {
		for _, plan := range append(wrongPlans(), three(), [][]int{row(2, 0)}, [][]int{row(13, 0)}) {
			if is, e := till.Tells(n, plan); is || e != api.ErrRange {
				t.Errorf("Tells(%d, %v): %v, error %d", n, plan, is, e)
			}
		}
	}
}

// P8.3: all cases against all others
func TestTellsSlowly(t *testing.T) {
	r := random(4)
	seen := map[bool]int{}
	for i := range 6000 {
		n := 3 + i%10
		plan := somePlan(r, n)
		is := told(t, n, plan)
		if want := slowTells(n, plan); is != want {
			t.Fatalf("Tells(%d, %v): %v", n, plan, is)
		}
		seen[is]++
	}
	if seen[true] < 200 || seen[false] < 200 {
		t.Errorf("only %v", seen)
	}
}

// P8.3, P8.9: weighings that tell, two of three coins, and three of more
func TestWeigh(t *testing.T) {
	for n := 3; n <= 12; n++ {
		plan := weighed(t, n)
		want := 3
		if n == 3 {
			want = 2
		}
		if !told(t, n, plan) || !slowTells(n, plan) || len(plan) != want {
			t.Errorf("Weigh(%d): %v", n, plan)
		}
	}
	for _, n := range append(beyond(3, 12), 0, 1) {
		if plan, e := till.Weigh(n); len(plan) > 0 || e != api.ErrRange {
			t.Errorf("Weigh(%d): %v, error %d", n, plan, e)
		}
	}
}

// P8.3: the examples of the document
func TestJudge(t *testing.T) {
	for _, x := range []struct {
		results    []int
		coin, side int
		e          api.Errno
	}{
		{[]int{-1, -1}, 0, 1, api.OK},
		{[]int{1, 0}, 1, 1, api.OK},
		{[]int{0, 0}, -1, 0, api.OK},
		{[]int{1, -1}, 0, 0, api.ErrNone},
		{[]int{-1, 1}, 0, 0, api.ErrNone},
		{[]int{1, 1}, 0, -1, api.OK},
		{[]int{-1, 0}, 1, -1, api.OK},
		{[]int{0, 1}, 2, 1, api.OK},
		{[]int{0, -1}, 2, -1, api.OK},
	} {
		if coin, side, e := till.Judge(3, three(), x.results); coin != x.coin || side != x.side || e != x.e {
			t.Errorf("Judge(%v): %d, %d, error %d", x.results, coin, side, e)
		}
	}
}

// P8.3: a wrong number of coins comes before wrong weighings, these and those that do not tell before wrong results
func TestJudgeErrors(t *testing.T) {
	wrong := [][]int{nil, {}, {0}, {0, 0, 0}, row(1000, 0)}
	for _, n := range beyond(-1, 1) {
		wrong = append(wrong, []int{n, 0}, []int{0, n}, []int{1, n}, []int{n, n})
	}
	silent := [][]int{{-1, 1, 0}, {1, -1, 0}}
	check := func(n int, plan [][]int, results []int, want api.Errno) {
		t.Helper()
		if coin, side, e := till.Judge(n, plan, results); coin != 0 || side != 0 || e != want {
			t.Errorf("Judge(%d, %v, %v): %d, %d, error %d, want %d", n, plan, results, coin, side, e, want)
		}
	}
	for _, results := range append(wrong, []int{0, 0}, []int{1, -1}) {
		for _, plan := range append(wrongPlans(), silent) {
			check(3, plan, results, api.ErrScale)
		}
		for _, n := range beyond(3, 12) {
			check(n, three(), results, api.ErrRange)
			check(n, silent, results, api.ErrRange)
			check(n, nil, results, api.ErrRange)
		}
	}
	for _, results := range wrong {
		check(3, three(), results, api.ErrRange)
	}
}

// P8.3: all results that there may be
func TestJudgeSlowly(t *testing.T) {
	r := random(5)
	seen := map[api.Errno]int{}
	for i := 0; seen[api.OK] < 20000; i++ {
		n := 3 + i%10
		plan := somePlan(r, n)
		l := slowCases(n, plan)
		slowLists(row(len(plan), 2), func(digits []int) {
			var results []int
			for _, x := range digits {
				results = append(results, x-1)
			}
			want, e := slowCase{}, api.ErrScale
			if slowTells(n, plan) {
				k := slices.IndexFunc(l, func(c slowCase) bool { return slices.Equal(c.shown, results) })
				if e = api.ErrNone; k >= 0 {
					want, e = l[k], api.OK
				}
			}
			coin, side, f := till.Judge(n, plan, results)
			if coin != want.coin || side != want.side || e != f {
				t.Fatalf("Judge(%d, %v, %v): %d, %d, error %d, want %v, error %d", n, plan, results, coin, side, f, want, e)
			}
			seen[e]++
		})
	}
	if seen[api.ErrScale] < 1000 || seen[api.ErrNone] < 1000 {
		t.Errorf("only %v", seen)
	}
}
