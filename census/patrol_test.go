package census_test

import (
	"math"
	"slices"
	"testing"

	"lombard/api"
	"lombard/census"
)

// wrongLosses are no losses.
func wrongLosses() [][]int {
	l := [][]int{nil, {}, row(7, 1), row(1000, 1)}
	for _, n := range beyond(1, 10000) {
		l = append(l, []int{n}, []int{n, 30}, []int{10, n}, []int{1, 2, 3, 4, 5, n})
	}
	return l
}

// wrongWeights are no weights of two rooms.
func wrongWeights() [][]int {
	l := [][]int{nil, {}, {64}, {0}, {10, 54, 0}, {10, 53}, {10, 55}, {0, 0}, {64, 64}, {32, 31}, row(64, 1), row(1000, 0)}
	for _, n := range beyond(0, 64) {
		l = append(l, []int{n, 64 - n}, []int{64 - n, n}, []int{n, 0}, []int{0, n}, []int{n, n})
	}
	return append(l, []int{math.MinInt, math.MinInt + 64}, []int{math.MaxInt, math.MinInt + 65})
}

// P10.4: the risks of the document, of rooms in which the patrol always is or never is, and the greatest one
func TestRisk(t *testing.T) {
	for _, x := range []struct {
		losses, weights []int
		want            int
	}{
		{[]int{10, 30}, []int{10, 54}, 540}, {[]int{10, 30}, []int{16, 48}, 480}, {[]int{10, 30}, []int{15, 49}, 490}, {[]int{10, 30}, []int{17, 47}, 510},
		{[]int{10, 30}, []int{64, 0}, 1920}, {[]int{10, 30}, []int{0, 64}, 640}, {[]int{30, 10}, []int{54, 10}, 540},
		{[]int{7}, []int{64}, 0}, {[]int{10000}, []int{64}, 0}, {[]int{10000, 10000}, []int{32, 32}, 320000},
		{row(6, 10000), []int{0, 0, 64, 0, 0, 0}, 640000}, {[]int{1, 1, 1, 1, 1, 1}, []int{14, 10, 10, 10, 10, 10}, 54}, {[]int{1, 2, 3, 4, 5, 6}, []int{0, 0, 0, 0, 0, 64}, 320},
	} {
		if n := risked(t, x.losses, x.weights); n != x.want {
			t.Errorf("Risk(%v, %v): %d, want %d", x.losses, x.weights, n, x.want)
		}
	}
}

// P10.4: what risks need, from none to more than there can be
func TestNeed(t *testing.T) {
	for _, x := range []struct {
		losses     []int
		risk, want int
	}{
		{[]int{10, 30}, 480, 64}, {[]int{10, 30}, 479, 66}, {[]int{10, 30}, 490, 63}, {[]int{10, 30}, 489, 64},
		{[]int{10, 30}, 0, 128}, {[]int{10, 30}, 9, 128}, {[]int{10, 30}, 10, 127}, {[]int{10, 30}, 1920, 0}, {[]int{10, 30}, 1919, 1}, {[]int{10, 30}, 640, 43},
		{[]int{10, 30}, math.MaxInt, 0}, {[]int{1}, math.MaxInt, 0}, {[]int{1}, 64, 0}, {[]int{1}, 63, 1}, {[]int{1}, 0, 64},
		{row(6, 10000), 0, 384}, {row(6, 10000), 9999, 384}, {row(6, 10000), 10000, 378}, {row(6, 10000), 640000, 0}, {row(6, 10000), 639999, 6},
	} {
		if n := needed(t, x.losses, x.risk); n != x.want {
			t.Errorf("Need(%v, %d): %d, want %d", x.losses, x.risk, n, x.want)
		}
	}
}

// P10.4: Risk and Need look at each room
func TestRiskSlowly(t *testing.T) {
	r := random(4)
	for range 3000 {
		losses := someLosses(r, 6)
		weights := someWeights(r, len(losses))
		n := risked(t, losses, weights)
		if want := slowRisk(losses, weights); n != want {
			t.Fatalf("Risk(%v, %v): %d, want %d", losses, weights, n, want)
		}
		for _, risk := range []int{n, max(0, n-1), n + 1, n / 2, r.IntN(640001)} {
			if m, want := needed(t, losses, risk), slowNeed(losses, risk); m != want {
				t.Fatalf("Need(%v, %d): %d, want %d", losses, risk, m, want)
			}
		}
	}
}

// P10.4: the least risks of the document; any weights with it will do
func TestPatrol(t *testing.T) {
	if l, n := patrolled(t, []int{10, 30}); !slices.Equal(l, []int{16, 48}) || n != 480 {
		t.Errorf("Patrol: %v, %d", l, n)
	}
	for _, x := range []struct {
		losses []int
		want   int
	}{
		{[]int{10, 30}, 480}, {[]int{30, 10}, 480}, {[]int{7}, 0}, {[]int{10000}, 0}, {[]int{1}, 0}, {[]int{5, 5}, 160}, {[]int{1, 100}, 64}, {[]int{100, 1}, 64}, {[]int{1, 10000}, 64},
		{[]int{3, 3, 3}, 129}, {row(6, 1), 54}, {row(6, 10000), 540000}, {row(5, 10000), 520000}, {row(4, 10000), 480000}, {[]int{1, 1, 1, 1, 1, 10000}, 64},
	} {
		if l, n := patrolled(t, x.losses); n != x.want || risked(t, x.losses, l) != n {
			t.Errorf("Patrol(%v): %v, %d, want %d", x.losses, l, n, x.want)
		}
	}
}

// P10.4: Patrol returns the least risk of all weights; with more rooms, that of weights which are given night by night
func TestPatrolSlowly(t *testing.T) {
	r := random(5)
	for range 300 {
		losses := someLosses(r, 3)
		_, n := patrolled(t, losses)
		if want := slowPatrol(losses); n != want || want != nightly(losses) {
			t.Fatalf("Patrol(%v): %d, want %d", losses, n, want)
		}
	}
	for range 5000 {
		losses := someLosses(r, 6)
		l, n := patrolled(t, losses)
		if want := nightly(losses); n != want || risked(t, losses, l) != n {
			t.Fatalf("Patrol(%v): %v, %d, want %d", losses, l, n, want)
		}
	}
}

// P10.4: wrong losses come first, then a risk that is less than 0
func TestPatrolErrors(t *testing.T) {
	for _, l := range wrongLosses() {
		weights := make([]int, len(l))
		if len(l) > 0 {
			weights[0] = 64
		}
		for i, w := range [][]int{weights, {10, 54}, nil} {
			if n, e := census.Risk(l, w); n != 0 || e != api.ErrPatrol {
				t.Errorf("Risk(%v) with weights %d: %d, error %d", l, i, n, e)
			}
		}
		for _, risk := range []int{480, 0, -1, math.MinInt, math.MaxInt} {
			if n, e := census.Need(l, risk); n != 0 || e != api.ErrPatrol {
				t.Errorf("Need(%v, %d): %d, error %d", l, risk, n, e)
			}
		}
		if w, n, e := census.Patrol(l); len(w) > 0 || n != 0 || e != api.ErrPatrol {
			t.Errorf("Patrol(%v): %v, %d, error %d", l, w, n, e)
		}
	}
	for _, l := range wrongWeights() {
		if n, e := census.Risk([]int{10, 30}, l); n != 0 || e != api.ErrPatrol {
			t.Errorf("Risk with %v: %d, error %d", l, n, e)
		}
	}
	for _, risk := range []int{-1, -480, math.MinInt} {
		if n, e := census.Need([]int{10, 30}, risk); n != 0 || e != api.ErrRange {
			t.Errorf("Need(%d): %d, error %d", risk, n, e)
		}
	}
}
