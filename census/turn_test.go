package census_test

import (
	"math"
	"slices"
	"testing"

	"lombard/api"
	"lombard/census"
)

// P10.6: turns of the document; none; first turns that come just in time and too late; and as many as there can be
func TestKeeps(t *testing.T) {
	for _, x := range []struct {
		periods, turns []int
		want           bool
	}{
		{[]int{2, 3, 3}, []int{1, 0, 2}, true}, {[]int{2, 3, 3}, []int{0, 1, 0}, false}, {[]int{2, 3, 3}, []int{1, 0, 2, 0}, false}, {[]int{2, 3, 3}, []int{1, 0, 2, 1}, false}, {[]int{2, 3, 3}, nil, true},
		{[]int{2, 4, 4}, []int{0, 1, 0, 2, 0, 1}, true}, {[]int{2, 4, 4}, []int{0, 1, 0, 2, 0, 2}, false}, {[]int{2, 4, 4}, []int{1, 1}, false}, {[]int{2, 4, 4}, []int{1, 2}, false}, {[]int{2, 4, 4}, []int{1, 0}, true},
		{[]int{1}, []int{0}, true}, {[]int{1, 1}, nil, true}, {[]int{1, 1}, []int{0}, false}, {[]int{1, 1}, []int{1}, false}, {[]int{1, 2}, []int{0}, true}, {[]int{1, 2}, []int{0, 0}, false}, {[]int{2, 1}, []int{0}, false},
		{[]int{5, 4}, []int{0, 0, 0}, true}, {[]int{5, 4}, []int{0, 0, 0, 0}, false}, {[]int{5, 4}, []int{0, 0, 0, 1}, true}, {[]int{5, 4}, []int{1, 1, 1, 1, 0}, true}, {[]int{5, 4}, []int{1, 1, 1, 1, 1}, false},
		{[]int{8}, row(64, 0), true}, {[]int{1}, row(64, 0), true}, {row(5, 8), []int{4, 3, 2, 1, 0, 4, 4, 4, 4, 3, 2, 1}, true}, {row(5, 8), []int{4, 3, 2, 1, 0, 4, 4, 4, 4, 3, 2, 0}, false},
		{[]int{8, 2}, slices.Repeat([]int{1, 0}, 32), true}, {[]int{8, 2}, append(slices.Repeat([]int{1, 0}, 31), 0, 1), false}, {[]int{8, 2}, append(slices.Repeat([]int{1, 0}, 31), 1, 1), true},
	} {
		if is := kept(t, x.periods, x.turns); is != x.want {
			t.Errorf("Keeps(%v, %v): %v", x.periods, x.turns, is)
		}
	}
}

// P10.6: Keeps looks at all days in a row
func TestKeepsSlowly(t *testing.T) {
	r := random(7)
	counts := map[bool]int{}
	for range 20000 {
		periods := somePeriods(r, 5, 8)
		var turns []int
		for range r.IntN(65) {
			turns = append(turns, r.IntN(len(periods)))
		}
		// Any turns keep long periods for some days alone.
		for _, n := range []int{len(turns), len(turns) / 2, len(turns) / 4, min(len(turns), r.IntN(8))} {
			is := kept(t, periods, turns[:n])
			if is != slowKeeps(periods, turns[:n]) {
				t.Fatalf("Keeps(%v, %v): %v", periods, turns[:n], is)
			}
			if n > 2 && len(periods) > 1 {
				counts[is]++
			}
		}
	}
	if counts[true] < 5000 || counts[false] < 5000 {
		t.Errorf("only %v", counts)
	}
}

// P10.6: turns that can go on for ever, and the first ones of them
func TestTurns(t *testing.T) {
	for _, x := range []struct {
		periods []int
		days    int
		want    []int
	}{
		{[]int{2, 4, 4}, 6, []int{0, 1, 0, 2, 0, 1}}, {[]int{2, 4, 4}, 0, nil}, {[]int{2, 4, 4}, 1, []int{0}}, {[]int{4, 2, 4}, 4, []int{0, 1, 2, 1}}, {[]int{4, 4, 2}, 5, []int{0, 2, 1, 2, 0}},
		{[]int{3, 3, 3}, 4, []int{0, 1, 2, 0}}, {[]int{2, 2}, 3, []int{0, 1, 0}}, {[]int{2, 3}, 5, []int{0, 0, 1, 0, 0}}, {[]int{1}, 3, []int{0, 0, 0}}, {[]int{8}, 64, row(64, 0)}, {[]int{8, 8}, 9, []int{0, 0, 0, 0, 0, 0, 0, 1, 0}},
		{[]int{2, 4, 4}, 64, slices.Repeat([]int{0, 1, 0, 2}, 16)}, {row(5, 5), 64, slices.Repeat(counted(5), 13)[:64]}, {[]int{1}, 0, nil},
	} {
		if l, ok := turned(t, x.periods, x.days); !ok || !slices.Equal(l, x.want) {
			t.Errorf("Turns(%v, %d): %v, %v, want %v", x.periods, x.days, l, ok, x.want)
		}
		if n := lasting(t, x.periods); n != -1 {
			t.Errorf("Lasts(%v): %d", x.periods, n)
		}
	}
}

// P10.6: periods that no turns keep for ever, and how long they last
func TestLasts(t *testing.T) {
	for _, x := range []struct {
		periods []int
		want    int
	}{
		{[]int{2, 3, 3}, 3}, {[]int{1, 1}, 0}, {[]int{1, 5}, 4}, {[]int{5, 1}, 4}, {[]int{1, 2}, 1}, {[]int{2, 2, 2}, 1}, {[]int{1, 8}, 7}, {row(5, 1), 0},
		{[]int{2, 3, 7}, 8}, {[]int{2, 3, 8}, 9}, {[]int{2, 4, 7, 8}, 13}, {[]int{4, 5, 5, 6, 8}, 25}, {[]int{8, 6, 5, 5, 4}, 25},
	} {
		if n := lasting(t, x.periods); n != x.want {
			t.Errorf("Lasts(%v): %d, want %d", x.periods, n, x.want)
		}
		for _, days := range []int{0, 1, x.want, 64} {
			if l, ok := turned(t, x.periods, days); ok {
				t.Errorf("Turns(%v, %d): %v", x.periods, days, l)
			}
		}
	}
}

// P10.6: Turns and Lasts try all turns; here so many that they must have gone round
func TestTurnsSlowly(t *testing.T) {
	counts := map[bool]int{}
	for rooms := 1; rooms <= 3; rooms++ {
		periodLists(rooms, 4, func(periods []int) {
			last := slowLasts(periods)
			if n := lasting(t, periods); n != last {
				t.Fatalf("Lasts(%v): %d, want %d", periods, n, last)
			}
			for days := range 6 {
				l, ok := turned(t, periods, days)
				if ok != (last == -1) {
					t.Fatalf("Turns(%v, %d): %v, but Lasts is %d", periods, days, l, last)
				}
				if !ok {
					continue
				}
				if want, found := slowTurns(periods, days); !found || !slices.Equal(l, want) {
					t.Fatalf("Turns(%v, %d): %v, want %v", periods, days, l, want)
				}
			}
			counts[last == -1]++
		})
	}
	if counts[true] < 20 || counts[false] < 50 {
		t.Errorf("only %v", counts)
	}
}

// P10.6: for all periods, Lasts is the last day up to which any turns keep them
func TestLastsSlowly(t *testing.T) {
	counts := map[bool]int{}
	for rooms := 1; rooms <= 5; rooms++ {
		longest := []int{0, 8, 8, 8, 7, 5}[rooms]
		periodLists(rooms, longest, func(periods []int) {
			if n := lasting(t, periods); n >= 0 {
				if own := lastReached(periods, nil, n+1); own != n {
					t.Fatalf("Lasts(%v): %d, want %d", periods, n, own)
				}
				counts[false]++
				return
			}
			// Turns that come back to where they were are a proof, but not all do so within 64 days.
			days := enough(periods, 0)
			if l, ok := turned(t, periods, 64); !ok || !goesRound(periods, l) && lastReached(periods, nil, days) < days {
				t.Fatalf("Turns(%v): %v, %v, but they cannot go on for ever", periods, l, ok)
			}
			counts[true]++
		})
	}
	if counts[true] < 500 || counts[false] < 5000 {
		t.Errorf("only %v", counts)
	}
}

// P10.6: on no day could an earlier room be counted, and the periods still be kept for ever
func TestTurnsAreFirst(t *testing.T) {
	r := random(8)
	passed := 0
	for range 400 {
		periods := somePeriods(r, 5, 8)
		l, ok := turned(t, periods, 64)
		if !ok {
			continue
		}
		days := enough(periods, 0)
		for day := range 12 {
			for room := range l[day] {
				other := append(slices.Clone(l[:day]), room)
				if !slowKeeps(periods, other) {
					continue
				}
				if n := lastReached(periods, other, days); n == days {
					t.Fatalf("Turns(%v): %v, but %v can go on as well", periods, l, other)
				}
				passed++
			}
		}
	}
	if passed < 30 {
		t.Errorf("only %d times a room was passed over that could still be counted", passed)
	}
}

// goesRound reports whether turns keep the periods, and come back to a day behind which each room was counted just as long ago as behind an earlier one.
func goesRound(periods, turns []int) bool {
	if !slowKeeps(periods, turns) {
		return false
	}
	been := map[[5]int]bool{{}: true}
	var last [5]int // the day on which each room was counted
	for i, room := range turns {
		last[room] = i + 1
		var now [5]int
		for k := range periods {
			now[k] = i + 1 - last[k]
		}
		if been[now] {
			return true
		}
		been[now] = true
	}
	return false
}

// wrongPeriods are no periods.
func wrongPeriods() [][]int {
	l := [][]int{nil, {}, row(6, 8), row(1000, 8)}
	for _, n := range beyond(1, 8) {
		l = append(l, []int{n}, []int{n, 8}, []int{8, n}, []int{8, 8, 8, 8, n})
	}
	return l
}

// P10.6: wrong periods come first, then how many days are asked for, then that there are no such turns
func TestTurnsErrors(t *testing.T) {
	for _, l := range wrongPeriods() {
		for _, turns := range [][]int{nil, {0}, {-1}, row(65, 0)} {
			if is, e := census.Keeps(l, turns); is || e != api.ErrTurns {
				t.Errorf("Keeps(%v, %v): %v, error %d", l, turns, is, e)
			}
		}
		for _, days := range []int{0, 1, 64, 65, -1, math.MinInt} {
			if turns, e := census.Turns(l, days); len(turns) > 0 || e != api.ErrTurns {
				t.Errorf("Turns(%v, %d): %v, error %d", l, days, turns, e)
			}
		}
		if n, e := census.Lasts(l); n != 0 || e != api.ErrTurns {
			t.Errorf("Lasts(%v): %d, error %d", l, n, e)
		}
	}
	for _, periods := range [][]int{{8}, {8, 8, 8}, row(5, 8)} {
		for _, n := range beyond(0, len(periods)-1) {
			for _, turns := range [][]int{{n}, {0, n}, {n, 0, 0}, append(row(63, 0), n), append(row(20, 0), n)} {
				if is, e := census.Keeps(periods, turns); is || e != api.ErrTurns {
					t.Errorf("Keeps(%v, %v): %v, error %d", periods, turns, is, e)
				}
			}
		}
		for _, n := range []int{65, 66, 1000} {
			if is, e := census.Keeps(periods, row(n, 0)); is || e != api.ErrTurns {
				t.Errorf("Keeps(%v) with %d turns: %v, error %d", periods, n, is, e)
			}
		}
	}
	for _, periods := range [][]int{{2}, {2, 4, 4}, {2, 3, 3}, {1, 1}} {
		for _, days := range beyond(0, 64) {
			if turns, e := census.Turns(periods, days); len(turns) > 0 || e != api.ErrRange {
				t.Errorf("Turns(%v, %d): %v, error %d", periods, days, turns, e)
			}
		}
	}
}
