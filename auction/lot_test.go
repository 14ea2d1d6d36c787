package auction_test

import (
	"slices"
	"testing"

	"lombard/api"
	"lombard/auction"
)

// wrong checks that a lot is not valid, and that all functions say so, whatever else they are given.
func wrong(t *testing.T, name string, l api.Lot) {
	t.Helper()
	errs(t, name, auction.Check(l), api.ErrLot)
	for _, n := range append(extremes(), 0, 10, 47, -1) {
		a, e := auction.Rung(l, n)
		b, e2 := auction.Next(l, n)
		for _, bids := range [][]api.Bid{nil, bids(), {bid(-1, 0, 10)}, make([]api.Bid, 33)} {
			k, e3 := auction.Sell(l, bids)
			leads, e4 := auction.Room(l, bids)
			if a != 0 || b != 0 || k != (api.Knock{}) || len(leads) > 0 {
				t.Errorf("%s: results %d, %d, %v, %v", name, a, b, k, leads)
			}
			for i, e := range []api.Errno{e, e2, e3, e4} {
				if e != api.ErrLot {
					t.Errorf("%s: function %d: error %d", name, i, e)
				}
			}
		}
	}
}

func right(t *testing.T, name string, l api.Lot) {
	t.Helper()
	errs(t, name, auction.Check(l), api.OK)
	if k, e := auction.Sell(l, nil); k != nobody() || e != api.OK {
		t.Errorf("%s: Sell without bids: %v, error %d", name, k, e)
	}
	if leads, e := auction.Room(l, nil); len(leads) > 0 || e != api.OK {
		t.Errorf("%s: Room without bids: %v, error %d", name, leads, e)
	}
}

// P6.1: what each number of a lot may be
func TestCheckNumbers(t *testing.T) {
	for _, x := range []struct {
		name        string
		least, most int
		change      func(l *api.Lot, n int)
	}{
		{"Start", 1, 100000, func(l *api.Lot, n int) { l.Start = n }},
		{"Reserve", 0, 100000, func(l *api.Lot, n int) { l.Reserve = n }},
		{"the first By", 1, 100000, func(l *api.Lot, n int) { l.Ladder[0].By = n }},
		{"the last By", 1, 100000, func(l *api.Lot, n int) { l.Ladder[1].By = n }},
		{"the first From", 0, 0, func(l *api.Lot, n int) { l.Ladder[0].From = n }},
		{"the second From", 1, 100000, func(l *api.Lot, n int) { l.Ladder[1].From = n }},
		{"the third From", 51, 100000, func(l *api.Lot, n int) { l.Ladder = append(l.Ladder, rise(n, 1)) }},
	} {
		for _, n := range []int{x.least, (x.least + x.most) / 2, x.most} {
			l := lot()
			x.change(&l, n)
			right(t, x.name, l)
		}
		for _, n := range beyond(x.least, x.most) {
			l := lot()
			x.change(&l, n)
			wrong(t, x.name, l)
		}
	}
}

// P6.1: how many steps a ladder has, and in which order
func TestCheckLadder(t *testing.T) {
	for n := range 12 {
		l := ladder(10, 30)
		for i := range n {
			l.Ladder = append(l.Ladder, rise(i, 1))
		}
		if n < 1 || n > 8 {
			wrong(t, "a ladder", l)
			continue
		}
		right(t, "a ladder", l)
		if n > 1 {
			slices.Reverse(l.Ladder)
			wrong(t, "a ladder upside down", l)
			slices.Reverse(l.Ladder)
			l.Ladder[n-1].From = n - 2
			wrong(t, "a step that is there twice", l)
		}
	}
	wrong(t, "nothing", api.Lot{})
	wrong(t, "an empty ladder", api.Lot{Start: 1, Ladder: []api.Rise{}})
}

// P6.2: the examples, and the ends
func TestRung(t *testing.T) {
	top := ladder(100000, 0, rise(0, 100000))
	for _, x := range []struct {
		l       api.Lot
		n, want int
		e       api.Errno
	}{
		{lot(), 47, 45, api.OK}, {lot(), 60, 50, api.OK}, {lot(), 10, 10, api.OK}, {lot(), 14, 10, api.OK}, {lot(), 50, 50, api.OK}, {lot(), 69, 50, api.OK}, {lot(), 70, 70, api.OK},
		{lot(), 9, 0, api.ErrNone}, {lot(), 0, 0, api.ErrNone}, {lot(), -1, 0, api.ErrNone}, {lot(), extremes()[0], 0, api.ErrNone},
		{lot(), 99989, 99970, api.OK}, {lot(), 99990, 99990, api.OK}, {lot(), 100010, 99990, api.OK}, {lot(), extremes()[3], 99990, api.OK},
		{top, 99999, 0, api.ErrNone}, {top, 100000, 100000, api.OK}, {top, 200000, 100000, api.OK},
		{ladder(1, 0, rise(0, 99999)), 99999, 1, api.OK}, {ladder(1, 0, rise(0, 99999)), 100000, 100000, api.OK}, {ladder(1, 0, rise(0, 100000)), 100001, 1, api.OK},
		// what a step below Start says does not count, nor does one behind the rung
		{ladder(10, 0, rise(0, 5), rise(10, 7)), 16, 10, api.OK}, {ladder(10, 0, rise(0, 5), rise(10, 7)), 17, 17, api.OK}, {ladder(10, 0, rise(0, 5), rise(11, 7)), 21, 15, api.OK},
		// one rise passes by several steps
		{ladder(1, 0, rise(0, 10), rise(2, 50), rise(5, 70), rise(11, 3)), 14, 14, api.OK}, {ladder(1, 0, rise(0, 10), rise(2, 50), rise(5, 70), rise(12, 3)), 80, 11, api.OK},
	} {
		if got, e := auction.Rung(x.l, x.n); got != x.want || e != x.e {
			t.Errorf("Rung(%v, %d): %d, error %d, want %d, error %d", x.l, x.n, got, e, x.want, x.e)
		}
	}
}

// P6.2: the examples, and the ends
func TestNext(t *testing.T) {
	for _, x := range []struct {
		l       api.Lot
		n, want int
		e       api.Errno
	}{
		{lot(), 45, 50, api.OK}, {lot(), 50, 70, api.OK}, {lot(), 10, 15, api.OK}, {lot(), 99970, 99990, api.OK}, {lot(), 99990, 0, api.ErrNone},
		{lot(), 0, 0, api.ErrRange}, {lot(), 5, 0, api.ErrRange}, {lot(), 46, 0, api.ErrRange}, {lot(), 55, 0, api.ErrRange}, {lot(), 100010, 0, api.ErrRange}, {lot(), 100000, 0, api.ErrRange},
		{lot(), -1, 0, api.ErrRange}, {lot(), extremes()[0], 0, api.ErrRange}, {lot(), extremes()[3], 0, api.ErrRange},
		{ladder(100000, 0, rise(0, 1)), 100000, 0, api.ErrNone}, {ladder(1, 0, rise(0, 99999)), 1, 100000, api.OK}, {ladder(1, 0, rise(0, 100000)), 1, 0, api.ErrNone},
	} {
		if got, e := auction.Next(x.l, x.n); got != x.want || e != x.e {
			t.Errorf("Next(%v, %d): %d, error %d, want %d, error %d", x.l, x.n, got, e, x.want, x.e)
		}
	}
}

// P6.2: the rung of each number, and the one behind each rung, in random lots
func TestRungs(t *testing.T) {
	r := random(1)
	for range 200 {
		l := someLot(r)
		all := slowRungs(l)
		for range 40 {
			n := all[r.IntN(len(all))] + r.IntN(5) - 2
			want, e := slowRung(all, n), api.OK
			if want < 0 {
				want, e = 0, api.ErrNone
			}
			if got, e2 := auction.Rung(l, n); got != want || e2 != e {
				t.Fatalf("Rung(%v, %d): %d, error %d, want %d, error %d", l, n, got, e2, want, e)
			}
			want, e = slowBehind(all, n), api.OK
			if want < 0 {
				want, e = 0, api.ErrNone
			}
			if !slices.Contains(all, n) {
				e = api.ErrRange
			}
			if got, e2 := auction.Next(l, n); got != want || e2 != e {
				t.Fatalf("Next(%v, %d): %d, error %d, want %d, error %d", l, n, got, e2, want, e)
			}
		}
	}
}
