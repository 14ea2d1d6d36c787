package ticket_test

import (
	"slices"
	"testing"

	"lombard/api"
	"lombard/ticket"
)

// notCuts are lists that are neither edges nor halves.
func notCuts() [][]int {
	l := [][]int{nil, {}, {1}, row(7, 1), row(17, 1), row(1000, 1)}
	for i := range 8 {
		for _, n := range beyond(-1, 9) {
			x := one()
			x[i] = n
			l = append(l, x)
		}
	}
	return l
}

// P3.2: agreements, and halves that do not fit
func TestFit(t *testing.T) {
	for i, x := range []struct {
		edge, half []int
		n          int
		e          api.Errno
	}{
		{one(), torn(), 5, api.OK}, {one(), one(), 8, api.OK}, {other(), torn(), 0, api.ErrFit},
		{row(16, 0), row(16, 0), 16, api.OK}, {row(16, 9), row(16, 9), 16, api.OK}, {row(8, 0), row(8, 0), 8, api.OK},
		{one(), []int{1, 2, 3, 4, -1, -1, -1, -1}, 4, api.OK}, {one(), []int{-1, -1, -1, -1, 5, 6, 7, 8}, 4, api.OK},
		{one(), []int{1, 2, 3, -1, -1, -1, -1, -1}, 0, api.ErrFit}, {one(), row(8, -1), 0, api.ErrFit}, {one(), row(16, -1), 0, api.ErrFit},
		{one(), append(one(), 9), 0, api.ErrFit}, {append(one(), 9), one(), 0, api.ErrFit}, {append(one(), 9), append(one(), -1), 8, api.OK},
		{one(), []int{1, 2, 3, 4, 5, 6, 7, 9}, 0, api.ErrFit}, {one(), []int{0, 2, 3, 4, 5, 6, 7, 8}, 0, api.ErrFit}, {one(), []int{-1, -1, -1, 4, 5, 6, 7, 0}, 0, api.ErrFit},
		{torn(), one(), 0, api.ErrEdge}, {torn(), torn(), 0, api.ErrEdge}, {row(8, -1), row(8, -1), 0, api.ErrEdge}, {row(7, 1), row(9, 1), 0, api.ErrEdge},
	} {
		if n, e := ticket.Fit(x.edge, x.half); n != x.n || e != x.e {
			t.Errorf("Fit %d: %d, error %d, want %d, %d", i, n, e, x.n, x.e)
		}
	}
	for _, l := range notCuts() {
		if n, e := ticket.Fit(l, one()); n != 0 || e != api.ErrEdge {
			t.Errorf("Fit of the edge %v: %d, error %d", l, n, e)
		}
		if n, e := ticket.Fit(one(), l); n != 0 || e != api.ErrEdge {
			t.Errorf("Fit of the half %v: %d, error %d", l, n, e)
		}
	}
}

// P3.2: a half fits exactly if the definition says so, whatever is torn
func TestFitAny(t *testing.T) {
	r := random(4)
	fits := 0
	for range 20000 {
		edge := someEdge(r)
		half := tear(r, edge)
		if r.IntN(3) == 0 {
			half[r.IntN(len(half))] = r.IntN(10)
		}
		n, e := ticket.Fit(edge, half)
		known := 0
		for _, x := range half {
			known += min(x+1, 1)
		}
		if slowFit(edge, half) != (e == api.OK) || e == api.OK && n != known || e != api.OK && (n != 0 || e != api.ErrFit) {
			t.Fatalf("Fit(%v, %v): %d, error %d", edge, half, n, e)
		}
		if e == api.OK {
			fits++
		}
	}
	if fits < 5000 || fits > 18000 {
		t.Errorf("%d halves fit", fits)
	}
}

// P3.2: the half that fits best, if there is just one
func TestBest(t *testing.T) {
	four, five := []int{1, 2, 3, 4, -1, -1, -1, -1}, torn()
	wrong := []int{1, 2, 3, 4, 5, 6, 7, 9}
	for i, x := range []struct {
		halves [][]int
		n      int
		e      api.Errno
	}{
		{[][]int{five, one(), other()}, 1, api.OK}, {[][]int{five, five}, 0, api.ErrNone}, {nil, 0, api.ErrNone}, {[][]int{}, 0, api.ErrNone},
		{[][]int{four}, 0, api.OK}, {[][]int{other(), four}, 1, api.OK}, {[][]int{other()}, 0, api.ErrNone}, {[][]int{row(8, -1)}, 0, api.ErrNone},
		{[][]int{four, four, five}, 2, api.OK}, {[][]int{five, four, four}, 0, api.OK}, {[][]int{four, five, four}, 1, api.OK},
		{[][]int{five, five, one()}, 2, api.OK}, {[][]int{one(), five, one()}, 0, api.ErrNone}, {[][]int{five, four, five}, 0, api.ErrNone},
		{[][]int{four, five, five, four}, 0, api.ErrNone}, {[][]int{four, five, five, one(), four}, 3, api.OK},
		{[][]int{five, wrong, wrong}, 0, api.OK}, {[][]int{wrong, wrong}, 0, api.ErrNone}, {[][]int{row(16, 1), five}, 1, api.OK},
		{append(slices.Repeat([][]int{four}, 15), five), 15, api.OK}, {slices.Repeat([][]int{other()}, 16), 0, api.ErrNone},
		{slices.Repeat([][]int{five}, 17), 0, api.ErrEdge}, {append(slices.Repeat([][]int{four}, 16), five), 0, api.ErrEdge}, {make([][]int, 17), 0, api.ErrEdge},
		{[][]int{one(), {1}}, 0, api.ErrEdge}, {[][]int{nil}, 0, api.ErrEdge},
	} {
		if n, e := ticket.Best(one(), x.halves); n != x.n || e != x.e {
			t.Errorf("Best %d: %d, error %d, want %d, %d", i, n, e, x.n, x.e)
		}
	}
	for _, l := range notCuts() {
		if n, e := ticket.Best(l, [][]int{one()}); n != 0 || e != api.ErrEdge {
			t.Errorf("Best for %v: %d, error %d", l, n, e)
		}
		if n, e := ticket.Best(one(), [][]int{torn(), l, one()}); n != 0 || e != api.ErrEdge {
			t.Errorf("Best of %v: %d, error %d", l, n, e)
		}
	}
	if n, e := ticket.Best(torn(), [][]int{torn()}); n != 0 || e != api.ErrEdge {
		t.Errorf("Best for a half: %d, error %d", n, e)
	}
	if n, e := ticket.Best(row(7, 1), nil); n != 0 || e != api.ErrEdge {
		t.Errorf("Best for a short edge of none: %d, error %d", n, e)
	}
}

// P3.2: of any halves, the best one is greater than all others that fit
func TestBestAny(t *testing.T) {
	r := random(5)
	found := 0
	for range 5000 {
		edge := someEdge(r)
		var halves [][]int
		var known []int // 0 of those that do not fit
		for range r.IntN(api.MaxHalves + 1) {
			half := tear(r, edge)
			if r.IntN(3) == 0 {
				half = tear(r, someEdge(r))
			}
			n, _ := ticket.Fit(edge, half)
			halves, known = append(halves, half), append(known, n)
		}
		n, e := ticket.Best(edge, halves)
		most := slices.Max(append([]int{0}, known...))
		alone := most > 0 && slices.Index(known, most) == len(known)-1-slices.Index(reversed(known), most)
		if alone != (e == api.OK) || !alone && (n != 0 || e != api.ErrNone) || alone && known[n] != most {
			t.Fatalf("Best(%v, %v): %d, error %d", edge, halves, n, e)
		}
		if alone {
			found++
		}
	}
	if found < 1000 || found > 4500 {
		t.Errorf("%d were found", found)
	}
}

func reversed(l []int) []int {
	l = slices.Clone(l)
	slices.Reverse(l)
	return l
}
