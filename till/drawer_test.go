package till_test

import (
	"slices"
	"testing"

	"lombard/api"
	"lombard/till"
)

// wrongDrawers are no drawers.
func wrongDrawers() []api.Drawer {
	nine := []int{9, 8, 7, 6, 5, 4, 3, 2, 1}
	l := []api.Drawer{
		{}, {Coins: []int{}, Have: []int{}}, {Coins: []int{5}}, {Have: []int{5}},
		coins(nine, row(9, 1)...), coins(nine, row(8, 1)...), coins(nine[1:], row(9, 1)...),
		coins([]int{5, 3}, 1), coins([]int{5, 3}, 1, 1, 1),
		coins([]int{5, 5}, 1, 1), coins([]int{3, 5}, 1, 1), coins([]int{9, 5, 5}, 0, 0, 0), coins([]int{9, 3, 5}, 1, 1, 1), coins([]int{3, 5, 1}, 1, 1, 1),
	}
	for _, n := range beyond(1, 50000) {
		l = append(l, coins([]int{n}, 1), coins([]int{n, 1}, 1, 1), coins([]int{50000, n}, 1, 1), coins([]int{7, 5, n}, 1, 1, 1))
	}
	for _, n := range beyond(0, 50) {
		l = append(l, coins([]int{5}, n), coins([]int{5, 3, 1}, 1, 1, n), coins([]int{5, 3, 1}, n, 1, 1), coins([]int{5, 3, 1}, 1, n, 1))
	}
	return l
}

// P8.1: what is a drawer
func TestCheck(t *testing.T) {
	for _, d := range []api.Drawer{
		drawer(), coins([]int{1}, 0), coins([]int{50000}, 50), coins([]int{50000, 49999}, 0, 50), coins([]int{8, 7, 6, 5, 4, 3, 2, 1}, row(8, 50)...),
	} {
		if e := till.Check(d); e != api.OK {
			t.Errorf("Check(%v): error %d", d, e)
		}
	}
	for _, d := range wrongDrawers() {
		if e := till.Check(d); e != api.ErrDrawer {
			t.Errorf("Check(%v): error %d", d, e)
		}
	}
}

// P8.1: the examples of the document, sums that are not paid as greatly as can be, payments with equally many pieces, and the greatest numbers
func TestPay(t *testing.T) {
	for _, x := range []struct {
		d    api.Drawer
		sum  int
		want []int
	}{
		{drawer(), 21, []int{1, 0, 0, 1}},
		{drawer(), 14, []int{0, 0, 2, 0}},
		{drawer(), 24, []int{0, 1, 2, 0}},
		{drawer(), 100, nil},
		{drawer(), 0, row(4, 0)},
		{drawer(), 1, []int{0, 0, 0, 1}},
		{drawer(), 2, nil},
		{drawer(), 62, []int{1, 2, 3, 1}},
		{drawer(), 61, []int{1, 2, 3, 0}},
		{drawer(), 63, nil},
		{coins([]int{9, 7, 5}, 2, 2, 2), 14, []int{1, 0, 1}}, // 9 5 before 7 7
		{coins([]int{9, 7, 5}, 2, 2, 2), 19, []int{1, 0, 2}},
		{coins([]int{9, 8, 4, 3}, 1, 9, 9, 9), 16, []int{0, 2, 0, 0}}, // two pieces before 9 4 3
		{coins([]int{6, 5, 4, 3, 2}, 1, 1, 1, 1, 1), 9, []int{1, 0, 0, 1, 0}},
		{coins([]int{8, 6, 5, 4, 3}, 0, 9, 9, 9, 9), 15, []int{0, 2, 0, 0, 1}}, // 6 6 3 before 6 5 4 and 5 5 5
		{coins([]int{50000}, 50), 2000, nil},
		{coins([]int{50000}, 50), 0, []int{0}},
		{coins([]int{2000}, 1), 2000, []int{1}},
		{coins([]int{40}, 50), 2000, []int{50}},
		{coins([]int{41}, 50), 2000, nil},
		{coins([]int{41, 1}, 50, 50), 2000, []int{48, 32}},
		{coins([]int{8, 7, 6, 5, 4, 3, 2, 1}, row(8, 50)...), 1800, row(8, 50)},
		{coins([]int{8, 7, 6, 5, 4, 3, 2, 1}, row(8, 50)...), 1801, nil},
		{coins([]int{3, 2}, 0, 50), 3, nil},
		{coins([]int{3, 2}, 50, 0), 3, []int{1, 0}},
	} {
		want := api.OK
		if x.want == nil {
			want = api.ErrNone
		}
		if l, e := till.Pay(x.d, x.sum); !slices.Equal(l, x.want) || e != want {
			t.Errorf("Pay(%v, %d): %v, error %d, want %v", x.d, x.sum, l, e, x.want)
		}
	}
}

// P8.1: what is not paid; a wrong drawer comes before a wrong sum, and that before a sum that cannot be paid
func TestPayErrors(t *testing.T) {
	for _, d := range wrongDrawers() {
		for _, sum := range append(beyond(0, 2000), 0, 5) {
			if l, e := till.Pay(d, sum); len(l) > 0 || e != api.ErrDrawer {
				t.Errorf("Pay(%v, %d): %v, error %d", d, sum, l, e)
			}
		}
	}
	for _, sum := range beyond(0, 2000) {
		for _, d := range []api.Drawer{drawer(), coins([]int{50000}, 0), coins([]int{50, 1}, 50, 50)} {
			if l, e := till.Pay(d, sum); len(l) > 0 || e != api.ErrRange {
				t.Errorf("Pay(%v, %d): %v, error %d", d, sum, l, e)
			}
		}
	}
}

// P8.1: the best one of all payments
func TestPaySlowly(t *testing.T) {
	r := random(1)
	none := 0
	for range 4000 {
		d := someDrawer(r, 5, 4)
		sum := worth(d.Coins, somePieces(r, d.Have)) + r.IntN(3)/2
		if sum > 2000 {
			continue
		}
		l, e := till.Pay(d, sum)
		want, ok := slowPay(d, sum)
		if !slices.Equal(l, want) || ok != (e == api.OK) || !ok && e != api.ErrNone {
			t.Fatalf("Pay(%v, %d): %v, error %d, want %v", d, sum, l, e, want)
		}
		if !ok {
			none++
		}
	}
	if none < 200 {
		t.Errorf("only %d sums could not be paid", none)
	}
}

// P8.1: great drawers
func TestPayGreat(t *testing.T) {
	r := random(2)
	for range 400 {
		d, sum := someDrawer(r, 10, 50), r.IntN(2001)
		if len(d.Coins) > 8 {
			continue
		}
		l, e := till.Pay(d, sum)
		if want, ok := slowPayment(d, sum); !slices.Equal(l, want) || ok != (e == api.OK) {
			t.Fatalf("Pay(%v, %d): %v, error %d, want %v", d, sum, l, e, want)
		}
	}
}

// P8.2: the examples of the document, pieces that were given, and edges
func TestChange(t *testing.T) {
	eight := coins([]int{8, 7, 6, 5, 4, 3, 2, 1}, row(8, 50)...)
	for _, x := range []struct {
		d     api.Drawer
		given []int
		price int
		want  []int
		e     api.Errno
	}{
		{drawer(), []int{1, 0, 0, 0}, 13, []int{0, 0, 1, 0}, api.OK},
		{drawer(), []int{0, 1, 0, 0}, 13, nil, api.ErrShort},
		{drawer(), []int{1, 1, 0, 0}, 4, nil, api.ErrNone},
		{drawer(), []int{2, 0, 0, 0}, 0, []int{2, 0, 0, 0}, api.OK}, // one of those that were given
		{drawer(), []int{0, 2, 0, 1}, 21, row(4, 0), api.OK},
		{drawer(), []int{0, 2, 0, 1}, 22, nil, api.ErrShort},
		{drawer(), []int{0, 2, 0, 1}, 20, []int{0, 0, 0, 1}, api.OK},
		{drawer(), row(4, 0), 0, row(4, 0), api.OK},
		{drawer(), row(4, 0), 1, nil, api.ErrShort},
		{drawer(), []int{0, 0, 0, 5}, 0, []int{0, 0, 0, 5}, api.OK}, // 6 pieces of 1 are there
		{drawer(), []int{50, 0, 0, 0}, 0, []int{50, 0, 0, 0}, api.OK},
		{drawer(), []int{50, 0, 0, 0}, 1<<63 - 1, nil, api.ErrShort},
		{coins([]int{40}, 50), []int{50}, 0, []int{50}, api.OK},
		{coins([]int{20}, 50), []int{50}, 0, []int{50}, api.OK},
		{coins([]int{50, 20}, 0, 50), []int{40, 0}, 0, []int{40, 0}, api.OK},
		{coins([]int{50, 20}, 0, 50), []int{40, 1}, 20, []int{40, 0}, api.OK},
		{coins([]int{50, 20}, 0, 50), []int{40, 1}, 19, nil, api.ErrRange},
		{coins([]int{50000, 20}, 0, 50), []int{1, 50}, 49000, []int{0, 100}, api.OK}, // 100 pieces of 20
		{coins([]int{50000, 20}, 0, 49), []int{1, 50}, 49000, nil, api.ErrNone},
		{coins([]int{50000, 20}, 0, 49), []int{1, 50}, 48999, nil, api.ErrRange},
		{coins([]int{50000, 20}, 0, 49), []int{50, 0}, 2498000, nil, api.ErrNone},
		{coins([]int{50000, 20}, 0, 49), []int{50, 0}, 2497999, nil, api.ErrRange},
		{coins([]int{50000, 20}, 0, 49), []int{50, 0}, 2500000, row(2, 0), api.OK},
		{eight, row(8, 50), 0, []int{100, 100, 50, 0, 0, 0, 0, 0}, api.OK},
	} {
		if l, e := till.Change(x.d, x.given, x.price); !slices.Equal(l, x.want) || e != x.e {
			t.Errorf("Change(%v, %v, %d): %v, error %d, want %v, error %d", x.d, x.given, x.price, l, e, x.want, x.e)
		}
	}
}

// P8.2: what is no change; a wrong drawer comes before what is given and the price
func TestChangeErrors(t *testing.T) {
	wrong := [][]int{nil, {}, row(3, 0), row(5, 0), row(1000, 0)}
	for _, n := range beyond(0, 50) {
		wrong = append(wrong, []int{n, 0, 0, 0}, []int{0, 1, 0, n}, []int{50, n, 50, 50})
	}
	for _, d := range wrongDrawers() {
		for _, price := range []int{-1, 0, 5, 1 << 40} {
			for _, given := range append(wrong[:8:8], row(len(d.Coins), 1)) {
				if l, e := till.Change(d, given, price); len(l) > 0 || e != api.ErrDrawer {
					t.Errorf("Change(%v, %v, %d): %v, error %d", d, given, price, l, e)
				}
			}
		}
	}
	for _, given := range wrong {
		for _, price := range []int{-1, 0, 5, 1<<63 - 1} {
			if l, e := till.Change(drawer(), given, price); len(l) > 0 || e != api.ErrRange {
				t.Errorf("Change of %v for %d: %v, error %d", given, price, l, e)
			}
		}
	}
	for _, price := range []int{-1, -5, -1 << 63, -1 << 62} {
		for _, given := range [][]int{row(4, 0), {1, 0, 0, 0}, row(4, 50)} {
			if l, e := till.Change(drawer(), given, price); len(l) > 0 || e != api.ErrRange {
				t.Errorf("Change of %v for %d: %v, error %d", given, price, l, e)
			}
		}
	}
}

// slowChange is the best one of all payments, with its error.
func slowChange(d api.Drawer, given []int, price int) ([]int, api.Errno) {
	over := worth(d.Coins, given) - price
	if over < 0 {
		return nil, api.ErrShort
	}
	if over > 2000 {
		return nil, api.ErrRange
	}
	together := coins(d.Coins)
	for i, n := range given {
		together.Have = append(together.Have, n+d.Have[i])
	}
	l, ok := slowPayment(together, over)
	if !ok {
		return nil, api.ErrNone
	}
	return l, api.OK
}

// P8.2: random drawers and prices
func TestChangeSlowly(t *testing.T) {
	r := random(3)
	seen := map[api.Errno]int{}
	for range 3000 {
		d := someDrawer(r, 6, 1+r.IntN(50))
		given := somePieces(r, row(len(d.Coins), 1+r.IntN(50)))
		price := worth(d.Coins, given)
		price = max(0, price-r.IntN(1+min(price, 2200))+r.IntN(4)/3*r.IntN(30))
		l, e := till.Change(d, given, price)
		want, f := slowChange(d, given, price)
		if !slices.Equal(l, want) || e != f {
			t.Fatalf("Change(%v, %v, %d): %v, error %d, want %v, error %d", d, given, price, l, e, want, f)
		}
		seen[e]++
	}
	for _, e := range []api.Errno{api.OK, api.ErrShort, api.ErrRange, api.ErrNone} {
		if seen[e] < 20 {
			t.Errorf("the error %d was seen %d times only", e, seen[e])
		}
	}
}
