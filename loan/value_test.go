package loan_test

import (
	"math"
	"math/rand/v2"
	"slices"
	"testing"

	"lombard/api"
	"lombard/loan"
)

// crafts is what Crafts returns without an error.
func crafts(t *testing.T, m api.Market, kind int) []int {
	t.Helper()
	l, e := loan.Crafts(m, kind)
	if e != api.OK {
		t.Fatalf("Crafts(%v, %d): error %d", m, kind, e)
	}
	return l
}

// valued is what Value returns without an error.
func valued(t *testing.T, m api.Market, w api.Ware) api.Span {
	t.Helper()
	v, e := loan.Value(m, w)
	if e != api.OK {
		t.Fatalf("Value(%v, %v): error %d", m, w, e)
	}
	return v
}

// checkMarket checks which error a market has: it is the first one of all functions.
func checkMarket(t *testing.T, name string, m api.Market, ok bool) {
	t.Helper()
	if ok {
		errs(t, name, loan.CheckMarket(m), api.OK)
		return
	}
	errs(t, name, loan.CheckMarket(m), api.ErrMarket)
	for _, kind := range []int{0, -1, 8} {
		l, e := loan.Crafts(m, kind)
		v, f := loan.Value(m, api.Ware{Kind: kind, Weight: span(kind, 0)})
		if e != api.ErrMarket || f != api.ErrMarket || len(l) > 0 || v != (api.Span{}) {
			t.Errorf("%s: %v, %d; %v, %d", name, l, e, v, f)
		}
	}
}

// P2.1: markets, at the limits and one beyond
func TestCheckMarket(t *testing.T) {
	checkMarket(t, "the market of the document", market(), true)
	checkMarket(t, "the zero market", api.Market{}, false)
	checkMarket(t, "the least market", api.Market{Fade: []int{0}, Few: 1}, true)
	for n, ok := range map[int]bool{0: false, 1: true, 8: true, 9: false, 1 << 16: false} {
		checkMarket(t, "kinds", api.Market{Fade: make([]int, n), Few: 1}, ok)
	}
	for n, ok := range map[int]bool{0: true, 64: true, 65: false, 1 << 16: false} {
		checkMarket(t, "sales", api.Market{Fade: []int{64}, Few: 16, Sales: make([]api.Sale, n)}, ok)
	}
	for _, x := range []struct {
		name        string
		least, most int
		set         func(m *api.Market, n int)
	}{
		{"Fade", 0, 64, func(m *api.Market, n int) { m.Fade[1] = n }},
		{"Metal", 0, 100000, func(m *api.Market, n int) { m.Metal = n }},
		{"Day", 800, 36500, func(m *api.Market, n int) { m.Day = n }},
		{"Few", 1, 16, func(m *api.Market, n int) { m.Few = n }},
		{"Kind of a sale", 0, 1, func(m *api.Market, n int) { m.Sales[3].Kind = n }},
		{"Day of a sale", 0, 800, func(m *api.Market, n int) { m.Sales[3].Day = n }},
		{"Weight of a sale", 0, 1000, func(m *api.Market, n int) { m.Sales[0].Weight = n }},
		{"Metal of a sale", 0, 100000, func(m *api.Market, n int) { m.Sales[3].Metal = n }},
		{"Price of a sale", 0, 1 << 30, func(m *api.Market, n int) { m.Sales[0].Price = n }},
	} {
		for _, n := range []int{x.least, x.least + 1, x.most} {
			m := market()
			x.set(&m, n)
			checkMarket(t, x.name, m, true)
		}
		for _, n := range beyond(x.least, x.most) {
			m := market()
			x.set(&m, n)
			checkMarket(t, x.name, m, false)
		}
	}
	empty := api.Market{Fade: []int{0}, Few: 1}
	for _, n := range beyond(0, 36500) {
		empty.Day = n
		checkMarket(t, "Day without sales", empty, false)
	}
}

// P2.2: the examples, no sales, and kinds that there are not
func TestCrafts(t *testing.T) {
	for kind, want := range [][]int{{150, 500, 600}, {0}} {
		if l := crafts(t, market(), kind); !slices.Equal(l, want) {
			t.Errorf("Crafts of %d: %v", kind, l)
		}
	}
	if l := crafts(t, api.Market{Fade: []int{5, 7}, Few: 1}, 1); len(l) > 0 {
		t.Errorf("Crafts without sales: %v", l)
	}
	for _, kind := range beyond(0, 1) {
		if l, e := loan.Crafts(market(), kind); e != api.ErrRange || len(l) > 0 {
			t.Errorf("Crafts of %d: %v, %d", kind, l, e)
		}
	}
}

// P2.2: what fades each whole year, rounded down each time, and is at least 0 before
func TestFading(t *testing.T) {
	for _, x := range []struct{ fade, age, weight, metal, price, want int }{
		{32, 0, 0, 0, 1000, 1000}, {32, 364, 0, 0, 1000, 1000}, {32, 365, 0, 0, 1000, 500}, {32, 729, 0, 0, 1000, 500}, {32, 730, 0, 0, 1000, 250}, {32, 1095, 0, 0, 1000, 125},
		{63, 365, 0, 0, 100, 98}, {63, 730, 0, 0, 100, 96}, {63, 1095, 0, 0, 100, 94}, // 63/64 of 100 is 98.4, then 96.9, then 95.4
		{33, 730, 0, 0, 3, 0}, {63, 365, 0, 0, 1, 0}, {63, 364, 0, 0, 1, 1},
		{64, 36500, 0, 0, 1 << 30, 1 << 30}, {64, 36500, 1000, 100000, 1 << 30, 973741824}, {0, 365, 0, 0, 1 << 30, 0}, {0, 364, 0, 0, 1 << 30, 1 << 30}, {1, 1825, 0, 0, 1 << 30, 1}, {1, 2190, 0, 0, 1 << 30, 0},
		{32, 365, 10, 10, 101, 0}, {32, 365, 10, 10, 102, 1}, {32, 0, 10, 10, 100, 0}, {32, 0, 10, 10, 99, 0}, {32, 365, 10, 10, 99, 0}, {64, 0, 1000, 100000, 0, 0}, {33, 365, 1000, 100000, 7, 0},
	} {
		m := api.Market{Fade: []int{1, x.fade}, Day: 36500, Few: 1, Metal: 77, Sales: []api.Sale{{Kind: 1, Day: 36500 - x.age, Weight: x.weight, Metal: x.metal, Price: x.price}}}
		if l := crafts(t, m, 1); !slices.Equal(l, []int{x.want}) {
			t.Errorf("Crafts of %v: %v", x, l)
		}
	}
}

// plain is a market of one kind, with these crafts.
func plain(l ...int) api.Market {
	m := api.Market{Fade: []int{64}, Few: 1}
	for _, n := range l {
		m.Sales = append(m.Sales, api.Sale{Price: n})
	}
	return m
}

// P2.2: the examples, the ends of the value of any number of crafts, and errors in order
func TestValue(t *testing.T) {
	if v := valued(t, market(), api.Ware{Weight: span(10, 12)}); v != span(650, 1200) {
		t.Errorf("Value: %v", v)
	}
	for n, want := range []api.Span{1: span(1, 1), 2: span(1, 2), 3: span(1, 3), 4: span(1, 4), 5: span(2, 4), 6: span(2, 5), 8: span(2, 7), 9: span(3, 7), 12: span(3, 10), 13: span(4, 10), 64: span(16, 49)} {
		if n == 0 || want == (api.Span{}) {
			continue
		}
		l := days(1, n)
		random(1).Shuffle(n, func(i, j int) { l[i], l[j] = l[j], l[i] })
		if v := valued(t, plain(l...), api.Ware{}); v != want {
			t.Errorf("Value of %d crafts: %v, want %v", n, v, want)
		}
	}
	for _, x := range []struct {
		kind   int
		weight api.Span
		want   api.Errno
	}{
		{0, span(0, 0), api.OK}, {0, span(0, 1000), api.OK}, {0, span(1000, 1000), api.OK}, {0, span(7, 7), api.OK},
		{1, span(0, 0), api.ErrNone}, {1, span(0, 1000), api.ErrNone},
		{1, span(1, 0), api.ErrWare}, {0, span(2, 1), api.ErrWare}, {0, span(-1, 1), api.ErrWare}, {0, span(0, 1001), api.ErrWare}, {0, span(1001, 1001), api.ErrWare}, {0, span(-1, -1), api.ErrWare},
		{0, span(math.MinInt, math.MaxInt), api.ErrWare}, {0, span(math.MaxInt, math.MinInt), api.ErrWare}, {-1, span(0, 0), api.ErrWare}, {2, span(0, 0), api.ErrWare}, {math.MaxInt, span(0, 0), api.ErrWare}, {math.MinInt, span(0, 0), api.ErrWare},
	} {
		v, e := loan.Value(market(), api.Ware{Kind: x.kind, Weight: x.weight})
		if e != x.want || e != api.OK && v != (api.Span{}) {
			t.Errorf("Value of %v: %v, %d", x, v, e)
		}
	}
	// sales of other kinds do not count
	m := market()
	for few, want := range map[int]api.Errno{1: api.OK, 3: api.OK, 4: api.ErrNone, 16: api.ErrNone} {
		m.Few = few
		_, e := loan.Value(m, api.Ware{})
		errs(t, "Value with few sales", e, want)
	}
	m.Few, m.Sales = 1, nil
	_, e := loan.Value(m, api.Ware{})
	errs(t, "Value without sales", e, api.ErrNone)
	great := plain(1<<30, 1<<30)
	great.Metal = 100000
	if v := valued(t, great, api.Ware{Weight: span(1, 1000)}); v != span(1<<30+100000, 1<<30+100000000) {
		t.Errorf("the greatest value: %v", v)
	}
	// the price of metal is that of the market, not that of the sales
	dear := api.Market{Fade: []int{64}, Few: 1, Metal: 3, Sales: []api.Sale{{Weight: 2, Metal: 5, Price: 17}}}
	if v := valued(t, dear, api.Ware{Weight: span(4, 6)}); v != span(19, 25) {
		t.Errorf("Value with another price of metal: %v", v)
	}
}

// someMarket is a random market in which some sales are alike.
func someMarket(r *rand.Rand) api.Market {
	m := api.Market{Metal: r.IntN(100), Day: r.IntN(3000), Few: 1 + r.IntN(3)}
	for range 1 + r.IntN(3) {
		m.Fade = append(m.Fade, r.IntN(65))
	}
	for range r.IntN(30) {
		m.Sales = append(m.Sales, api.Sale{Kind: r.IntN(len(m.Fade)), Day: r.IntN(m.Day + 1), Weight: r.IntN(10), Metal: r.IntN(50), Price: r.IntN(600)})
	}
	return m
}

// P2.8: craft and metal lie in the value; so do half of the crafts; with a greater price of metal no value is less
func TestValueProperties(t *testing.T) {
	r := random(2)
	values := 0
	for range 5000 {
		m := someMarket(r)
		low := r.IntN(20)
		w := api.Ware{Kind: r.IntN(len(m.Fade)), Weight: span(low, low+r.IntN(20))}
		v, e := loan.Value(m, w)
		if e == api.ErrNone {
			continue
		}
		errs(t, "Value", e, api.OK)
		values++
		l := crafts(t, m, w.Kind)
		if !slices.IsSorted(l) {
			t.Fatalf("Crafts of %v: %v", m, l)
		}
		// the ends of the value, without metal
		least, most := v.Min-m.Metal*w.Weight.Min, v.Max-m.Metal*w.Weight.Max
		inside := 0
		for _, craft := range l {
			if craft < least || craft > most {
				continue
			}
			inside++
			for weight := w.Weight.Min; weight <= w.Weight.Max; weight++ {
				if n := craft + m.Metal*weight; n < v.Min || n > v.Max {
					t.Fatalf("Value of %v for %v: %v without %d", m, w, v, n)
				}
			}
		}
		if 2*inside < len(l) {
			t.Fatalf("Value of %v for %v: %v, with %d of %d crafts", m, w, v, inside, len(l))
		}
		m.Metal += 1 + r.IntN(5)
		if more := valued(t, m, w); more.Min < v.Min || more.Max < v.Max {
			t.Fatalf("Value of %v with more expensive metal: %v, before %v", m, more, v)
		}
	}
	if values < 1000 {
		t.Errorf("only %d values", values)
	}
}

// P2.9: the order of the sales does not matter
func TestOrderOfSales(t *testing.T) {
	r := random(3)
	for range 2000 {
		m := someMarket(r)
		w := api.Ware{Kind: r.IntN(len(m.Fade)), Weight: span(1, 2)}
		l := crafts(t, m, w.Kind)
		v, e := loan.Value(m, w)
		r.Shuffle(len(m.Sales), func(i, j int) { m.Sales[i], m.Sales[j] = m.Sales[j], m.Sales[i] })
		v2, e2 := loan.Value(m, w)
		if !slices.Equal(l, crafts(t, m, w.Kind)) || v != v2 || e != e2 {
			t.Fatalf("another order of %v: %v, %d; before %v, %d", m, v2, e2, v, e)
		}
	}
}
