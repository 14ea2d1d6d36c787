package clerk_test

import (
	"slices"
	"strconv"
	"testing"

	"lombard/api"
	"lombard/clerk"
)

type change = func(s *api.Shop)

// rightShops are changes that leave a shop valid: the edges of what is allowed.
func rightShops() []change {
	days := func(n int) (l []int) {
		for i := range n {
			l = append(l, 36500-n+1+i)
		}
		return l
	}
	l := []change{
		func(s *api.Shop) {},
		func(s *api.Shop) { s.Cash = 0 },
		func(s *api.Shop) { s.Cash = 1 << 40 },
		func(s *api.Shop) { s.Wait = 0 },
		func(s *api.Shop) { s.Wait = 1000 },
		func(s *api.Shop) { s.Years = 0 },
		func(s *api.Shop) { s.Years = 12000 },
		func(s *api.Shop) { s.Pairs = nil },
		func(s *api.Shop) { s.Pairs = slices.Repeat(s.Pairs, 64) },
		func(s *api.Shop) { s.Kinds = []string{"gem"} },
		func(s *api.Shop) { s.Kinds, s.Market.Fade = []string{"gem", "ring"}, []int{0, 64} },
		func(s *api.Shop) { s.Market.Sales = nil },
		func(s *api.Shop) { s.Market.Day = 36500 },
		func(s *api.Shop) { s.Market.Day, s.Market.Sales = 0, nil },
		func(s *api.Shop) { s.Market.Metal = 100000 },
		func(s *api.Shop) { s.Rules = nil },
		func(s *api.Shop) { s.Rules = append(s.Rules, api.Rule{Class: "coat"}) },
		func(s *api.Shop) { s.Law = api.Law{Rate: 0, Cap: 0} },
		func(s *api.Shop) { s.Law.Cap = 64 },
		func(s *api.Shop) { s.Tariff = api.Tariff{Term: 1} },
		func(s *api.Shop) { s.Tariff = api.Tariff{Rate: 10000, Free: 31, Fee: 10000, Term: 366, Grace: 60} },
		func(s *api.Shop) { s.Closed = days(64) },
		func(s *api.Shop) { s.Closed = []int{0, 799, 800} },
		func(s *api.Shop) { s.Start = 1 },
		func(s *api.Shop) { s.Start = 100000 },
		func(s *api.Shop) { s.Ladder[0].By = 100000 },
	}
	return append(l, func(s *api.Shop) {
		for i := range 8 {
			name := "c" + strconv.Itoa(i)
			s.Grammar = append(s.Grammar, api.Class{Name: name})
			s.Kinds = append(s.Kinds, name)
		}
		s.Kinds, s.Market.Fade = s.Kinds[:8], make([]int, 8)
	})
}

// wrongShops are changes after which a shop is not valid.
func wrongShops() []change {
	l := []change{
		func(s *api.Shop) { *s = api.Shop{} },
		func(s *api.Shop) { s.Grammar = nil },
		func(s *api.Shop) { s.Grammar = append(s.Grammar, s.Grammar[0]) },
		func(s *api.Shop) { s.Grammar[1].Name = "Gem" },
		func(s *api.Shop) { s.Grammar[0].Parts = []string{"coat"} },
		func(s *api.Shop) { s.Grammar[0].Traits[0].Values = nil },
		func(s *api.Shop) { s.Pairs[0].Said = "" },
		func(s *api.Shop) { s.Pairs[0].Listed = "a b" },
		func(s *api.Shop) { s.Pairs = slices.Repeat(s.Pairs, 65) },
		func(s *api.Shop) { s.Kinds = nil },
		func(s *api.Shop) { s.Kinds, s.Market.Fade, s.Market.Sales = nil, nil, nil },
		func(s *api.Shop) { s.Kinds = []string{"ring", "gem"} },
		func(s *api.Shop) { s.Kinds = []string{"coat"} },
		func(s *api.Shop) { s.Kinds = []string{""} },
		func(s *api.Shop) { s.Market.Fade = []int{1, 2} },
		func(s *api.Shop) { s.Kinds, s.Market.Fade = []string{"ring", "ring"}, []int{1, 2} },
		func(s *api.Shop) { s.Kinds, s.Market.Fade = []string{"ring", "gem", "ring"}, []int{1, 2, 3} },
		func(s *api.Shop) { s.Kinds, s.Market.Fade = []string{"ring", "coat"}, []int{1, 2} },
		func(s *api.Shop) { s.Kinds, s.Market.Fade = []string{"coat", "ring"}, []int{1, 2} },
		func(s *api.Shop) { s.Market.Fade = []int{65} },
		func(s *api.Shop) { s.Market.Day = 799 },
		func(s *api.Shop) { s.Market.Day, s.Market.Sales = -1, nil },
		func(s *api.Shop) { s.Market.Day = 36501 },
		func(s *api.Shop) { s.Market.Metal = -1 },
		func(s *api.Shop) { s.Market.Metal = 100001 },
		func(s *api.Shop) { s.Market.Few = 0 },
		func(s *api.Shop) { s.Market.Few = 17 },
		func(s *api.Shop) { s.Market.Sales[2].Kind = 1 },
		func(s *api.Shop) { s.Market.Sales = make([]api.Sale, 65) },
		func(s *api.Shop) { s.Rules[0].Class = "" },
		func(s *api.Shop) { s.Rules = append(s.Rules, s.Rules[0]) },
		func(s *api.Shop) { s.Rules[0].Terms.Fraction = 65 },
		func(s *api.Shop) { s.Rules[0].Terms.Cap = 299 },
		func(s *api.Shop) { s.Tariff.Term = 0 },
		func(s *api.Shop) { s.Tariff.Term = 367 },
		func(s *api.Shop) { s.Closed = []int{5, 5} },
		func(s *api.Shop) { s.Closed = []int{-1} },
		func(s *api.Shop) { s.Closed = []int{36501} },
		func(s *api.Shop) { s.Closed = make([]int, 65) },
		func(s *api.Shop) { s.Strong = api.Strong{} },
		func(s *api.Shop) { s.Strong.Staff = []int{1} },
		func(s *api.Shop) { s.Strong.Rooms = make([]api.Chamber, 7) },
		func(s *api.Shop) { s.Strong.Gates[0].B = 3 },
		func(s *api.Shop) { s.Ladder = nil },
		func(s *api.Shop) { s.Ladder[0].From = 1 },
		func(s *api.Shop) { s.Ladder[0].By = 0 },
		func(s *api.Shop) { s.Ladder = append(s.Ladder, s.Ladder...) },
		func(s *api.Shop) { s.Cash, s.Kinds = -1, []string{"coat"} },
	}
	for _, x := range []struct {
		least, most int
		set         func(s *api.Shop, n int)
	}{
		{0, 1 << 40, func(s *api.Shop, n int) { s.Cash = n }},
		{0, 1000, func(s *api.Shop, n int) { s.Wait = n }},
		{0, 12000, func(s *api.Shop, n int) { s.Years = n }},
		{0, 10000, func(s *api.Shop, n int) { s.Law.Rate = n }},
		{0, 64, func(s *api.Shop, n int) { s.Law.Cap = n }},
		{0, 10000, func(s *api.Shop, n int) { s.Tariff.Rate = n }},
		{0, 31, func(s *api.Shop, n int) { s.Tariff.Free = n }},
		{0, 10000, func(s *api.Shop, n int) { s.Tariff.Fee = n }},
		{0, 60, func(s *api.Shop, n int) { s.Tariff.Grace = n }},
		{1, 100000, func(s *api.Shop, n int) { s.Start = n }},
	} {
		for _, n := range beyond(x.least, x.most) {
			l = append(l, func(s *api.Shop) { x.set(s, n) })
		}
	}
	return append(l, func(s *api.Shop) {
		// Nine kinds
		for i := range 9 {
			s.Grammar = append(s.Grammar, api.Class{Name: "c" + strconv.Itoa(i)})
			s.Kinds = append(s.Kinds, "c"+strconv.Itoa(i))
		}
		s.Kinds, s.Market.Fade = s.Kinds[1:], make([]int, 9)
	})
}

// P11.1: valid shops, and clerks at the beginning
func TestRightShops(t *testing.T) {
	for i, x := range rightShops() {
		s := changed(x)
		if e := clerk.Check(s); e != api.OK {
			t.Errorf("shop %d: error %d", i, e)
			continue
		}
		c, e := clerk.New(s)
		if c == nil || e != api.OK {
			t.Fatalf("New of shop %d: error %d", i, e)
		}
		if told(c) != newSlow(s).told() || c.Day() != s.Market.Day || c.Cash() != s.Cash {
			t.Errorf("shop %d: %s", i, told(c))
		}
		if d, n, e := clerk.Replay(s, nil); d == nil || n != 0 || e != api.OK || told(d) != told(c) {
			t.Errorf("Replay with shop %d: %d, error %d", i, n, e)
		}
	}
}

// P11.1, P11.4: wrong shops
func TestWrongShops(t *testing.T) {
	for i, x := range wrongShops() {
		s := changed(x)
		errs(t, "Check of shop "+strconv.Itoa(i), clerk.Check(s), api.ErrShop)
		if c, e := clerk.New(s); c != nil || e != api.ErrShop {
			t.Errorf("New of shop %d: error %d", i, e)
		}
		for _, l := range [][]string{nil, {"pass"}, {"pass", "", "cash"}} {
			if c, n, e := clerk.Replay(s, l); c != nil || n != 0 || e != api.ErrShop {
				t.Errorf("Replay with shop %d: %d, error %d", i, n, e)
			}
		}
	}
}

// P11.1: what a clerk begins with is that of its shop
func TestBegin(t *testing.T) {
	s := changed(func(s *api.Shop) { s.Cash, s.Market.Day, s.Market.Metal = 12345, 900, 70 })
	c := begin(t, s)
	says(t, c, "cash", "12345 0 0")
	refuses(t, c, api.ErrDay, "day 899")
	// The metal is 70, and the least craft 150: so the value is at least 850, of which 40/64 are lent.
	says(t, c, "take ada 100000 10 10 1 1 1 0 1 12345678 : ring metal=gold", first+" 531")
	if c.Day() != 900 || c.Cash() != 12345-531 {
		t.Errorf("the day %d, the cash %d", c.Day(), c.Cash())
	}
}
