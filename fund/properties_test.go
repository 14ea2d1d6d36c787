package fund_test

import (
	"math/rand/v2"
	"slices"
	"testing"

	"lombard/api"
)

// paid is a random fund with just as much cash as one of its plans needs, and that plan.
func paid(r *rand.Rand, s size) (api.Fund, []int) {
	f := someFund(r, s)
	plan := somePlan(r, f)
	f.Cash += slowLack(f, slowNeeds(f), plan)
	return f, plan
}

// P9.7: with a sound plan the cash is never less than 0, in whatever allowed run, with whatever inflows and prices
func TestShopCanPay(t *testing.T) {
	r := random(11)
	empty := 0
	for i := range 800 {
		f, plan := paid(r, []size{tiny, small, small, great}[i%4])
		if l, ok := planned(t, f); ok && r.IntN(2) == 0 {
			plan = l
		}
		if !sound(t, f, plan) {
			t.Fatalf("Sound(%v, %v): false", f, plan)
		}
		var runs []api.Run
		for day := range f.In {
			runs = append(runs, exampled(t, f, day), someRun(r, f))
		}
		for _, x := range runs {
			for _, flows := range [][2][]int{{leastOf(f.In), leastOf(f.Prices)}, {someWithin(r, f.In), someWithin(r, f.Prices)}} {
				least := slices.Min(followed(t, f, plan, x, flows[0], flows[1]))
				if least < 0 {
					t.Fatalf("Follow(%v, %v, %v, %v): %d", f, plan, x, flows, least)
				}
				if least == 0 {
					empty++
				}
			}
		}
	}
	if empty < 500 {
		t.Errorf("only %d times there was nothing left", empty)
	}
}

// P9.8: with a plan that is not sound the cash becomes less than 0 in the run of Example for a day whose need is not met, with the least inflows and prices
func TestShopCannotPay(t *testing.T) {
	r := random(12)
	broken := 0
	for i := range 1500 {
		f := someFund(r, []size{tiny, small, small, small, great}[i%5])
		plan := somePlan(r, f)
		if sound(t, f, plan) {
			continue
		}
		brought, unmet := 0, 0
		for day, need := range needed(t, f) {
			brought += plan[day] * f.Prices[day].Min
			if brought >= need {
				continue
			}
			unmet++
			if l := followed(t, f, plan, exampled(t, f, day), leastOf(f.In), leastOf(f.Prices)); l[day] != brought-need {
				t.Fatalf("Follow(%v, %v) in the run of day %d: %v, want %d", f, plan, day, l, brought-need)
			}
		}
		if unmet == 0 {
			t.Fatalf("Sound(%v, %v): false, but all needs are met", f, plan)
		}
		broken++
	}
	if broken < 300 {
		t.Errorf("only %d plans were not sound", broken)
	}
}

// easier is a fund with more cash, greater least inflows or prices, more bars, fewer ways, longer delays, or smaller sums or limits.
func easier(r *rand.Rand, f api.Fund) api.Fund {
	f.In, f.Sell, f.Prices = slices.Clone(f.In), slices.Clone(f.Sell), slices.Clone(f.Prices)
	f.Groups, f.Ways = slices.Clone(f.Groups), slices.Clone(f.Ways)
	day := r.IntN(len(f.In))
	switch kind := r.IntN(9); {
	case kind == 0:
		f.Cash += r.IntN(10)
	case kind == 1:
		f.In[day].Min = f.In[day].Max
	case kind == 2:
		f.Prices[day].Min = f.Prices[day].Max
	case kind == 3:
		f.Bars = min(64, f.Bars+1)
	case kind == 4:
		f.Sell[day] = min(64, f.Sell[day]+1)
	case kind <= 6 && len(f.Ways) > 0:
		i := r.IntN(len(f.Ways))
		f.Ways[i].Delay = min(12, f.Ways[i].Delay+1)
		if kind == 6 {
			f.Ways = slices.Delete(f.Ways, i, i+1)
		}
	case len(f.Groups) > 0:
		g := &f.Groups[r.IntN(len(f.Groups))]
		if kind == 7 {
			g.Sum = r.IntN(g.Sum + 1)
		} else {
			g.Limit = r.IntN(g.Limit + 1)
		}
	}
	return f
}

// P9.9: in an easier fund a sound plan stays sound, no more is needed, no more capital, and no fewer groups are borne
func TestStaysSound(t *testing.T) {
	r := random(13)
	less := 0
	for i := range 1200 {
		f, plan := paid(r, []size{small, small, small, great}[i%4])
		if !sound(t, f, plan) {
			t.Fatalf("Sound(%v, %v): false", f, plan)
		}
		for range 5 {
			x := easier(r, f)
			before, after := needed(t, f), needed(t, x)
			for day := range before {
				if after[day] > before[day] {
					t.Fatalf("Needs(%v): %v, of %v: %v", f, before, x, after)
				}
			}
			if !slices.Equal(before, after) {
				less++
			}
			if !sound(t, x, plan) || capital(t, x) > 0 || bears(t, x) < bears(t, f) {
				t.Fatalf("%v is sound for %v, not for %v", plan, f, x)
			}
			f = x
		}
	}
	if less < 500 {
		t.Errorf("only %d times less was needed", less)
	}
}

// P9.10: with less capital more no plan is sound, with it one is; with more groups at the beginning no plan is sound, with so many one is
func TestJustEnough(t *testing.T) {
	r := random(14)
	poor, borne := 0, 0
	for i := range 600 {
		f := someFund(r, []size{small, small, small, great}[i%4])
		x, more := f, capital(t, f)
		x.Cash += more
		if l, ok := planned(t, x); !ok || !sound(t, x, l) {
			t.Fatalf("Capital(%v): %d, but that is too little", f, more)
		}
		for _, n := range []int{1, 2, 1 + r.IntN(more+1)} {
			if x.Cash = f.Cash + more - n; more >= n {
				poor++
				if l, ok := planned(t, x); ok {
					t.Fatalf("Capital(%v): %d, but with %d less %v is sound", f, more, n, l)
				}
			}
		}
		x, most := f, bears(t, f)
		for x.Begin = 0; x.Begin <= len(f.Groups); x.Begin++ {
			if l, ok := planned(t, x); ok != (x.Begin <= most) {
				t.Fatalf("Bears(%v): %d, but with %d: %v, %v", f, most, x.Begin, l, ok)
			}
			borne++
		}
	}
	if poor < 300 || borne < 1000 {
		t.Errorf("only %d, %d", poor, borne)
	}
}

// P9.11: a start is at most that of another group and the delay of a way from it, and there is such a way for each group with which the run does not begin
func TestShortestWays(t *testing.T) {
	r := random(15)
	for i := range 3000 {
		f := someFund(r, []size{small, great}[i%2])
		begins := someBegins(r, f, len(f.Groups))
		l := started(t, f, begins)
		for group, start := range l {
			comes := func(w api.Spread) bool { return w.To == group && l[w.From] >= 0 && l[w.From]+w.Delay == start }
			if begin := slices.Contains(begins, group); begin && start != 0 || !begin && start >= 0 && !slices.ContainsFunc(f.Ways, comes) || start < -1 {
				t.Fatalf("Starts(%v, %v): %v", f, begins, l)
			}
		}
		for _, w := range f.Ways {
			if l[w.From] >= 0 && (l[w.To] < 0 || l[w.To] > l[w.From]+w.Delay) {
				t.Fatalf("Starts(%v, %v): %v, but there is the way %v", f, begins, l, w)
			}
		}
	}
}

// P9.2: with more groups at the beginning no less is taken, and if all begin, by each day all that can be
func TestMoreBegin(t *testing.T) {
	r := random(16)
	for i := range 300 {
		f := someFund(r, []size{small, great}[i%2])
		day, before := r.IntN(len(f.In)), 0
		for f.Begin = 0; f.Begin <= len(f.Groups); f.Begin++ {
			_, n := worst(t, f, day)
			if n < before {
				t.Fatalf("Worst(%v, %d): %d, before %d", f, day, n, before)
			}
			before = n
		}
		most := 0
		for _, g := range f.Groups {
			most += min(g.Sum, g.Limit*max(0, day+1-g.Notice))
		}
		if before != most {
			t.Fatalf("Worst(%v, %d): %d, want %d", f, day, before, most)
		}
	}
}
