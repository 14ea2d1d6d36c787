package loan_test

import (
	"math"
	"testing"

	"lombard/api"
	"lombard/loan"
)

// checkDeal checks which error a deal has: it is the first one of all functions.
func checkDeal(t *testing.T, name string, d api.Deal, ok bool) {
	t.Helper()
	if ok {
		errs(t, name, loan.Check(d), api.OK)
		return
	}
	errs(t, name, loan.Check(d), api.ErrDeal)
	for _, l := range [][]api.Act{nil, {{}}, {renew(d.Start + 100)}} {
		_, at, e := ran(t, d, l)
		if e != api.ErrDeal || at != 0 {
			t.Errorf("%s: Run: %d, error %d", name, at, e)
		}
		for _, day := range []int{-1, 100, d.Start} {
			a, e := loan.Owe(d, l, day)
			n, f := loan.Legal(d, l, day)
			if e != api.ErrDeal || f != api.ErrDeal || a != (api.Account{}) || n != 0 {
				t.Errorf("%s: Owe: %v, %d; Legal: %d, %d", name, a, e, n, f)
			}
		}
	}
	for _, until := range []int{-1, d.Start, 36500} {
		if l, e := loan.Keep(d, until); e != api.ErrDeal || len(l) > 0 {
			t.Errorf("%s: Keep: %v, %d", name, l, e)
		}
	}
}

// P2.1: deals, at the limits and one beyond
func TestCheck(t *testing.T) {
	checkDeal(t, "the deal of the document", deal(), true)
	checkDeal(t, "the zero deal", api.Deal{}, false)
	checkDeal(t, "the least deal", api.Deal{Tariff: api.Tariff{Term: 1}, Sum: 1}, true)
	for _, x := range []struct {
		name        string
		least, most int
		set         func(d *api.Deal, n int)
	}{
		{"Rate of the law", 0, 10000, func(d *api.Deal, n int) { d.Law.Rate = n }},
		{"Cap of the law", 0, 64, func(d *api.Deal, n int) { d.Law.Cap = n }},
		{"Rate", 0, 10000, func(d *api.Deal, n int) { d.Tariff.Rate = n }},
		{"Free", 0, 31, func(d *api.Deal, n int) { d.Tariff.Free = n }},
		{"Fee", 0, 10000, func(d *api.Deal, n int) { d.Tariff.Fee = n }},
		{"Term", 1, 366, func(d *api.Deal, n int) { d.Tariff.Term = n }},
		{"Grace", 0, 60, func(d *api.Deal, n int) { d.Tariff.Grace = n }},
		{"the first closed day", 0, 103, func(d *api.Deal, n int) { d.Closed[0] = n }},
		{"the last closed day", 104, 36500, func(d *api.Deal, n int) { d.Closed[1] = n }},
		{"Start", 0, 36500, func(d *api.Deal, n int) { d.Start = n }},
		{"Sum", 1, 1 << 30, func(d *api.Deal, n int) { d.Sum = n }},
	} {
		for _, n := range []int{x.least, x.most} {
			d := deal()
			x.set(&d, n)
			checkDeal(t, x.name, d, true)
		}
		for _, n := range beyond(x.least, x.most) {
			d := deal()
			x.set(&d, n)
			checkDeal(t, x.name, d, false)
		}
	}
	for name, x := range map[string]struct {
		l  []int
		ok bool
	}{
		"none": {nil, true}, "64": {days(0, 64), true}, "65": {days(0, 65), false}, "far too many": {days(0, 30000), false}, "the first and the last": {[]int{0, 36500}, true},
		"twice": {[]int{103, 103}, false}, "backwards": {[]int{104, 103}, false}, "the last one backwards": {[]int{3, 5, 4}, false}, "before": {[]int{-1}, false}, "after": {[]int{36501}, false}, "before all": {[]int{math.MinInt, 5}, false},
	} {
		d := deal()
		d.Closed = x.l
		checkDeal(t, "closed days: "+name, d, x.ok)
	}
}

// P2.4: acts, at the limits and one beyond; their error is before those of refused acts and of the day
func TestActs(t *testing.T) {
	d := deal()
	d.Sum = 1 << 30
	long := deal()
	long.Tariff.Term = 366
	var many []api.Act
	for range 33 {
		many = append(many, pay(101, 1))
	}
	check := func(name string, d api.Deal, l []api.Act, ok bool) {
		t.Helper()
		out, at, e := ran(t, d, l)
		if (e != api.ErrActs) != ok || e == api.ErrActs && at != 0 {
			t.Errorf("Run of %s: %v, %d, error %d", name, out, at, e)
		}
		if ok {
			return
		}
		for _, day := range []int{-1, 0, 100, 110} {
			a, e := loan.Owe(d, l, day)
			n, f := loan.Legal(d, l, day)
			if e != api.ErrActs || f != api.ErrActs || a != (api.Account{}) || n != 0 {
				t.Errorf("Owe of %s: %v, %d; Legal: %d, %d", name, a, e, n, f)
			}
		}
	}
	check("none", d, nil, true)
	check("32", d, many[:32], true)
	check("33", d, many, false)
	check("far too many", d, make([]api.Act, 1<<16), false)
	for name, x := range map[string]struct {
		least, most int
		act         func(n int) api.Act
	}{
		"Day":               {100, 36500, renew},
		"N of ActPay":       {1, 1 << 30, func(n int) api.Act { return pay(101, n) }},
		"N of ActRenew":     {0, 0, func(n int) api.Act { return api.Act{Day: 101, Kind: api.ActRenew, N: n} }},
		"N of ActHold":      {1, 366, func(n int) api.Act { return hold(101, n) }},
		"N of ActRedeem":    {0, 0, func(n int) api.Act { return api.Act{Day: 101, Kind: api.ActRedeem, N: n} }},
		"Day behind others": {103, 36500, func(n int) api.Act { return redeem(n) }},
	} {
		var before []api.Act
		if name == "Day behind others" {
			before = acts(renew(102), renew(103))
		}
		for _, n := range []int{x.least, x.most} {
			check(name, d, append(before, x.act(n)), true)
		}
		for _, n := range beyond(x.least, x.most) {
			check(name, d, append(before, x.act(n)), false)
			check(name, d, append(before, x.act(n), redeem(110)), false)
		}
	}
	for _, kind := range append(extremes(), days(-2, 9)...) {
		check("Kind without an N", d, acts(api.Act{Day: 101, Kind: kind}), kind == api.ActRenew || kind == api.ActRedeem)
		check("Kind with an N", d, acts(api.Act{Day: 101, Kind: kind, N: 1}), kind == api.ActPay || kind == api.ActHold)
	}
	check("one day", d, acts(renew(101), pay(101, 1), hold(101, 1), pay(101, 1), redeem(101)), true)
	check("days that decrease", d, acts(renew(102), renew(101)), false)
	check("days that decrease at last", d, acts(renew(101), renew(103), renew(102)), false)
	check("ActRedeem twice", d, acts(redeem(101), redeem(101)), false)
	check("what is behind ActRedeem", d, acts(redeem(101), pay(102, 1)), false)
	check("ActRedeem in the middle", d, acts(renew(100), redeem(101), hold(102, 1), renew(103)), false)
	// a list that is wrong somewhere is so before its first act is refused
	check("too late, and wrong", d, acts(renew(1000), pay(1001, 0)), false)
	check("too much, and wrong", d, acts(pay(101, 1<<30), pay(102, 0)), false)
	check("held, and wrong", long, acts(hold(101, 5), hold(102, 5), renew(101)), false)
	check("the zero act", long, make([]api.Act, 1), false)
	early := deal()
	early.Start = 0
	check("an act before all days", early, acts(renew(-1)), false)
	check("an act on the first day", early, acts(renew(0)), true)
}
