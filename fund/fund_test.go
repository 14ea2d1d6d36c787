package fund_test

import (
	"slices"
	"testing"

	"lombard/api"
	"lombard/fund"
)

// limits is a fund in which everything is as great as can be.
func limits() api.Fund {
	f := plain(12)
	f.Cash, f.Begin, f.Bars = 1<<40, 8, 64
	for day := range 12 {
		f.In[day] = api.Span{Min: 1 << 30, Max: 1 << 30}
		f.Bonds[day], f.Sell[day] = 1<<30, 64
		f.Prices[day] = api.Span{Min: 1 << 20, Max: 1 << 20}
	}
	f.Groups = slices.Repeat([]api.Group{group(1<<30, 1<<30, 12)}, 8)
	f.Ways = slices.Repeat([]api.Spread{way(7, 0, 12), way(0, 7, 12)}, 12)
	return f
}

// P9.1: what is a fund
func TestCheck(t *testing.T) {
	for i, f := range []api.Fund{
		example(50), example(0), example(1 << 40), limits(), plain(1), plain(12), web(8), web(2, way(0, 1, 0), way(1, 0, 0), way(0, 1, 0)),
		changed(func(f *api.Fund) { f.Begin = 0 }), changed(func(f *api.Fund) { f.Begin = 3 }), changed(func(f *api.Fund) { f.Bars = 0 }),
		changed(func(f *api.Fund) { f.In[1] = api.Span{Min: 7, Max: 7} }), changed(func(f *api.Fund) { f.In[1] = api.Span{Max: 1 << 30} }),
		changed(func(f *api.Fund) { f.Prices[1] = api.Span{Min: 7, Max: 7} }), changed(func(f *api.Fund) { f.Prices[1] = api.Span{Max: 1 << 20} }),
		changed(func(f *api.Fund) { f.Groups, f.Ways, f.Begin = nil, nil, 0 }), changed(func(f *api.Fund) { f.Ways = nil }),
	} {
		if e := fund.Check(f); e != api.OK {
			t.Errorf("fund %d, Check(%v): error %d", i, f, e)
		}
	}
	for i, f := range wrongFunds() {
		if e := fund.Check(f); e != api.ErrFund {
			t.Errorf("wrong fund %d, Check(%v): error %d", i, f, e)
		}
	}
}

// wrongFunds are no funds.
func wrongFunds() []api.Fund {
	var l []api.Fund
	add := func(change func(f *api.Fund)) { l = append(l, changed(change)) }
	l = append(l, wrongLengths()...)
	for _, n := range beyond(0, 1<<40) {
		add(func(f *api.Fund) { f.Cash = n })
	}
	for _, n := range beyond(0, 3) {
		add(func(f *api.Fund) { f.Begin = n })
	}
	for _, n := range beyond(0, 64) {
		add(func(f *api.Fund) { f.Bars = n })
		add(func(f *api.Fund) { f.Sell[2] = n })
	}
	for _, n := range beyond(0, 1<<30) {
		add(func(f *api.Fund) { f.Bonds[1] = n })
		add(func(f *api.Fund) { f.Groups[1].Sum = n })
		add(func(f *api.Fund) { f.Groups[2].Limit = n })
		add(func(f *api.Fund) { f.In[0].Min, f.In[0].Max = n, n })
		add(func(f *api.Fund) { f.In[2].Max = n })
		add(func(f *api.Fund) { f.In[2].Min = n })
	}
	for _, n := range beyond(0, 1<<20) {
		add(func(f *api.Fund) { f.Prices[0].Min, f.Prices[0].Max = n, n })
		add(func(f *api.Fund) { f.Prices[2].Max = n })
		add(func(f *api.Fund) { f.Prices[2].Min = n })
	}
	for _, n := range beyond(0, 12) {
		add(func(f *api.Fund) { f.Groups[0].Notice = n })
		add(func(f *api.Fund) { f.Ways[1].Delay = n })
	}
	for _, n := range beyond(0, 2) {
		add(func(f *api.Fund) { f.Ways[0].From = n })
		add(func(f *api.Fund) { f.Ways[1].To = n })
		add(func(f *api.Fund) { f.Ways[0] = way(n, n, 0) })
	}
	add(func(f *api.Fund) { f.In[0] = api.Span{Min: 20, Max: 19} })
	add(func(f *api.Fund) { f.Prices[2] = api.Span{Min: 6, Max: 5} })
	add(func(f *api.Fund) { f.Ways[0] = way(1, 1, 1) })
	add(func(f *api.Fund) { f.Ways = append(f.Ways, way(0, 0, 0)) })
	return l
}

// wrongLengths are no funds, since some list has another length.
func wrongLengths() []api.Fund {
	l := []api.Fund{{}, plain(0), plain(13), plain(1000), {In: spans(0, 0)}, {Bonds: []int{0}}, {Sell: []int{0}}, {Prices: spans(0, 0)}, web(9)}
	add := func(change func(f *api.Fund)) { l = append(l, changed(change)) }
	for _, n := range []int{0, 2, 4} {
		add(func(f *api.Fund) { f.In = plain(n).In })
		add(func(f *api.Fund) { f.Bonds = row(n, 0) })
		add(func(f *api.Fund) { f.Sell = row(n, 0) })
		add(func(f *api.Fund) { f.Prices = plain(n).Prices })
	}
	add(func(f *api.Fund) { f.Groups = make([]api.Group, 9) })
	add(func(f *api.Fund) { f.Groups = f.Groups[:2] }) // the group 2 of a way is not there
	add(func(f *api.Fund) { f.Groups = nil })
	add(func(f *api.Fund) { f.Groups, f.Ways = nil, nil }) // Begin is 1
	add(func(f *api.Fund) { f.Ways = slices.Repeat([]api.Spread{way(0, 1, 0)}, 25) })
	return l
}

// P9.1: all functions return the error of a wrong fund first, whatever else is wrong
func TestWrongFunds(t *testing.T) {
	for _, f := range wrongFunds() {
		for _, q := range []question{
			{f: f, day: 1, begins: []int{0}, r: greedy(), plan: []int{0, 0, 0}, in: []int{10, 10, 10}, prices: []int{8, 10, 5}},
			{f: f, day: -1, begins: []int{1, 0}, r: api.Run{}, plan: []int{9}, in: nil, prices: nil},
			{f: f},
		} {
			for i, x := range answers(q) {
				if x.e != api.ErrFund || !x.isZero() {
					t.Errorf("function %d with %v: %v, error %d", i, q, x.result, x.e)
				}
			}
		}
	}
}
