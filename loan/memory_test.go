package loan_test

import (
	"reflect"
	"slices"
	"sync"
	"testing"

	"lombard/api"
	"lombard/loan"
)

// answers are what all functions return.
func answers(m api.Market, rules []api.Rule, d api.Deal, l []api.Act) []any {
	crafts, e := loan.Crafts(m, 0)
	value, e2 := loan.Value(m, api.Ware{Weight: span(10, 12)})
	most, e3 := loan.Most(terms(), value)
	lent, e4 := loan.Lend(terms(), value, 100)
	x, e5 := loan.For(rules, "ring")
	out, at, e6 := loan.Run(d, l)
	a, e7 := loan.Owe(d, l, 120)
	n, e8 := loan.Legal(d, l, 120)
	kept, e9 := loan.Keep(d, 140)
	return []any{crafts, value, most, lent, x, out, at, a, n, kept, e, e2, e3, e4, e5, e6, e7, e8, e9, loan.CheckMarket(m), loan.CheckTerms(terms()), loan.Check(d)}
}

func rules() []api.Rule { return []api.Rule{{Class: "ring", Terms: terms()}, {Class: "fur"}} }

func someDays() []api.Act {
	return acts(pay(101, 1000), renew(105), hold(106, 2), pay(112, 20000), redeem(114))
}

// P2.7: arguments are not changed, results share no memory with them, nor with other results
func TestMemory(t *testing.T) {
	m, l, d, a := market(), rules(), deal(), someDays()
	first := answers(m, l, d, a)
	if !reflect.DeepEqual(m, market()) || !reflect.DeepEqual(l, rules()) || !reflect.DeepEqual(d, deal()) || !reflect.DeepEqual(a, someDays()) {
		t.Fatalf("arguments are changed: %v, %v, %v, %v", m, l, d, a)
	}
	second := answers(m, l, d, a)
	scribble(second)
	third := answers(m, l, d, a)
	clear(m.Sales)
	clear(m.Fade)
	clear(l)
	clear(d.Closed)
	clear(a)
	for i := range first {
		if !reflect.DeepEqual(first[i], third[i]) {
			t.Errorf("result %d: %v, then %v", i, first[i], third[i])
		}
	}
	if again := answers(market(), rules(), deal(), someDays()); !reflect.DeepEqual(first, again) {
		t.Errorf("results change with the arguments: %v, then %v", first, again)
	}
}

// scribble writes over all memory of results.
func scribble(results []any) {
	for _, x := range results {
		switch l := x.(type) {
		case []int:
			for i := range l[:cap(l)] {
				l[:cap(l)][i] = 77
			}
		case []api.Account:
			for i := range l[:cap(l)] {
				l[:cap(l)][i] = api.Account{Principal: 77}
			}
		}
	}
}

// P2: the same arguments have the same result, whatever was called before, or is called at the same time
func TestSameResults(t *testing.T) {
	r := random(13)
	type question struct {
		d api.Deal
		l []api.Act
		m api.Market
	}
	var all []question
	for range 300 {
		d := someDeal(r)
		all = append(all, question{d, someActs(r, d, api.ActPay, api.ActRenew, api.ActHold, api.ActRedeem, 9), someMarket(r)})
	}
	ask := func(l []question) []any {
		var out []any
		for _, q := range l {
			out = append(out, answers(q.m, rules(), q.d, q.l))
		}
		return out
	}
	first := ask(all)
	backwards := slices.Clone(all)
	slices.Reverse(backwards)
	second := ask(backwards)
	slices.Reverse(second)
	if !reflect.DeepEqual(first, second) {
		t.Errorf("other results in another order")
	}
	var group sync.WaitGroup
	for range 4 {
		group.Go(func() {
			if !reflect.DeepEqual(first, ask(all)) {
				t.Errorf("other results at the same time")
			}
		})
	}
	group.Wait()
}

// R3: a nil list and an empty one are the same
func TestNilAndEmpty(t *testing.T) {
	m, d := market(), deal()
	m.Sales, d.Closed = nil, nil
	first := answers(m, nil, d, nil)
	m.Sales, d.Closed = []api.Sale{}, []int{}
	second := answers(m, []api.Rule{}, d, []api.Act{})
	for i := range first {
		if v := reflect.ValueOf(first[i]); v.Kind() == reflect.Slice && v.Len() == 0 {
			if reflect.ValueOf(second[i]).Len() > 0 {
				t.Errorf("result %d: %v", i, second[i])
			}
			continue
		}
		if !reflect.DeepEqual(first[i], second[i]) {
			t.Errorf("result %d: %v, then %v", i, first[i], second[i])
		}
	}
}

// P1: whatever the arguments are, no function panics, and with an error all else is zero
func TestAnyArguments(t *testing.T) {
	r := random(14)
	numbers := append(extremes(), -1, 0, 1, 2, 64, 65, 366, 36500, 36501, 1<<30, 1<<31)
	some := func() int {
		if r.IntN(2) == 0 {
			return r.IntN(3)
		}
		return numbers[r.IntN(len(numbers))]
	}
	for range 100000 {
		m := api.Market{Fade: make([]int, r.IntN(10)), Metal: some(), Day: some(), Few: some()}
		d := api.Deal{Law: api.Law{Rate: some(), Cap: some()}, Tariff: api.Tariff{Rate: some(), Free: some(), Fee: some(), Term: some(), Grace: some()}, Start: some(), Sum: some()}
		x := api.Terms{Fraction: some(), Floor: some(), Cap: some()}
		v := span(some(), some())
		var l []api.Act
		for range r.IntN(4) {
			m.Sales = append(m.Sales, api.Sale{Kind: some(), Day: some(), Weight: some(), Metal: some(), Price: some()})
			d.Closed = append(d.Closed, some())
			l = append(l, api.Act{Day: some(), Kind: some(), N: some()})
		}
		crafts, e := loan.Crafts(m, some())
		value, e2 := loan.Value(m, api.Ware{Kind: some(), Weight: v})
		most, e3 := loan.Most(x, v)
		lent, e4 := loan.Lend(x, v, some())
		out, at, e5 := loan.Run(d, l)
		a, e6 := loan.Owe(d, l, some())
		n, e7 := loan.Legal(d, l, some())
		kept, e8 := loan.Keep(d, some())
		for _, y := range []struct {
			e    api.Errno
			zero bool
		}{{e, len(crafts) == 0}, {e2, value == api.Span{}}, {e3, most == 0}, {e4, lent == 0}, {e5, len(out) == 0}, {e6, a == api.Account{}}, {e7, n == 0}, {e8, len(kept) == 0}} {
			if y.e != api.OK && !y.zero {
				t.Fatalf("results with the error %d: %v, %v, %v, %v, %v", y.e, m, d, x, v, l)
			}
		}
		if at < 0 || at > len(l) || e5 == api.OK && at != len(l) || e5 != api.OK && at >= max(1, len(l)) {
			t.Fatalf("Run(%v, %v): %d, error %d", d, l, at, e5)
		}
	}
}
