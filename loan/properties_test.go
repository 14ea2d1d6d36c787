package loan_test

import (
	"slices"
	"testing"

	"lombard/api"
	"lombard/loan"
)

// P2.10: no more is charged than the law allows, nor paid than was charged; what was charged is never less later
func TestLaw(t *testing.T) {
	r := random(6)
	for range 5000 {
		d := someDeal(r)
		l := someActs(r, d, api.ActPay, api.ActRenew, api.ActHold, api.ActRedeem)
		out, _, e := ran(t, d, l)
		if e != api.OK {
			continue
		}
		charged, day := 0, d.Start
		check := func(a api.Account, legal int) {
			if a.Charged > legal || a.Paid > a.Charged || a.Charged < charged || a.Paid < 0 || a.Principal < 0 || a.Open != (a.Principal > 0) {
				t.Fatalf("%v, %v: %v; before %d; legal %d", d, l, a, charged, legal)
			}
			charged = a.Charged
		}
		for i, a := range out {
			legal, e := loan.Legal(d, l[:i+1], l[i].Day)
			errs(t, "Legal", e, api.OK)
			check(a, legal)
			day = l[i].Day
		}
		for range 20 {
			day += r.IntN(10)
			legal, e := loan.Legal(d, l, day)
			errs(t, "Legal", e, api.OK)
			check(owed(t, d, l, day), legal)
		}
	}
}

// P2.11: renewing without a fee changes nothing of what was charged, nor of what will be, as long as no payment follows
func TestRenewingIsFree(t *testing.T) {
	r := random(7)
	count := 0
	for range 10000 {
		d := someDeal(r)
		d.Tariff.Fee = 0
		l := someActs(r, d, api.ActPay, api.ActRenew, api.ActHold)
		day := d.Start
		if len(l) > 0 {
			day = l[len(l)-1].Day
		}
		day += r.IntN(15)
		longer := append(slices.Clone(l), renew(day))
		if _, _, e := ran(t, d, longer); e != api.OK {
			continue
		}
		count++
		for range 5 {
			if a, b := owed(t, d, l, day), owed(t, d, longer, day); a.Charged != b.Charged || a.Principal != b.Principal {
				t.Fatalf("%v, %v: %v; renewed %v", d, l, a, b)
			}
			day += r.IntN(15)
		}
	}
	if count < 1000 {
		t.Errorf("only %d renewals", count)
	}
}

// P2.11: two payments on a day are one
func TestPayingInParts(t *testing.T) {
	r := random(8)
	done := map[api.Errno]int{}
	for range 10000 {
		d := someDeal(r)
		l := someActs(r, d, api.ActPay, api.ActRenew, api.ActHold)
		i := slices.IndexFunc(l, func(a api.Act) bool { return a.Kind == api.ActPay && a.N > 1 })
		if i < 0 {
			continue
		}
		first := 1 + r.IntN(l[i].N-1)
		parts := slices.Concat(l[:i], acts(pay(l[i].Day, first), pay(l[i].Day, l[i].N-first)), l[i+1:])
		a, at, e := ran(t, d, l)
		b, at2, e2 := ran(t, d, parts)
		done[e]++
		if e != e2 || e == api.OK && (at2 != at+1 || !slices.Equal(a[i:], b[i+1:])) {
			t.Fatalf("%v, %v: %v, %d; in parts %v: %v, %d", d, l, a, e, parts, b, e2)
		}
	}
	if done[api.OK] < 1000 || done[api.ErrFull] < 100 {
		t.Errorf("only %v payments", done)
	}
}

// P2.11: a held or a closed day charges nothing, and makes nothing older; each other day does so once
func TestDayCounts(t *testing.T) {
	r := random(9)
	for range 3000 {
		d := someDeal(r)
		d.Law, d.Tariff.Free, d.Tariff.Rate = api.Law{Rate: 10000, Cap: 64}, 0, 10000
		d.Sum = 100000
		from := d.Start + r.IntN(5)
		n := 1 + r.IntN(20)
		l := acts(hold(from, n))
		if _, _, e := ran(t, d, l); e != api.OK {
			continue
		}
		for day := from; day < from+40; day++ {
			a, b := owed(t, d, l, day), owed(t, d, l, day+1)
			still := day+1 <= from+n || slices.Contains(d.Closed, day+1)
			if still && a != b || !still && (b.Age != a.Age+1 || b.Charged != min(a.Charged+1000, 100000)) {
				t.Fatalf("%v, %v: %v on the day %d, %v on the next one", d, l, a, day, b)
			}
		}
	}
}

// P2.12: who pays earlier, of the same payments, is not charged more.
// Renewals are left out: each pays besides what is due, which is less behind a payment than in front of it, so that payments on both sides of one are not the same.
func TestPayingEarlier(t *testing.T) {
	r := random(10)
	less, count := 0, 0
	for range 30000 {
		d := someDeal(r)
		d.Tariff.Term = 100
		l := someActs(r, d, api.ActPay, api.ActPay, api.ActHold)
		if len(l) == 0 {
			continue
		}
		i := r.IntN(len(l))
		a := l[i]
		if a.Kind != api.ActPay {
			continue
		}
		last := l[len(l)-1].Day
		a.Day = d.Start + r.IntN(a.Day-d.Start+1)
		rest := slices.Delete(slices.Clone(l), i, i+1)
		j := slices.IndexFunc(rest, func(b api.Act) bool { return b.Day >= a.Day })
		if j < 0 {
			j = len(rest)
		}
		early := slices.Insert(rest, j, a)
		_, _, e := ran(t, d, l)
		_, _, e2 := ran(t, d, early)
		if e != api.OK || e2 != api.OK {
			continue
		}
		count++
		for day := last; day < last+40; day += 1 + r.IntN(10) {
			before, after := owed(t, d, l, day), owed(t, d, early, day)
			if after.Charged > before.Charged {
				t.Fatalf("%v, %v: %v; earlier %v: %v", d, l, before, early, after)
			}
			if after.Charged < before.Charged {
				less++
			}
		}
	}
	if count < 1000 || less < 100 {
		t.Errorf("only %d payments, and %d times less was charged", count, less)
	}
}
