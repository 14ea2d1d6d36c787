package loan_test

import (
	"slices"
	"testing"

	"lombard/api"
	"lombard/loan"
)

// kept is what Keep returns without an error.
func kept(t *testing.T, d api.Deal, until int) []int {
	t.Helper()
	l, e := loan.Keep(d, until)
	if e != api.OK {
		t.Fatalf("Keep(%v, %d): error %d", d, until, e)
	}
	return l
}

// renewals are acts on days.
func renewals(l []int) []api.Act {
	var out []api.Act
	for _, day := range l {
		out = append(out, renew(day))
	}
	return out
}

// isKept reports whether a loan that is renewed on days is never too old up to a day.
func isKept(d api.Deal, l []int, until int) bool {
	s := newSlow(d)
	for _, day := range l {
		if s.do(renew(day)) != api.OK {
			return false
		}
	}
	return s.age(until) <= d.Tariff.Term+d.Tariff.Grace
}

// P2.6: the examples, closed days at the end, and the days that can be asked for
func TestKeep(t *testing.T) {
	for until, want := range map[int][]int{100: nil, 101: nil, 115: nil, 116: {115}, 128: {115}, 129: {115, 128}, 140: {115, 128}, 141: {115, 128}, 142: {115, 128, 141}} {
		if l := kept(t, deal(), until); !slices.Equal(l, want) {
			t.Errorf("Keep until %d: %v", until, l)
		}
	}
	for i, x := range []struct {
		closed []int
		until  int
		want   []int
	}{
		{nil, 113, nil}, {nil, 114, []int{113}}, {nil, 127, []int{113, 126}},
		{[]int{100}, 114, []int{113}}, {[]int{5, 99, 100}, 114, []int{113}}, {[]int{101}, 115, []int{114}},
		{[]int{113}, 114, nil}, {[]int{113}, 115, []int{114}}, {[]int{114}, 114, nil}, {[]int{114}, 115, []int{114}}, {[]int{115}, 115, []int{113}}, {[]int{115}, 128, []int{113, 127}},
		{[]int{114, 115, 117}, 116, []int{115}}, {[]int{114, 115, 117}, 129, []int{115}}, {[]int{114, 115, 117}, 130, []int{115, 129}},
		{days(101, 64), 177, nil}, {days(101, 64), 178, []int{177}}, {days(114, 64), 177, nil}, {days(114, 64), 178, []int{177}}, {days(115, 64), 178, []int{113}},
	} {
		d := deal()
		d.Closed = x.closed
		if l := kept(t, d, x.until); !slices.Equal(l, x.want) {
			t.Errorf("Keep %d until %d: %v, want %v", i, x.until, l, x.want)
		}
	}
	for _, until := range beyond(100, 36500) {
		if l, e := loan.Keep(deal(), until); e != api.ErrRange || len(l) > 0 {
			t.Errorf("Keep until %d: %v, %d", until, l, e)
		}
	}
	late := deal()
	late.Start = 36500
	if l := kept(t, late, 36500); len(l) > 0 {
		t.Errorf("Keep on the last day: %v", l)
	}
}

// P2.6: at most 32 renewals
func TestKeepLimit(t *testing.T) {
	d := api.Deal{Tariff: api.Tariff{Term: 1}, Sum: 1}
	if l := kept(t, d, 33); !slices.Equal(l, days(1, 32)) {
		t.Errorf("Keep with 32 renewals: %v", l)
	}
	for _, until := range []int{34, 36500} {
		if l, e := loan.Keep(d, until); e != api.ErrLimit || len(l) > 0 {
			t.Errorf("Keep until %d: %v, %d", until, l, e)
		}
	}
	d.Tariff.Term, d.Tariff.Grace = 366, 60
	if l := kept(t, d, 33*426); len(l) != 32 || l[31] != 32*426 {
		t.Errorf("Keep of a long term: %v", l)
	}
	_, e := loan.Keep(d, 33*426+1)
	errs(t, "Keep of a long term", e, api.ErrLimit)
}

// sets calls yield with all strictly increasing lists of so many days from one to another one, the latest first; it reports whether none was taken.
func sets(n, from, to int, list []int, yield func([]int) bool) bool {
	if n == 0 {
		return yield(list)
	}
	for day := to; day >= from; day-- {
		if !sets(n-1, day+1, to, append(list, day), yield) {
			return false
		}
	}
	return true
}

// P2.6, P2.13: as what tries all days; fewer renewals are not enough, and none can be later
func TestKeepAll(t *testing.T) {
	r := random(11)
	many := 0
	for range 300 {
		d := api.Deal{Tariff: api.Tariff{Term: 1 + r.IntN(3), Grace: r.IntN(2)}, Start: r.IntN(5), Sum: 1}
		for day := range 20 {
			if r.IntN(3) == 0 {
				d.Closed = append(d.Closed, day)
			}
		}
		until := d.Start + r.IntN(12)
		var want []int
		n := 0
		for sets(n, d.Start, until, nil, func(l []int) bool {
			if !isKept(d, l, until) {
				return true
			}
			want = slices.Clone(l)
			return false
		}) {
			n++
		}
		if l := kept(t, d, until); !slices.Equal(l, want) {
			t.Fatalf("Keep(%v, %d): %v, want %v", d, until, l, want)
		}
		if n > 2 {
			many++
		}
	}
	if many < 30 {
		t.Errorf("only %d loans are renewed often", many)
	}
}

// P2.13: the renewals keep the loan, and with one day more between them they would not
func TestKeepLongLoans(t *testing.T) {
	r := random(12)
	for range 500 {
		d := someDeal(r)
		until := d.Start + r.IntN(200)
		l, e := loan.Keep(d, until)
		if e == api.ErrLimit {
			continue
		}
		if e != api.OK || !isKept(d, l, until) {
			t.Fatalf("Keep(%v, %d): %v, %d", d, until, l, e)
		}
		if _, _, e := ran(t, d, renewals(l)); e != api.OK {
			t.Fatalf("Run of Keep(%v, %d): error %d", d, until, e)
		}
		if a := owed(t, d, renewals(l), until); a.Age > d.Tariff.Term+d.Tariff.Grace {
			t.Fatalf("Keep(%v, %d): %v, then %v", d, until, l, a)
		}
		for i := range l {
			late := slices.Clone(l[:i+1])
			late[i]++
			if isKept(d, late, late[i]) {
				t.Fatalf("Keep(%v, %d): %v, and later %v", d, until, l, late)
			}
		}
	}
}
