package loan_test

import (
	"math"
	"math/rand/v2"
	"strconv"
	"testing"

	"lombard/api"
	"lombard/loan"
)

// lends is what Most and Lend return, of which only one may have a value if there is an error.
func lends(t *testing.T, x api.Terms, v api.Span, wish int) (most, lent int, e, f api.Errno) {
	t.Helper()
	most, e = loan.Most(x, v)
	lent, f = loan.Lend(x, v, wish)
	if e != api.OK && most != 0 || f != api.OK && lent != 0 {
		t.Errorf("Most of %v on %v: %d, %d; Lend of %d: %d, %d", x, v, most, e, wish, lent, f)
	}
	return most, lent, e, f
}

// P2.1: terms, at the limits and one beyond; their error is the first one
func TestCheckTerms(t *testing.T) {
	for _, x := range []api.Terms{{}, terms(), {Fraction: 64, Floor: 1 << 30, Cap: 1 << 30}, {Cap: 1 << 30}, {Cap: 7, Floor: 7}, {Fraction: 64}} {
		errs(t, "CheckTerms", loan.CheckTerms(x), api.OK)
	}
	var wrong []api.Terms
	for _, n := range beyond(0, 64) {
		wrong = append(wrong, api.Terms{Fraction: n, Floor: 300, Cap: 5000})
	}
	for _, n := range beyond(0, 5000) {
		wrong = append(wrong, api.Terms{Fraction: 40, Floor: n, Cap: 5000})
	}
	for _, n := range beyond(300, 1<<30) {
		wrong = append(wrong, api.Terms{Fraction: 40, Floor: 300, Cap: n})
	}
	wrong = append(wrong, api.Terms{Cap: -1}, api.Terms{Cap: -1, Floor: -1}, api.Terms{Cap: 1<<30 + 1, Floor: 1<<30 + 1})
	for _, x := range wrong {
		errs(t, "CheckTerms", loan.CheckTerms(x), api.ErrTerms)
		for _, v := range []api.Span{span(0, 0), span(2, 1), span(500, 500)} {
			for _, wish := range []int{0, 1} {
				if _, _, e, f := lends(t, x, v, wish); e != api.ErrTerms || f != api.ErrTerms {
					t.Errorf("Most of %v: error %d; Lend: error %d", x, e, f)
				}
			}
		}
		_, e := loan.For([]api.Rule{{Class: "ring", Terms: terms()}, {Class: "fur", Terms: x}}, "ring")
		errs(t, "For with wrong terms", e, api.ErrTerms)
	}
}

// P2.3: the examples, and where the floor and the cap begin
func TestMost(t *testing.T) {
	for _, x := range []struct {
		terms api.Terms
		v     api.Span
		want  int
	}{
		{terms(), span(650, 1200), 406}, {terms(), span(400, 900), 300}, {terms(), span(200, 900), 200},
		{terms(), span(299, 299), 299}, {terms(), span(300, 300), 300}, {terms(), span(301, 301), 300}, {terms(), span(481, 481), 300}, {terms(), span(482, 482), 301},
		{terms(), span(7999, 9000), 4999}, {terms(), span(8000, 9000), 5000}, {terms(), span(8002, 9000), 5000}, {terms(), span(1<<31, 1<<31), 5000}, {terms(), span(0, 1<<31), 0}, {terms(), span(1, 1<<31), 1},
		{api.Terms{Fraction: 64, Cap: 1 << 30}, span(1<<30-1, 1<<31), 1<<30 - 1}, {api.Terms{Fraction: 64, Cap: 1 << 30}, span(1<<31, 1<<31), 1 << 30}, {api.Terms{Fraction: 63, Cap: 1 << 30}, span(1, 1), 0}, {api.Terms{Fraction: 63, Cap: 1 << 30}, span(64, 64), 63}, {api.Terms{Fraction: 63, Cap: 1 << 30}, span(65, 65), 63},
		{api.Terms{Floor: 9, Cap: 9}, span(1<<31, 1<<31), 9}, {api.Terms{Floor: 9, Cap: 9}, span(8, 20), 8}, {api.Terms{Cap: 9}, span(100, 100), 0}, {api.Terms{Fraction: 64}, span(100, 100), 0}, {api.Terms{Fraction: 64, Floor: 5, Cap: 9}, span(7, 8), 7},
	} {
		most, lent, e, f := lends(t, x.terms, x.v, 1<<30)
		if most != x.want || lent != x.want || e != api.OK || (f == api.OK) != (x.want > 0) {
			t.Errorf("Most of %v on %v: %d, %d; Lend: %d, %d", x.terms, x.v, most, e, lent, f)
		}
	}
	for _, v := range []api.Span{span(2, 1), span(-1, 1), span(-2, -1), span(0, 1<<31+1), span(1<<31+1, 1<<31+1), span(1<<31, 1<<31-1), span(math.MinInt, math.MaxInt), span(math.MaxInt, math.MinInt), span(0, -1)} {
		for _, wish := range []int{1, 0} {
			if _, _, e, f := lends(t, terms(), v, wish); e != api.ErrRange || f != api.ErrRange {
				t.Errorf("Most on %v: error %d; Lend: error %d", v, e, f)
			}
		}
	}
}

// P2.3: wishes up to the most and beyond it; a wrong wish is before nothing that is lent
func TestLend(t *testing.T) {
	for wish, want := range map[int]int{1: 1, 100: 100, 405: 405, 406: 406, 407: 406, 1000: 406, 1 << 30: 406} {
		if _, lent, _, e := lends(t, terms(), span(650, 1200), wish); lent != want || e != api.OK {
			t.Errorf("Lend of %d: %d, %d", wish, lent, e)
		}
	}
	for _, wish := range beyond(1, 1<<30) {
		for _, v := range []api.Span{span(650, 1200), span(0, 9)} {
			if _, _, e, f := lends(t, terms(), v, wish); e != api.OK || f != api.ErrRange {
				t.Errorf("Lend of %d on %v: errors %d, %d", wish, v, e, f)
			}
		}
	}
	for _, wish := range []int{1, 1 << 30} {
		if _, _, e, f := lends(t, terms(), span(0, 9), wish); e != api.OK || f != api.ErrNone {
			t.Errorf("Lend of %d on nothing: errors %d, %d", wish, e, f)
		}
	}
}

// P2.3: rules, at the limits and one beyond
func TestFor(t *testing.T) {
	var many []api.Rule
	for i := range 17 {
		many = append(many, api.Rule{Class: "c" + strconv.Itoa(i), Terms: api.Terms{Fraction: i, Cap: 100 + i}})
	}
	for i, r := range many[:16] {
		if x, e := loan.For(many[:16], r.Class); x != r.Terms || e != api.OK {
			t.Errorf("For of rule %d: %v, %d", i, x, e)
		}
	}
	rule := func(class string) api.Rule { return api.Rule{Class: class, Terms: terms()} }
	ring := rule("ring")
	for i, y := range []struct {
		l     []api.Rule
		class string
		want  api.Errno
	}{
		{nil, "ring", api.ErrNone}, {nil, "", api.ErrNone}, {[]api.Rule{}, "Wrong", api.ErrNone}, {[]api.Rule{ring}, "ring", api.OK}, {[]api.Rule{ring}, "rin", api.ErrNone}, {[]api.Rule{ring}, "", api.ErrNone}, {[]api.Rule{ring}, "RING", api.ErrNone},
		{[]api.Rule{rule("fur"), ring}, "ring", api.OK}, {[]api.Rule{ring, rule("fur")}, "ring", api.OK}, {[]api.Rule{ring, {Class: "fur"}}, "coat", api.ErrNone},
		{many[:16], "c16", api.ErrNone}, {many, "c1", api.ErrTerms}, {many, "c16", api.ErrTerms}, {make([]api.Rule, 1<<16), "", api.ErrTerms},
		{[]api.Rule{ring, rule("")}, "ring", api.ErrTerms}, {[]api.Rule{ring, rule("Fur")}, "ring", api.ErrTerms}, {[]api.Rule{ring, rule("1a")}, "ring", api.ErrTerms}, {[]api.Rule{ring, rule("a b")}, "ring", api.ErrTerms}, {[]api.Rule{rule("")}, "", api.ErrTerms}, {[]api.Rule{rule("")}, "ring", api.ErrTerms},
		{[]api.Rule{rule("abcdefghijklmnop")}, "abcdefghijklmnop", api.OK}, {[]api.Rule{rule("abcdefghijklmnopq")}, "abcdefghijklmnopq", api.ErrTerms},
		{[]api.Rule{ring, ring}, "ring", api.ErrTerms}, {[]api.Rule{ring, rule("fur"), ring}, "fur", api.ErrTerms}, {[]api.Rule{ring, {Class: "ring"}}, "coat", api.ErrTerms},
		{[]api.Rule{ring, {Class: "fur", Terms: api.Terms{Floor: 1}}}, "ring", api.ErrTerms},
	} {
		x, e := loan.For(y.l, y.class)
		if e != y.want || e == api.OK && x != terms() || e != api.OK && x != (api.Terms{}) {
			t.Errorf("For %d: %v, %d", i, x, e)
		}
	}
}

// someTerms are random valid terms.
func someTerms(r *rand.Rand) api.Terms {
	x := api.Terms{Fraction: r.IntN(65), Cap: r.IntN(2000)}
	x.Floor = r.IntN(x.Cap + 1)
	return x
}

// P2.9: on a value that is nowhere less no less is lent, and never more than the cap, the fraction and the floor allow
func TestLendProperties(t *testing.T) {
	r := random(4)
	for range 50000 {
		x := someTerms(r)
		low := r.IntN(3000)
		v := span(low, low+r.IntN(100))
		w := span(v.Min+r.IntN(5), v.Max+5+r.IntN(5))
		wish := 1 + r.IntN(2500)
		m, n, e, f := lends(t, x, v, wish)
		m2, n2, e2, f2 := lends(t, x, w, wish)
		if e != api.OK || e2 != api.OK || m2 < m || n2 < n || f == api.OK && f2 != api.OK {
			t.Fatalf("on %v %d and %d are lent by %v, on %v %d and %d", v, m, n, x, w, m2, n2)
		}
		if m > x.Cap || m > max(v.Min*x.Fraction/64, min(x.Floor, v.Min)) || n > wish || n > m {
			t.Fatalf("on %v %d and %d are lent by %v", v, m, n, x)
		}
	}
}
