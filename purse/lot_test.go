package purse_test

import (
	"strings"
	"testing"

	"lombard/api"
	"lombard/purse"
)

func portion(price, left int, paid ...int) api.Portion {
	return api.Portion{Price: price, Paid: paid, Left: left}
}

// many are as many parts without dues.
func many(n int) []api.Part {
	var l []api.Part
	for i := range n {
		l = append(l, part(name(i), 1))
	}
	return l
}

// P7.2: the example of the document, and edges
func TestPortions(t *testing.T) {
	most := api.MaxDue
	for _, x := range []struct {
		price int
		parts []api.Part
		want  []api.Portion
	}{
		{40, parts(), []api.Portion{portion(30, 4, 10, 8, 8), portion(10, 5, 5)}},
		{0, parts(), []api.Portion{portion(0, 0, 0, 0, 0), portion(0, 0, 0)}},
		{1, parts(), []api.Portion{portion(1, 0, 1, 0, 0), portion(0, 0, 0)}},
		{20, parts(), []api.Portion{portion(15, 0, 10, 3, 2), portion(5, 0, 5)}},
		{most, lot("a"), []api.Portion{portion(most, most)}},
		{most, []api.Part{part("a", 0), part("b", most, due(9, most))}, []api.Portion{portion(0, 0), portion(most, 0, most)}},
		{3, []api.Part{part("b", 1), part("a", 1, due(0, 0))}, []api.Portion{portion(2, 2), portion(1, 1, 0)}},
		{9, many(8), []api.Portion{portion(2, 2), portion(1, 1), portion(1, 1), portion(1, 1), portion(1, 1), portion(1, 1), portion(1, 1), portion(1, 1)}},
	} {
		if l := portions(t, x.price, x.parts); !samePortions(l, x.want) {
			t.Errorf("Portions(%d, %v): %v, want %v", x.price, x.parts, l, x.want)
		}
	}
}

// P7.2: random lots
func TestPortionsSlowly(t *testing.T) {
	r := random(5)
	for range 4000 {
		l, price := someParts(r, 0, 8), r.IntN(200)
		if got, want := portions(t, price, l), slowPortions(price, l); !samePortions(got, want) {
			t.Fatalf("Portions(%d, %v): %v, want %v", price, l, got, want)
		}
	}
}

// wrongParts are lists that are no parts of a lot, whatever their dues are.
func wrongParts() [][]api.Part {
	l := [][]api.Part{nil, {}, many(9), many(1000), {part("a", 0)}, {part("a", 0), part("b", 0)}, {part("a", 1), part("b", 1), part("a", 2)}, {part("a", 1), part("a", 0)}}
	for _, s := range []string{"", "A", "1a", "-a", "a b", "a_", "a\x00", "\xff", "é", strings.Repeat("a", 17), strings.Repeat("a", 70000)} {
		l = append(l, []api.Part{part(s, 1)}, []api.Part{part("a", 1), part(s, 0)})
	}
	for _, n := range beyond(0, 1<<26) {
		l = append(l, []api.Part{part("a", n)}, []api.Part{part("a", 1), part("b", n)}, []api.Part{part("a", n), part("b", 1<<26-n)})
	}
	return l
}

// withDues are parts of which the one behind all others has other dues.
func withDues(l []api.Part, dues []api.Due) []api.Part {
	out := append([]api.Part{}, l...)
	if len(out) > 0 {
		out[len(out)-1].Dues = dues
	}
	return out
}

// wrongLots are all kinds of lots that are not sold, and their errors: a wrong price before wrong parts, and these before wrong dues
func wrongLots() map[api.Errno][]ask {
	l := map[api.Errno][]ask{}
	some := append(wrongParts(), parts(), withDues(parts(), make([]api.Due, 25)), many(8))
	for _, price := range beyond(0, 1<<26) {
		for _, x := range some {
			l[api.ErrRange] = append(l[api.ErrRange], ask{price: price, parts: x})
		}
	}
	for _, price := range []int{0, 40, 1 << 26} {
		for _, x := range wrongParts() {
			l[api.ErrParts] = append(l[api.ErrParts], ask{price: price, parts: x}, ask{price: price, parts: withDues(x, []api.Due{due(10, 0)})})
		}
		for _, x := range wrongDues() {
			l[api.ErrDues] = append(l[api.ErrDues], ask{price: price, parts: withDues(parts(), x)}, ask{price: price, parts: withDues(many(1), x)})
		}
	}
	return l
}

// P7.2: what is no lot
func TestPortionsErrors(t *testing.T) {
	for want, all := range wrongLots() {
		for _, a := range all {
			if l, e := purse.Portions(a.price, a.parts); len(l) > 0 || e != want {
				t.Errorf("Portions(%d, %.200v): %v, error %d, want %d", a.price, a.parts, l, e, want)
			}
		}
	}
	long := strings.Repeat("a", 16)
	for _, s := range []string{"a", "z9-", "a-", long} {
		portions(t, 5, lot(s, "b"))
	}
	portions(t, 5, []api.Part{part("a", 1, make([]api.Due, 24)...), part("b", 0, due(9, 1<<26))})
}
