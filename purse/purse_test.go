package purse_test

import (
	"testing"

	"lombard/api"
	"lombard/purse"
)

// P7.3: terms
func TestNew(t *testing.T) {
	for _, term := range []int{0, 1, 100, 11999, 12000} {
		stands(t, empty(t, term), state{})
	}
	for _, term := range beyond(0, 12000) {
		if p, e := purse.New(term); p != nil || e != api.ErrRange {
			t.Errorf("New(%d): error %d", term, e)
		}
	}
}

// P7.3: a nil purse and a zero one, whatever they are asked for
func TestNil(t *testing.T) {
	for _, p := range []*purse.Purse{nil, {}, new(purse.Purse)} {
		for _, a := range []ask{
			sell(7, 40, parts()), pay(7, "ada"), pass(7), give(7, 1, 3),
			sell(-1, -1, nil), pay(-1, ""), pass(-1), give(-1), sell(7, -1, nil), sell(7, 1, nil), give(7),
		} {
			if got := a.of(p); !got.is(answer{e: api.ErrNil}) {
				t.Errorf("%v: %v", a, got)
			}
		}
		if p.Surpluses() != nil || p.Notes() != nil {
			t.Errorf("%v, %v", p.Surpluses(), p.Notes())
		}
		if waits, welfare, e := p.Holds(); waits != 0 || welfare != 0 || e != api.ErrNil {
			t.Errorf("Holds: %d, %d, error %d", waits, welfare, e)
		}
		for _, s := range []string{"ada", "", "A"} {
			if x, e := p.Owed(s); x != (api.Surplus{}) || e != api.ErrNil {
				t.Errorf("Owed(%s): %v, error %d", s, x, e)
			}
		}
	}
}

// P7.3 to P7.7: the examples of the document
func TestExamples(t *testing.T) {
	p := empty(t, 100)
	ada, bob := surplus("ada", 4, 7), surplus("bob", 5, 7)
	answered(t, p, sell(7, 40, parts()), answer{portions: []api.Portion{portion(30, 4, 10, 8, 8), portion(10, 5, 5)}}, 40)
	sold := note(api.PurseSold, 7, 40)
	stands(t, p, state{[]api.Surplus{ada, bob}, []api.Note{sold}, 9, 0})
	answered(t, p, pay(8, "ada"), answer{sum: 4}, 4)
	refused(t, p, pay(8, "ada"), api.ErrSurplus)
	ada = over(ada, api.SurplusPaid, 8)
	paid := note(api.PursePaid, 8, 4)
	stands(t, p, state{[]api.Surplus{ada, bob}, []api.Note{sold, paid}, 5, 0})
	refused(t, p, pay(107, "bob"), api.ErrSurplus)
	answered(t, p, pass(107), answer{sum: 5}, 5)
	bob = over(bob, api.SurplusPassed, 107)
	passed := note(api.PursePassed, 107, 5)
	stands(t, p, state{[]api.Surplus{ada, bob}, []api.Note{sold, paid, passed}, 0, 5})
	answered(t, p, give(108, 1, 3), answer{given: []int{1, 4}}, 5)
	stands(t, p, state{[]api.Surplus{ada, bob}, []api.Note{sold, paid, passed, note(api.PurseGiven, 108, 5)}, 0, 0})
}

// calls are one of each kind, on a day; on the purse of start, none of them has another error than that of its day.
func calls(day int) []ask {
	return []ask{sell(day, 5, lot("cyd")), pay(day, "ada"), pass(day), give(day, 1)}
}

// wrongCalls are such that all else is wrong, too.
func wrongCalls(day int) []ask {
	return []ask{sell(day, -1, nil), sell(day, 40, nil), sell(day, 40, parts()), pay(day, "eve"), pay(day, ""), give(day), give(day, -1)}
}

// start is a purse in which 4 and 5 wait for ada and bob since the day 7.
func start(t *testing.T, term int) *purse.Purse {
	t.Helper()
	p := empty(t, term)
	must(t, p, sell(7, 40, parts()))
	return p
}

// P7.3: days come first, for each call; the day is that of the last note, whatever call it is of
func TestDays(t *testing.T) {
	for _, last := range calls(20) {
		p := start(t, 100)
		for _, day := range append(extremes(), -1, 0, 6, 36501) {
			for _, a := range append(calls(day), wrongCalls(day)...) {
				refused(t, p, a, api.ErrDay)
			}
		}
		must(t, p, last)
		for _, a := range append(calls(19), wrongCalls(19)...) {
			refused(t, p, a, api.ErrDay)
		}
		must(t, p, pass(20), pass(36500), pass(36500))
		refused(t, p, pass(36499), api.ErrDay)
	}
	p := empty(t, 0)
	for _, day := range beyond(0, 36500) {
		for _, a := range append(calls(day), wrongCalls(day)...) {
			refused(t, p, a, api.ErrDay)
		}
	}
	must(t, p, pass(0), sell(0, 5, lot("ada")), give(0, 1), sell(36500, 5, lot("bob")))
}

// P7.3: a call that has an error does not move the day
func TestDayOfErrors(t *testing.T) {
	p := start(t, 100)
	for _, a := range wrongCalls(30) {
		if got := a.of(p); got.e == api.OK {
			t.Fatalf("%v: no error", a)
		}
	}
	must(t, p, pay(7, "ada"))
}

// P7.4: wrong lots, before a pledge that has a surplus
func TestSellWrong(t *testing.T) {
	p := start(t, 100)
	for want, all := range wrongLots() {
		for _, a := range all {
			refused(t, p, sell(7, a.price, a.parts), want)
		}
	}
	twice := append(lot("cyd", "cyd"), parts()...)
	refused(t, p, sell(7, 40, twice), api.ErrParts)
}

// P7.4: a pledge that has a surplus, whatever its state is, wherever it is in the lot, and also if nothing would be left of it
func TestSellAgain(t *testing.T) {
	p := start(t, 100)
	again := func() {
		t.Helper()
		day := p.Notes()[len(p.Notes())-1].Day
		for _, s := range []string{"ada", "bob"} {
			refused(t, p, sell(day, 5, lot(s)), api.ErrPledge)
			refused(t, p, sell(day, 5, lot("cyd", s)), api.ErrPledge)
			refused(t, p, sell(day, 5, lot(s, "cyd")), api.ErrPledge)
			refused(t, p, sell(day, 0, lot(s)), api.ErrPledge)
			refused(t, p, sell(day, 5, []api.Part{part("cyd", 1), part(s, 0)}), api.ErrPledge)
		}
	}
	again()
	must(t, p, pay(8, "ada"))
	again()
	must(t, p, pass(107))
	again()
	must(t, p, give(108, 1))
	again()
}

// P7.4: parts of which nothing is left have no surplus, and can be sold again
func TestSellNothingLeft(t *testing.T) {
	p := empty(t, 100)
	l := []api.Part{part("ada", 1, due(0, 10)), part("bob", 1, due(0, 9)), part("cyd", 0), part("dan", 1)}
	answered(t, p, sell(7, 30, l), answer{portions: []api.Portion{portion(10, 0, 10), portion(10, 1, 9), portion(0, 0), portion(10, 10)}}, 30)
	bob, dan := surplus("bob", 1, 7), surplus("dan", 10, 7)
	notes := []api.Note{note(api.PurseSold, 7, 30)}
	stands(t, p, state{[]api.Surplus{bob, dan}, notes, 11, 0})
	for _, s := range []string{"ada", "cyd", "eve"} {
		if x, e := p.Owed(s); x != (api.Surplus{}) || e != api.ErrSurplus {
			t.Errorf("Owed(%s): %v, error %d", s, x, e)
		}
		refused(t, p, pay(7, s), api.ErrSurplus)
	}
	answered(t, p, sell(8, 0, lot("cyd", "ada")), answer{portions: []api.Portion{portion(0, 0), portion(0, 0)}}, 0)
	answered(t, p, sell(9, 3, lot("cyd", "ada")), answer{portions: []api.Portion{portion(2, 2), portion(1, 1)}}, 3)
	notes = append(notes, note(api.PurseSold, 8, 0), note(api.PurseSold, 9, 3))
	stands(t, p, state{[]api.Surplus{bob, dan, surplus("cyd", 2, 9), surplus("ada", 1, 9)}, notes, 14, 0})
}

// filled is a purse with so many surpluses of 1.
func filled(t *testing.T, n int) *purse.Purse {
	t.Helper()
	p := empty(t, 100)
	for i := range n {
		must(t, p, sell(0, 1, lot(name(i))))
	}
	return p
}

// P7.4: at most 256 surpluses, also of those that were paid; a pledge that has one comes first
func TestFull(t *testing.T) {
	p := filled(t, 254)
	refused(t, p, sell(0, 3, lot("ada", "bob", "cyd")), api.ErrFull)
	refused(t, p, sell(0, 4, lot("ada", "bob", "cyd", "n0")), api.ErrPledge)
	refused(t, p, sell(0, -1, lot("ada", "bob", "cyd")), api.ErrRange)
	must(t, p, sell(0, 2, lot("ada", "bob", "cyd"))) // nothing is left of cyd
	refused(t, p, sell(0, 1, lot("cyd")), api.ErrFull)
	refused(t, p, sell(0, 1, lot("ada")), api.ErrPledge)
	must(t, p, sell(0, 0, lot("cyd")), sell(0, 9, []api.Part{part("cyd", 1, due(0, 9))}))
	must(t, p, pay(0, "ada"), pass(100), give(100, 1))
	refused(t, p, sell(100, 1, lot("cyd")), api.ErrFull)
	if l := p.Surpluses(); len(l) != 256 || l[253].Pledge != "n253" || l[255].Pledge != "bob" {
		t.Errorf("%v", l)
	}
	if x, e := p.Owed("n255"); x != (api.Surplus{}) || e != api.ErrSurplus {
		t.Errorf("Owed: %v, error %d", x, e)
	}
	must(t, filled(t, 248), sell(0, 8, many8()))
	refused(t, filled(t, 249), sell(0, 8, many8()), api.ErrFull)
}

func many8() []api.Part { return lot("a", "b", "c", "d", "e", "f", "g", "h") }

// P7.5: a surplus is paid once, from its day on, until it passes
func TestPay(t *testing.T) {
	for _, day := range []int{7, 8, 50, 105, 106} {
		p := start(t, 100)
		for _, s := range []string{"eve", "", "A", "ad", "adaa", "ada ", "Ada"} {
			refused(t, p, pay(day, s), api.ErrSurplus)
		}
		answered(t, p, pay(day, "bob"), answer{sum: 5}, 5)
		bob := over(surplus("bob", 5, 7), api.SurplusPaid, day)
		stands(t, p, state{[]api.Surplus{surplus("ada", 4, 7), bob}, p.Notes(), 4, 0})
		refused(t, p, pay(day, "bob"), api.ErrSurplus)
		answered(t, p, pay(day, "ada"), answer{sum: 4}, 4)
		answered(t, p, pass(36500), answer{}, 0)
		stands(t, p, state{[]api.Surplus{over(surplus("ada", 4, 7), api.SurplusPaid, day), bob}, p.Notes(), 0, 0})
	}
	for _, day := range []int{107, 108, 36500} {
		p := start(t, 100)
		refused(t, p, pay(day, "bob"), api.ErrSurplus)
		must(t, p, pay(106, "bob"), pass(day))
		refused(t, p, pay(day, "ada"), api.ErrSurplus)
	}
	p := start(t, 0) // what passes at once is never paid
	refused(t, p, pay(7, "ada"), api.ErrSurplus)
	answered(t, p, pass(7), answer{sum: 9}, 9)
	p = start(t, 1)
	answered(t, p, pay(7, "ada"), answer{sum: 4}, 4)
	refused(t, p, pay(8, "bob"), api.ErrSurplus)
	p = start(t, 12000)
	answered(t, p, pay(12006, "ada"), answer{sum: 4}, 4)
	refused(t, p, pay(12007, "bob"), api.ErrSurplus)
}

// P7.6: what passes by a day, each surplus by its own day
func TestPass(t *testing.T) {
	p := start(t, 10)
	must(t, p, sell(8, 3, lot("cyd", "dan")), sell(9, 6, lot("eve")), pay(9, "dan"))
	l := []api.Surplus{surplus("ada", 4, 7), surplus("bob", 5, 7), surplus("cyd", 2, 8), over(surplus("dan", 1, 8), api.SurplusPaid, 9), surplus("eve", 6, 9)}
	answered(t, p, pass(16), answer{}, 0)
	stands(t, p, state{l, p.Notes(), 17, 0})
	answered(t, p, pay(16, "bob"), answer{sum: 5}, 5)
	l[1] = over(l[1], api.SurplusPaid, 16)
	answered(t, p, pass(18), answer{sum: 6}, 6)
	l[0], l[2] = over(l[0], api.SurplusPassed, 18), over(l[2], api.SurplusPassed, 18)
	stands(t, p, state{l, p.Notes(), 6, 6})
	answered(t, p, pass(18), answer{}, 0)
	stands(t, p, state{l, p.Notes(), 6, 6})
	answered(t, p, pass(19), answer{sum: 6}, 6)
	l[4] = over(l[4], api.SurplusPassed, 19)
	stands(t, p, state{l, p.Notes(), 0, 12})
	answered(t, p, pass(36500), answer{}, 0)
	stands(t, p, state{l, p.Notes(), 0, 12})
	answered(t, empty(t, 5), pass(0), answer{}, 0)
}

// P7.6: what is given away, also if it is nothing
func TestGive(t *testing.T) {
	p := start(t, 10)
	for _, w := range wrongWeights() {
		refused(t, p, give(7, w...), api.ErrShares)
	}
	answered(t, p, give(7, 0, 5), answer{given: []int{0, 0}}, 0)
	stands(t, p, state{p.Surpluses(), p.Notes(), 9, 0})
	must(t, p, sell(8, 2, lot("cyd")), pass(17))
	for _, w := range wrongWeights() {
		refused(t, p, give(17, w...), api.ErrShares)
	}
	stands(t, p, state{p.Surpluses(), p.Notes(), 2, 9})
	answered(t, p, give(17, 1, 0, 2), answer{given: []int{3, 0, 6}}, 9)
	stands(t, p, state{p.Surpluses(), p.Notes(), 2, 0})
	answered(t, p, give(17, 1), answer{given: []int{0}}, 0)
	must(t, p, pass(18))
	answered(t, p, give(18, row(24, 1<<26)...), answer{given: append([]int{1, 1}, row(22, 0)...)}, 2)
	stands(t, p, state{p.Surpluses(), p.Notes(), 0, 0})
}

// P7.6: the most that a purse ever holds for welfare
func TestGiveMost(t *testing.T) {
	p := empty(t, 0)
	for i := range 256 {
		must(t, p, sell(i, 1<<26, lot(name(i))))
	}
	stands(t, p, state{p.Surpluses(), p.Notes(), 1 << 34, 0})
	answered(t, p, pass(255), answer{sum: 1 << 34}, 1<<34)
	stands(t, p, state{p.Surpluses(), p.Notes(), 0, 1 << 34})
	answered(t, p, give(255, 1, 1), answer{given: []int{1 << 33, 1 << 33}}, 1<<34)
}
