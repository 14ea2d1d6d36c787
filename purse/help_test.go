package purse_test

import (
	"math"
	"math/rand/v2"
	"slices"
	"strconv"
	"testing"

	"lombard/api"
	"lombard/purse"
)

// parts are those of the document.
func parts() []api.Part {
	return []api.Part{part("ada", 30, due(0, 10), due(1, 8), due(1, 8)), part("bob", 10, due(0, 5))}
}

func part(pledge string, value int, dues ...api.Due) api.Part {
	return api.Part{Pledge: pledge, Value: value, Dues: dues}
}

func due(rank, amount int) api.Due { return api.Due{Rank: rank, Amount: amount} }

// surplus is one that is held.
func surplus(pledge string, sum, day int) api.Surplus {
	return api.Surplus{Pledge: pledge, Sum: sum, Day: day, State: api.SurplusHeld}
}

// over is a surplus that was paid, or has passed.
func over(s api.Surplus, state, day int) api.Surplus {
	s.State, s.Over = state, day
	return s
}

func note(kind, day, sum int) api.Note { return api.Note{Kind: kind, Day: day, Sum: sum} }

// lot is parts of the same value, without dues.
func lot(pledges ...string) []api.Part {
	var l []api.Part
	for _, s := range pledges {
		l = append(l, part(s, 1))
	}
	return l
}

// name is a word for a number.
func name(n int) string { return "n" + strconv.Itoa(n) }

// random returns the same numbers in each run.
func random(seed uint64) *rand.Rand { return rand.New(rand.NewPCG(seed, 7)) }

// extremes are numbers that no function allows.
func extremes() []int { return []int{math.MinInt, math.MinInt / 2, math.MaxInt / 2, math.MaxInt} }

// beyond are numbers just outside of a range, and far outside.
func beyond(least, most int) []int { return append(extremes(), least-1, most+1) }

// row is a list of the same number.
func row(n, x int) []int { return slices.Repeat([]int{x}, n) }

func sumOf(l []int) int {
	n := 0
	for _, x := range l {
		n += x
	}
	return n
}

// errs checks that an error is the one that is wanted.
func errs(t *testing.T, name string, got, want api.Errno) {
	t.Helper()
	if got != want {
		t.Errorf("%s: error %d, want %d", name, got, want)
	}
}

// shared, spread and portions are what Share, Spread and Portions return without an error.
func shared(t *testing.T, weights []int, sum int) []int {
	t.Helper()
	l, e := purse.Share(weights, sum)
	if e != api.OK || len(l) != len(weights) {
		t.Fatalf("Share(%v, %d): %v, error %d", weights, sum, l, e)
	}
	return l
}

func spread(t *testing.T, dues []api.Due, sum int) ([]int, int) {
	t.Helper()
	paid, left, e := purse.Spread(dues, sum)
	if e != api.OK || len(paid) != len(dues) {
		t.Fatalf("Spread(%v, %d): %v, %d, error %d", dues, sum, paid, left, e)
	}
	return paid, left
}

func portions(t *testing.T, price int, parts []api.Part) []api.Portion {
	t.Helper()
	l, e := purse.Portions(price, parts)
	if e != api.OK || len(l) != len(parts) {
		t.Fatalf("Portions(%d, %v): %v, error %d", price, parts, l, e)
	}
	return l
}

func samePortion(a, b api.Portion) bool {
	return a.Price == b.Price && slices.Equal(a.Paid, b.Paid) && a.Left == b.Left
}

func samePortions(a, b []api.Portion) bool { return slices.EqualFunc(a, b, samePortion) }

// empty returns a purse with nothing.
func empty(t *testing.T, term int) *purse.Purse {
	t.Helper()
	p, e := purse.New(term)
	if p == nil || e != api.OK {
		t.Fatalf("New(%d): error %d", term, e)
	}
	return p
}

// ask is a call of a purse that changes it.
type ask struct {
	kind, day, price int
	parts            []api.Part
	pledge           string
	weights          []int
}

// answer is what a call returns: portions, a sum, or what each weight gets.
type answer struct {
	portions []api.Portion
	sum      int
	given    []int
	e        api.Errno
}

func (a answer) is(b answer) bool {
	return samePortions(a.portions, b.portions) && a.sum == b.sum && slices.Equal(a.given, b.given) && a.e == b.e
}

// of does a call.
func (a ask) of(p *purse.Purse) (out answer) {
	switch a.kind {
	case api.PurseSold:
		out.portions, out.e = p.Sell(a.day, a.price, a.parts)
	case api.PursePaid:
		out.sum, out.e = p.Pay(a.day, a.pledge)
	case api.PursePassed:
		out.sum, out.e = p.Pass(a.day)
	default:
		out.given, out.e = p.Give(a.day, a.weights)
	}
	return out
}

// sell, pay, pass and give are calls.
func sell(day, price int, parts []api.Part) ask {
	return ask{kind: api.PurseSold, day: day, price: price, parts: parts}
}

func pay(day int, pledge string) ask { return ask{kind: api.PursePaid, day: day, pledge: pledge} }

func pass(day int) ask { return ask{kind: api.PursePassed, day: day} }

func give(day int, weights ...int) ask {
	return ask{kind: api.PurseGiven, day: day, weights: weights}
}

// must does calls that have no error.
func must(t *testing.T, p *purse.Purse, l ...ask) {
	t.Helper()
	for _, a := range l {
		if got := a.of(p); got.e != api.OK {
			t.Fatalf("%v: error %d", a, got.e)
		}
	}
}

// state is all that a purse tells of itself.
type state struct {
	surpluses      []api.Surplus
	notes          []api.Note
	waits, welfare int
}

func (s state) is(x state) bool {
	return slices.Equal(s.surpluses, x.surpluses) && slices.Equal(s.notes, x.notes) && s.waits == x.waits && s.welfare == x.welfare
}

func stateOf(t *testing.T, p *purse.Purse) state {
	t.Helper()
	waits, welfare, e := p.Holds()
	errs(t, "Holds", e, api.OK)
	return state{p.Surpluses(), p.Notes(), waits, welfare}
}

// stands checks all that a purse tells of itself, and what Owed tells of each surplus.
func stands(t *testing.T, p *purse.Purse, want state) {
	t.Helper()
	if got := stateOf(t, p); !got.is(want) {
		t.Fatalf("the purse has %v, want %v", got, want)
	}
	for _, s := range want.surpluses {
		if x, e := p.Owed(s.Pledge); x != s || e != api.OK {
			t.Fatalf("Owed(%s): %v, error %d, want %v", s.Pledge, x, e, s)
		}
	}
}

// refused checks that a call has an error and no result, and changes nothing.
func refused(t *testing.T, p *purse.Purse, a ask, want api.Errno) {
	t.Helper()
	before := stateOf(t, p)
	if got := a.of(p); !got.is(answer{e: want}) {
		t.Errorf("%v: %v, want the error %d", a, got, want)
	}
	stands(t, p, before)
}

// answered checks what a call without an error returns, and that there is a note more.
func answered(t *testing.T, p *purse.Purse, a ask, want answer, sum int) {
	t.Helper()
	notes := p.Notes()
	if got := a.of(p); !got.is(want) {
		t.Errorf("%v: %v, want %v", a, got, want)
	}
	if l := p.Notes(); !slices.Equal(l, append(notes, note(a.kind, a.day, sum))) {
		t.Errorf("%v: notes %v, before %v", a, l, notes)
	}
}
