package census_test

import (
	"math"
	"math/rand/v2"
	"slices"
	"testing"

	"lombard/api"
	"lombard/census"
)

// example is the audit of the document.
func example() api.Audit {
	return api.Audit{Stock: []int{4, 3}, Costs: []int{2, 3}, Lost: 2, Sure: 700}
}

// changed is the audit of the document with one change.
func changed(change func(a *api.Audit)) api.Audit {
	a := example()
	change(&a)
	return a
}

// limits is an audit in which everything is as great as can be.
func limits() api.Audit {
	return api.Audit{Stock: row(4, 8), Costs: row(4, 1000), Lost: 32, Sure: 1000}
}

// random returns the same numbers in each run.
func random(seed uint64) *rand.Rand { return rand.New(rand.NewPCG(seed, 10)) }

// extremes are numbers that no function allows, but for Need, to which the greatest ones are a risk.
func extremes() []int { return []int{math.MinInt, math.MinInt / 2, math.MaxInt / 2, math.MaxInt} }

// beyond are numbers just outside of a range, and far outside.
func beyond(least, most int) []int { return append(extremes(), least-1, most+1) }

// row is a list of the same number.
func row(n, x int) []int { return slices.Repeat([]int{x}, n) }

// counted is the numbers from 0 on, so many.
func counted(n int) []int {
	var l []int
	for i := range n {
		l = append(l, i)
	}
	return l
}

// replaced is a list with another number at one place.
func replaced(l []int, i, x int) []int {
	l = slices.Clone(l)
	l[i] = x
	return l
}

func sumOf(l []int) int {
	n := 0
	for _, x := range l {
		n += x
	}
	return n
}

// missed, worst, found, least, risked, needed, patrolled, ranked, unranked, drawn and kept are what the functions return without an error.
func missed(t *testing.T, a api.Audit, sample, lost []int) (ways, all int) {
	t.Helper()
	ways, all, e := census.Miss(a, sample, lost)
	if e != api.OK {
		t.Fatalf("Miss(%v, %v, %v): error %d", a, sample, lost, e)
	}
	return ways, all
}

func worst(t *testing.T, a api.Audit, sample []int) (lost []int, ways, all int) {
	t.Helper()
	lost, ways, all, e := census.Worst(a, sample)
	if e != api.OK {
		t.Fatalf("Worst(%v, %v): error %d", a, sample, e)
	}
	return lost, ways, all
}

func found(t *testing.T, a api.Audit, sample []int) bool {
	t.Helper()
	is, e := census.Finds(a, sample)
	if e != api.OK {
		t.Fatalf("Finds(%v, %v): error %d", a, sample, e)
	}
	return is
}

func least(t *testing.T, a api.Audit) ([]int, int) {
	t.Helper()
	l, n, e := census.Least(a)
	if e != api.OK || len(l) != len(a.Stock) {
		t.Fatalf("Least(%v): %v, error %d", a, l, e)
	}
	return l, n
}

func risked(t *testing.T, losses, weights []int) int {
	t.Helper()
	n, e := census.Risk(losses, weights)
	if e != api.OK {
		t.Fatalf("Risk(%v, %v): error %d", losses, weights, e)
	}
	return n
}

func needed(t *testing.T, losses []int, risk int) int {
	t.Helper()
	n, e := census.Need(losses, risk)
	if e != api.OK {
		t.Fatalf("Need(%v, %d): error %d", losses, risk, e)
	}
	return n
}

func patrolled(t *testing.T, losses []int) ([]int, int) {
	t.Helper()
	l, n, e := census.Patrol(losses)
	if e != api.OK || len(l) != len(losses) {
		t.Fatalf("Patrol(%v): %v, error %d", losses, l, e)
	}
	return l, n
}

func ranked(t *testing.T, order []int) int {
	t.Helper()
	n, e := census.Rank(order)
	if e != api.OK {
		t.Fatalf("Rank(%v): error %d", order, e)
	}
	return n
}

func unranked(t *testing.T, n, rank int) []int {
	t.Helper()
	l, e := census.Unrank(n, rank)
	if e != api.OK || len(l) != n {
		t.Fatalf("Unrank(%d, %d): %v, error %d", n, rank, l, e)
	}
	return l
}

func drawn(t *testing.T, n, many int, numbers []int) []int {
	t.Helper()
	l, e := census.Draw(n, many, numbers)
	if e != api.OK || len(l) != many {
		t.Fatalf("Draw(%d, %d, %v): %v, error %d", n, many, numbers, l, e)
	}
	return l
}

func kept(t *testing.T, periods, turns []int) bool {
	t.Helper()
	is, e := census.Keeps(periods, turns)
	if e != api.OK {
		t.Fatalf("Keeps(%v, %v): error %d", periods, turns, e)
	}
	return is
}

// turned is what Turns returns; false, if no turns can go on for ever.
func turned(t *testing.T, periods []int, days int) ([]int, bool) {
	t.Helper()
	l, e := census.Turns(periods, days)
	if e != api.OK && e != api.ErrNone || e == api.OK && len(l) != days || e == api.ErrNone && len(l) > 0 {
		t.Fatalf("Turns(%v, %d): %v, error %d", periods, days, l, e)
	}
	return l, e == api.OK
}

// lasting is what Lasts returns; -1, if some turns can go on for ever.
func lasting(t *testing.T, periods []int) int {
	t.Helper()
	n, e := census.Lasts(periods)
	if e != api.OK && (e != api.ErrNone || n != 0) {
		t.Fatalf("Lasts(%v): %d, error %d", periods, n, e)
	}
	if e == api.ErrNone {
		return -1
	}
	return n
}

// size is how great random audits are at most.
type size struct{ rooms, stock int }

// Of tiny audits all choices can be tried, of small ones all samples with all losses; great ones have whatever is valid.
var (
	tiny  = size{rooms: 3, stock: 3}
	small = size{rooms: 3, stock: 5}
	great = size{rooms: 4, stock: 8}
)

// someAudit is a random audit, often with costs that are the same.
func someAudit(r *rand.Rand, s size) api.Audit {
	var a api.Audit
	top := []int{0, 2, 20, 1000}[r.IntN(4)]
	for range 1 + r.IntN(s.rooms) {
		a.Stock = append(a.Stock, 1+r.IntN(s.stock))
		a.Costs = append(a.Costs, r.IntN(top+1))
	}
	a.Lost = 1 + r.IntN(sumOf(a.Stock))
	if r.IntN(2) == 0 {
		a.Lost = 1 + r.IntN(min(3, sumOf(a.Stock)))
	}
	a.Sure = []int{0, 1000, 999, 900, 750, 500, r.IntN(1001), r.IntN(1001)}[r.IntN(8)]
	return a
}

// someCounts is a random sample for an audit, or a loss.
func someCounts(r *rand.Rand, a api.Audit) []int {
	var l []int
	for _, n := range a.Stock {
		l = append(l, r.IntN(n+1))
	}
	return l
}

// someLoss is a random loss with Lost pledges in all.
func someLoss(r *rand.Rand, a api.Audit) []int {
	l := make([]int, len(a.Stock))
	for sumOf(l) < a.Lost {
		if room := r.IntN(len(l)); l[room] < a.Stock[room] {
			l[room]++
		}
	}
	return l
}

// someLosses are random losses of so many rooms at most.
func someLosses(r *rand.Rand, rooms int) []int {
	var l []int
	top := []int{3, 10, 100, 1000, 10000}[r.IntN(5)]
	for range 1 + r.IntN(rooms) {
		l = append(l, 1+r.IntN(top))
	}
	return l
}

// someWeights are random weights of so many rooms.
func someWeights(r *rand.Rand, rooms int) []int {
	l := make([]int, rooms)
	for left := 64; left > 0; {
		n := 1 + r.IntN(left)
		l[r.IntN(rooms)] += n
		left -= n
	}
	return l
}

// somePeriods are random periods of so many rooms at most, none longer than a number.
func somePeriods(r *rand.Rand, rooms, longest int) []int {
	var l []int
	for range 1 + r.IntN(rooms) {
		l = append(l, 1+r.IntN(longest))
	}
	return l
}

// periodLists calls visit with all periods of so many rooms, none longer than a number.
func periodLists(rooms, longest int, visit func(l []int)) {
	slowLists(row(rooms, longest-1), func(l []int) {
		periods := slices.Clone(l)
		for i := range periods {
			periods[i]++
		}
		visit(periods)
	})
}
