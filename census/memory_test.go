package census_test

import (
	"math/rand/v2"
	"reflect"
	"slices"
	"sync"
	"testing"

	"lombard/api"
	"lombard/census"
)

// question is what all functions are asked.
type question struct {
	a               api.Audit
	sample, lost    []int
	losses, weights []int
	risk            int
	order, numbers  []int
	n, rank, many   int
	periods, turns  []int
	days            int
}

// answer is what a function returns, with its error.
type answer struct {
	result any
	e      api.Errno
}

// pair is what Least and Patrol return, and triple what Worst does.
type pair struct {
	l []int
	n int
}

type triple struct {
	l    []int
	n, m int
}

// audited are what the functions with an audit return for a question: first those without a sample.
func audited(q question) []answer {
	least, cost, e := census.Least(q.a)
	ways, all, e2 := census.Miss(q.a, q.sample, q.lost)
	lost, most, of, e3 := census.Worst(q.a, q.sample)
	is, e4 := census.Finds(q.a, q.sample)
	return []answer{{nil, census.Check(q.a)}, {pair{least, cost}, e}, {[2]int{ways, all}, e2}, {triple{lost, most, of}, e3}, {is, e4}}
}

// answers are what all functions return for a question.
func answers(q question) []answer {
	risk, e := census.Risk(q.losses, q.weights)
	need, e2 := census.Need(q.losses, q.risk)
	weights, least, e3 := census.Patrol(q.losses)
	rank, e4 := census.Rank(q.order)
	order, e5 := census.Unrank(q.n, q.rank)
	drawn, e6 := census.Draw(q.n, q.many, q.numbers)
	is, e7 := census.Keeps(q.periods, q.turns)
	turns, e8 := census.Turns(q.periods, q.days)
	last, e9 := census.Lasts(q.periods)
	return append(audited(q), answer{risk, e}, answer{need, e2}, answer{pair{weights, least}, e3},
		answer{rank, e4}, answer{order, e5}, answer{drawn, e6}, answer{is, e7}, answer{turns, e8}, answer{last, e9})
}

// list is the list of a result.
func (x answer) list() []int {
	switch y := x.result.(type) {
	case []int:
		return y
	case pair:
		return y.l
	case triple:
		return y.l
	}
	return nil
}

// isZero reports whether a result is the zero value; an empty list is.
func (x answer) isZero() bool {
	switch y := x.result.(type) {
	case nil:
		return true
	case []int:
		return len(y) == 0
	case pair:
		return len(y.l) == 0 && y.n == 0
	case triple:
		return len(y.l) == 0 && y.n == 0 && y.m == 0
	}
	return reflect.ValueOf(x.result).IsZero()
}

// lists are all lists of a question.
func (q *question) lists() []*[]int {
	return []*[]int{&q.a.Stock, &q.a.Costs, &q.sample, &q.lost, &q.losses, &q.weights, &q.order, &q.numbers, &q.periods, &q.turns}
}

// spare puts memory behind all lists of a question.
func (q *question) spare() {
	for _, l := range q.lists() {
		*l = append(make([]int, 0, len(*l)+3), *l...)
	}
}

// untouched reports whether all memory behind the lists of a question is zero.
func (q *question) untouched() bool {
	isTouched := func(l *[]int) bool { return sumOf((*l)[len(*l):cap(*l)]) != 0 }
	return !slices.ContainsFunc(q.lists(), isTouched)
}

// scribbled writes over all memory of a list.
func scribbled(l []int) { copy(l[:cap(l)], row(cap(l), 77)) }

func (q *question) scribble() {
	for _, l := range q.lists() {
		scribbled(*l)
	}
}

// fine is a question that all functions answer without an error, but for Lasts.
func fine() question {
	q := question{
		a: example(), sample: []int{2, 1}, lost: []int{0, 2}, losses: []int{10, 30}, weights: []int{10, 54}, risk: 480,
		order: []int{2, 0, 1}, numbers: []int{5, 3, 2}, n: 3, rank: 5, many: 2, periods: []int{2, 4, 4}, turns: []int{0, 1, 0}, days: 6,
	}
	q.spare()
	return q
}

// P10.7: arguments are not changed, nor the memory behind them; results share none with them, nor with other results
func TestMemory(t *testing.T) {
	for i, change := range []func(q *question){
		func(q *question) {},
		func(q *question) { q.periods = []int{2, 3, 3} },
		func(q *question) { q.n, q.rank, q.numbers, q.order = 8, 0, row(16, 0), counted(8) },
		func(q *question) { q.a = limits(); q.sample, q.lost = row(4, 8), row(4, 8) },
		func(q *question) { q.losses, q.weights = row(6, 9), []int{64, 0, 0, 0, 0, 0} },
		func(q *question) { q.turns, q.days, q.many = nil, 0, 0 },
		func(q *question) { q.periods, q.days, q.turns = row(5, 5), 64, row(64, 4) },
		func(q *question) { q.order, q.numbers, q.losses, q.periods = []int{1, 1}, []int{6}, []int{0}, []int{9} },
	} {
		q, p := fine(), fine()
		change(&q)
		change(&p)
		q.spare()
		p.spare()
		first := answers(q)
		if !reflect.DeepEqual(q, p) || !q.untouched() {
			t.Fatalf("change %d: arguments are changed: %v, want %v", i, q, p)
		}
		for _, x := range answers(q) {
			scribbled(x.list())
		}
		if again := answers(q); !reflect.DeepEqual(first, again) || !reflect.DeepEqual(q, p) || !q.untouched() {
			t.Errorf("change %d: results share memory: %v, then %v", i, first, again)
		}
		q.scribble()
		if want := answers(p); !reflect.DeepEqual(first, want) {
			t.Errorf("change %d: results change with the arguments: %v, want %v", i, first, want)
		}
	}
	all := answers(fine())
	for i, x := range all[:len(all)-1] {
		if x.e != api.OK {
			t.Errorf("result %d: error %d", i, x.e)
		}
	}
}

// someQuestion is a random question that is mostly without an error.
func someQuestion(r *rand.Rand) question {
	a := someAudit(r, small)
	q := question{
		a: a, sample: someCounts(r, a), lost: someCounts(r, a), losses: someLosses(r, 6), risk: r.IntN(100000), n: 1 + r.IntN(8),
		periods: somePeriods(r, 5, 8), days: r.IntN(65),
	}
	q.weights = someWeights(r, len(q.losses))
	q.order, q.many = r.Perm(q.n), r.IntN(q.n+1)
	q.rank = r.IntN(factorials()[q.n])
	for range 1 + r.IntN(16) {
		q.numbers = append(q.numbers, r.IntN(factorials()[q.n]))
	}
	for range r.IntN(65) {
		q.turns = append(q.turns, r.IntN(len(q.periods)))
	}
	return q
}

// P2: the same arguments have the same result, whatever was called before, or is called at the same time
func TestSameResults(t *testing.T) {
	r := random(21)
	var all []question
	for range 200 {
		all = append(all, someQuestion(r))
	}
	ask := func(l []question) [][]answer {
		var out [][]answer
		for _, q := range l {
			out = append(out, answers(q))
		}
		return out
	}
	first := ask(all)
	backwards := slices.Clone(all)
	slices.Reverse(backwards)
	second := ask(backwards)
	slices.Reverse(second)
	if !reflect.DeepEqual(first, second) {
		t.Errorf("other results in another order")
	}
	var group sync.WaitGroup
	for range 4 {
		group.Go(func() {
			if !reflect.DeepEqual(first, ask(all)) {
				t.Errorf("other results at the same time")
			}
		})
	}
	group.Wait()
}

// R3: a nil list and an empty one are the same
func TestNilAndEmpty(t *testing.T) {
	q := fine()
	for i := range q.lists() {
		q, p := fine(), fine()
		*q.lists()[i], *p.lists()[i] = nil, []int{}
		a, b := answers(q), answers(p)
		for j := range a {
			if a[j].e != b[j].e || a[j].isZero() != b[j].isZero() || !a[j].isZero() && !reflect.DeepEqual(a[j], b[j]) {
				t.Errorf("list %d, result %d: %v, then %v", i, j, a[j], b[j])
			}
		}
	}
	if !kept(t, []int{2, 3, 3}, []int{}) || !kept(t, []int{2, 3, 3}, nil) {
		t.Errorf("Keeps: not by no turns")
	}
}

// spoilt is a list with numbers put in at random, and with some of it left out.
func spoilt(r *rand.Rand, l []int) []int {
	l = slices.Clone(l)
	numbers := append(extremes(), -2, -1, 0, 1, 2, 4, 5, 6, 7, 8, 9, 63, 64, 65, 1000, 1001, 10000, 10001, 40319, 40320)
	for i := range l {
		if r.IntN(12) == 0 {
			l[i] = numbers[r.IntN(len(numbers))]
		}
	}
	switch r.IntN(16) {
	case 0:
		return l[:r.IntN(len(l)+1)]
	case 1:
		return slices.Concat(l, l, l)
	}
	return l
}

// spoiltQuestion is a random question, in which some is likely to be wrong.
func spoiltQuestion(r *rand.Rand) question {
	q := someQuestion(r)
	for _, l := range q.lists() {
		*l = spoilt(r, *l)
	}
	for _, n := range []*int{&q.a.Lost, &q.a.Sure, &q.risk, &q.n, &q.rank, &q.many, &q.days} {
		*n = append(spoilt(r, []int{*n}), *n)[0]
	}
	return q
}

// P1: whatever the arguments are, no function panics, and with an error all else is zero
func TestAnyArguments(t *testing.T) {
	r := random(22)
	counts := map[bool]int{}
	for range 5000 {
		q := spoiltQuestion(r)
		for i, x := range answers(q) {
			if x.e != api.OK && !x.isZero() {
				t.Fatalf("function %d with %v: %v with the error %d", i, q, x.result, x.e)
			}
			counts[x.e == api.OK]++
		}
	}
	if counts[true] < 10000 || counts[false] < 10000 {
		t.Errorf("only %v", counts)
	}
	for i, x := range answers(question{}) {
		if x.e == api.OK || !x.isZero() {
			t.Errorf("function %d with nothing: %v, error %d", i, x.result, x.e)
		}
	}
}
