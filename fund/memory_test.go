package fund_test

import (
	"math/rand/v2"
	"reflect"
	"slices"
	"sync"
	"testing"

	"lombard/api"
	"lombard/fund"
)

// question is what all functions are asked.
type question struct {
	f          api.Fund
	begins     []int
	r          api.Run
	day        int
	plan       []int
	in, prices []int
}

// answer is what a function returns, with its error.
type answer struct {
	result any
	e      api.Errno
}

// choice is what Worst and Least return.
type choice struct {
	l []int
	n int
}

// answers are what all functions return for a question.
func answers(q question) []answer {
	starts, e := fund.Starts(q.f, q.begins)
	is, e2 := fund.Allowed(q.f, q.r)
	needs, e3 := fund.Needs(q.f)
	begins, sum, e4 := fund.Worst(q.f, q.day)
	r, e5 := fund.Example(q.f, q.day)
	cash, e6 := fund.Follow(q.f, q.plan, q.r, q.in, q.prices)
	isSound, e7 := fund.Sound(q.f, q.plan)
	plan, e8 := fund.Plan(q.f)
	least, bars, e9 := fund.Least(q.f)
	more, e10 := fund.Capital(q.f)
	most, e11 := fund.Bears(q.f)
	return []answer{
		{nil, fund.Check(q.f)}, {starts, e}, {is, e2}, {needs, e3}, {choice{begins, sum}, e4}, {r, e5},
		{cash, e6}, {isSound, e7}, {plan, e8}, {choice{least, bars}, e9}, {more, e10}, {most, e11},
	}
}

// isZero reports whether a result is the zero value; an empty list is.
func (x answer) isZero() bool {
	switch y := x.result.(type) {
	case nil:
		return true
	case []int:
		return len(y) == 0
	case choice:
		return len(y.l) == 0 && y.n == 0
	case api.Run:
		return len(y.Begins) == 0 && len(y.Out) == 0
	}
	return reflect.ValueOf(x.result).IsZero()
}

// spared is a list with memory behind it.
func spared[T any](l []T) []T { return append(make([]T, 0, len(l)+3), l...) }

// bare reports whether the memory behind a list is zero.
func bare[T any](l []T) bool {
	return !slices.ContainsFunc(l[len(l):cap(l)], func(x T) bool { return !reflect.ValueOf(x).IsZero() })
}

// scribbled writes over all memory of a list.
func scribbled[T any](l []T, x T) {
	for i := range l[:cap(l)] {
		l[:cap(l)][i] = x
	}
}

// fine is a question about the fund of the document with cash enough, whose lists have memory behind them.
func fine() question {
	f, r := example(74), greedy()
	q := question{f: f, begins: []int{0, 1}, r: r, day: 1, plan: []int{2, 2, 0}, in: leastOf(f.In), prices: leastOf(f.Prices)}
	for _, l := range []*[]int{&q.f.Bonds, &q.f.Sell, &q.begins, &q.r.Begins, &q.r.Out[0], &q.r.Out[1], &q.r.Out[2], &q.plan, &q.in, &q.prices} {
		*l = spared(*l)
	}
	q.f.In, q.f.Prices, q.f.Groups, q.f.Ways, q.r.Out = spared(f.In), spared(f.Prices), spared(f.Groups), spared(f.Ways), spared(q.r.Out)
	return q
}

// numbers are all lists of numbers of a question.
func (q question) numbers() [][]int {
	return append([][]int{q.f.Bonds, q.f.Sell, q.begins, q.r.Begins, q.plan, q.in, q.prices}, q.r.Out...)
}

// untouched reports whether all memory behind the lists of a question is zero.
func (q question) untouched() bool {
	isTouched := func(l []int) bool { return !bare(l) }
	return !slices.ContainsFunc(q.numbers(), isTouched) && bare(q.f.In) && bare(q.f.Prices) && bare(q.f.Groups) && bare(q.f.Ways) && bare(q.r.Out)
}

// scribble writes over all memory of a question.
func (q question) scribble() {
	for _, l := range q.numbers() {
		scribbled(l, 77)
	}
	scribbled(q.r.Out, []int{77})
	scribbled(q.f.In, api.Span{Min: 77, Max: 77})
	scribbled(q.f.Prices, api.Span{Min: 77, Max: 77})
	scribbled(q.f.Groups, group(77, 77, 77))
	scribbled(q.f.Ways, way(77, 77, 77))
}

// scribbleAll writes over all memory of results.
func scribbleAll(l []answer) {
	for _, x := range l {
		switch y := x.result.(type) {
		case []int:
			scribbled(y, 77)
		case choice:
			scribbled(y.l, 77)
		case api.Run:
			scribbled(y.Begins, 77)
			for _, row := range y.Out {
				scribbled(row, 77)
			}
			scribbled(y.Out, []int{77})
		}
	}
}

// P9.6: arguments are not changed, nor the memory behind them; results share none with them, nor with other results
func TestMemory(t *testing.T) {
	for i, change := range []func(q *question){
		func(q *question) {},
		func(q *question) { q.f.Begin, q.day = 3, 2 },
		func(q *question) { q.f.Begin, q.begins, q.r.Begins = 0, nil, nil },
		func(q *question) { q.f.Cash = 1000 },
		func(q *question) { q.f.Cash, q.f.Bars, q.plan = 110, 0, spared(row(3, 0)) },
		func(q *question) { q.f.Cash, q.f.Sell, q.f.Bars = 100, spared(row(3, 64)), 64 },
	} {
		q, p := fine(), fine()
		change(&q)
		change(&p)
		first := answers(q)
		if !reflect.DeepEqual(q, p) || !q.untouched() {
			t.Fatalf("change %d: arguments are changed: %v, want %v", i, q, p)
		}
		scribbleAll(answers(q))
		if again := answers(q); !reflect.DeepEqual(first, again) || !reflect.DeepEqual(q, p) || !q.untouched() {
			t.Errorf("change %d: results share memory: %v, then %v", i, first, again)
		}
		q.scribble()
		if want := answers(p); !reflect.DeepEqual(first, want) {
			t.Errorf("change %d: results change with the arguments: %v, want %v", i, first, want)
		}
	}
	for i, x := range answers(fine()) {
		if x.e != api.OK {
			t.Errorf("result %d: error %d", i, x.e)
		}
	}
}

// P9.6: no two lists of a run share memory
func TestMemoryWithin(t *testing.T) {
	f := example(50)
	f.Groups = slices.Repeat([]api.Group{group(60, 40, 0)}, 8)
	f.Ways, f.Begin = nil, 3
	want := exampled(t, f, 2)
	for i := range want.Out {
		r := exampled(t, f, 2)
		_ = append(r.Out[i], 77)
		scribbled(r.Out[i], 77)
		for k := range r.Out {
			if k != i && !slices.Equal(r.Out[k], want.Out[k]) || !slices.Equal(r.Begins, want.Begins) {
				t.Errorf("the groups %d and %d share memory: %v", i, k, r)
			}
		}
	}
}

// someQuestion is a random question that is mostly without an error.
func someQuestion(r *rand.Rand) question {
	f := someFund(r, small)
	return question{f: f, begins: someBegins(r, f, 8), r: someRun(r, f), day: r.IntN(len(f.In)), plan: somePlan(r, f), in: someWithin(r, f.In), prices: someWithin(r, f.Prices)}
}

// P2: the same arguments have the same result, whatever was called before, or is called at the same time
func TestSameResults(t *testing.T) {
	r := random(21)
	var all []question
	for range 200 {
		all = append(all, someQuestion(r))
	}
	ask := func(l []question) [][]answer {
		var out [][]answer
		for _, q := range l {
			out = append(out, answers(q))
		}
		return out
	}
	first := ask(all)
	backwards := slices.Clone(all)
	slices.Reverse(backwards)
	second := ask(backwards)
	slices.Reverse(second)
	if !reflect.DeepEqual(first, second) {
		t.Errorf("other results in another order")
	}
	var group sync.WaitGroup
	for range 4 {
		group.Go(func() {
			if !reflect.DeepEqual(first, ask(all)) {
				t.Errorf("other results at the same time")
			}
		})
	}
	group.Wait()
}

// R3: a nil list and an empty one are the same
func TestNilAndEmpty(t *testing.T) {
	for i, change := range []func(q *question, empty []int){
		func(q *question, empty []int) { q.f.Bonds = empty },
		func(q *question, empty []int) { q.f.Sell = empty },
		func(q *question, empty []int) { q.begins = empty },
		func(q *question, empty []int) { q.r.Begins = empty },
		func(q *question, empty []int) { q.r.Begins, q.r.Out = empty, [][]int{row(3, 0), row(3, 0), row(3, 0)} },
		func(q *question, empty []int) { q.r.Out[1] = empty },
		func(q *question, empty []int) { q.plan = empty },
		func(q *question, empty []int) { q.in = empty },
		func(q *question, empty []int) { q.prices = empty },
		func(q *question, empty []int) {
			q.f.Groups, q.f.Ways, q.f.Begin, q.begins, q.r = nil, nil, 0, empty, api.Run{Begins: empty}
			if empty != nil {
				q.f.Groups, q.f.Ways, q.r.Out = []api.Group{}, []api.Spread{}, [][]int{}
			}
		},
		func(q *question, empty []int) {
			q.f.In, q.f.Prices = nil, nil
			if empty != nil {
				q.f.In, q.f.Prices = []api.Span{}, []api.Span{}
			}
		},
		func(q *question, empty []int) { // no ways
			q.f.Ways, q.begins = nil, empty
			if empty != nil {
				q.f.Ways = []api.Spread{}
			}
		},
	} {
		q, p := fine(), fine()
		change(&q, nil)
		change(&p, []int{})
		a, b := answers(q), answers(p)
		for j := range a {
			if a[j].e != b[j].e || a[j].isZero() != b[j].isZero() || !a[j].isZero() && !reflect.DeepEqual(a[j], b[j]) {
				t.Errorf("change %d, result %d: %v, then %v", i, j, a[j], b[j])
			}
		}
	}
	f := plain(2)
	if e := fund.Check(f); e != api.OK {
		t.Errorf("Check without groups: error %d", e)
	}
	if !allowed(t, f, api.Run{Begins: []int{}, Out: [][]int{}}) || !allowed(t, f, api.Run{}) {
		t.Errorf("Allowed: not a run of nobody")
	}
}

// spoilt is a list with numbers put in at random, and with some of it left out.
func spoilt(r *rand.Rand, l []int) []int {
	l = slices.Clone(l)
	numbers := append(extremes(), -2, -1, 0, 1, 2, 5, 8, 9, 12, 13, 24, 64, 65, 1<<20, 1<<20+1, 1<<30, 1<<30+1, 1<<40, 1<<40+1)
	for i := range l {
		if r.IntN(12) == 0 {
			l[i] = numbers[r.IntN(len(numbers))]
		}
	}
	switch r.IntN(16) {
	case 0:
		return l[:r.IntN(len(l)+1)]
	case 1:
		return slices.Concat(l, l, l)
	}
	return l
}

// spoiltNumbers are as many numbers, some of which are likely to be wrong.
func spoiltNumbers(r *rand.Rand, l ...int) []int {
	out := spoilt(r, l)
	return append(out, l[min(len(out), len(l)):]...)
}

// spoiltSpans are spans of which one may be wrong.
func spoiltSpans(r *rand.Rand, l []api.Span) []api.Span {
	l = slices.Clone(l)
	x := spoiltNumbers(r, l[0].Min, l[0].Max)
	l[0] = api.Span{Min: x[0], Max: x[1]}
	return l
}

// spoiltQuestion is a random question, in which some is likely to be wrong.
func spoiltQuestion(r *rand.Rand) question {
	q := someQuestion(r)
	for _, l := range []*[]int{&q.begins, &q.r.Begins, &q.plan, &q.in, &q.prices} {
		*l = spoilt(r, *l)
	}
	if i := r.IntN(3); i < len(q.r.Out) {
		q.r.Out[i] = spoilt(r, q.r.Out[i])
	}
	q.day = spoiltNumbers(r, q.day)[0]
	if r.IntN(2) == 0 {
		return q
	}
	at := spoiltNumbers(r, q.f.Cash, q.f.Begin, q.f.Bars)
	q.f.Cash, q.f.Begin, q.f.Bars = at[0], at[1], at[2]
	q.f.Bonds, q.f.Sell = spoilt(r, q.f.Bonds), spoilt(r, q.f.Sell)
	q.f.In, q.f.Prices = spoiltSpans(r, q.f.In), spoiltSpans(r, q.f.Prices)
	if i := r.IntN(3); i < len(q.f.Groups) {
		x := spoiltNumbers(r, q.f.Groups[i].Sum, q.f.Groups[i].Limit, q.f.Groups[i].Notice)
		q.f.Groups[i] = group(x[0], x[1], x[2])
	}
	if i := r.IntN(3); i < len(q.f.Ways) {
		x := spoiltNumbers(r, q.f.Ways[i].From, q.f.Ways[i].To, q.f.Ways[i].Delay)
		q.f.Ways[i] = way(x[0], x[1], x[2])
	}
	return q
}

// P1: whatever the arguments are, no function panics, and with an error all else is zero
func TestAnyArguments(t *testing.T) {
	r := random(22)
	counts := map[bool]int{}
	for range 5000 {
		q := spoiltQuestion(r)
		for i, x := range answers(q) {
			if x.e != api.OK && !x.isZero() {
				t.Fatalf("function %d with %v: %v with the error %d", i, q, x.result, x.e)
			}
			counts[x.e == api.OK]++
		}
	}
	if counts[true] < 10000 || counts[false] < 10000 {
		t.Errorf("only %v", counts)
	}
	for i, x := range answers(question{}) {
		if x.e != api.ErrFund || !x.isZero() {
			t.Errorf("function %d with nothing: %v, error %d", i, x.result, x.e)
		}
	}
}
