package till_test

import (
	"math/rand/v2"
	"reflect"
	"slices"
	"sync"
	"testing"

	"lombard/api"
	"lombard/till"
)

// question is what all functions are asked.
type question struct {
	d       api.Drawer
	sum     int
	given   []int
	price   int
	n       int
	plan    [][]int
	results []int
	desk
	k    int
	book api.DayBook
}

// answer is what a function returns, with its error.
type answer struct {
	result any
	e      api.Errno
}

// answers are what all functions return for a question.
func answers(q question) []answer {
	paid, e := till.Pay(q.d, q.sum)
	back, e2 := till.Change(q.d, q.given, q.price)
	is, e3 := till.Tells(q.n, q.plan)
	plan, e4 := till.Weigh(q.n)
	coin, side, e5 := till.Judge(q.n, q.plan, q.results)
	least, e6 := till.Linked(q.links)
	alarms, e7 := till.Alarms(q.l, q.links, q.w)
	reasons, e8 := till.Reasons(q.l, q.links, q.w, q.k)
	balances, e9 := till.Balance(q.book)
	mistakes, e10 := till.Explain(q.book)
	return []answer{
		{nil, till.Check(q.d)}, {paid, e}, {back, e2}, {is, e3}, {plan, e4}, {[2]int{coin, side}, e5},
		{least, e6}, {alarms, e7}, {reasons, e8}, {balances, e9}, {mistakes, e10},
	}
}

// isZero reports whether a result is the zero value; an empty list is.
func (x answer) isZero() bool {
	switch v := reflect.ValueOf(x.result); v.Kind() {
	case reflect.Invalid:
		return true
	case reflect.Slice:
		return v.Len() == 0
	default:
		return v.IsZero()
	}
}

// spared is a list with memory behind it.
func spared[T any](l []T) []T { return append(make([]T, 0, len(l)+3), l...) }

// bare reports whether the memory behind a list is zero.
func bare[T any](l []T) bool {
	return !slices.ContainsFunc(l[len(l):cap(l)], func(x T) bool { return !reflect.ValueOf(x).IsZero() })
}

// scribbled writes over all memory of a list.
func scribbled[T any](l []T, x T) {
	for i := range l[:cap(l)] {
		l[:cap(l)][i] = x
	}
}

// fine is a question about the examples, whose lists have memory behind them.
func fine() question {
	q := question{
		d: drawer(), sum: 24, given: spared([]int{1, 0, 0, 0}), price: 13, n: 3, results: spared([]int{-1, -1}),
		desk: desk{spared(dealings()), spared(links(0, 1)), watch()}, k: 3, book: book(88, 58, 4),
	}
	q.d = coins(spared(q.d.Coins), spared(q.d.Have)...)
	for _, l := range three() {
		q.plan = append(q.plan, spared(l))
	}
	q.plan = spared(q.plan)
	q.book = api.DayBook{Open: spared(q.book.Open), Postings: spared(q.book.Postings), Counted: spared(q.book.Counted)}
	return q
}

// numbers are all lists of numbers of a question.
func (q question) numbers() [][]int {
	return append([][]int{q.d.Coins, q.d.Have, q.given, q.results, q.book.Open, q.book.Counted}, q.plan...)
}

// untouched reports whether all memory behind the lists of a question is zero.
func (q question) untouched() bool {
	isTouched := func(l []int) bool { return !bare(l) }
	return !slices.ContainsFunc(q.numbers(), isTouched) && bare(q.plan) && bare(q.l) && bare(q.links) && bare(q.book.Postings)
}

// scribble writes over all memory of a question.
func (q question) scribble() {
	for _, l := range q.numbers() {
		scribbled(l, 77)
	}
	scribbled(q.plan, []int{77})
	scribbled(q.l, dealing(77, 77, 77))
	scribbled(q.links, [2]int{77, 77})
	scribbled(q.book.Postings, posting(77, 77, 77))
}

// scribbleAll writes over all memory of results.
func scribbleAll(l []answer) {
	for _, x := range l {
		switch y := x.result.(type) {
		case []int:
			scribbled(y, 77)
		case [][]int:
			for _, z := range y {
				scribbled(z, 77)
			}
			scribbled(y, []int{77})
		case []api.Alarm:
			scribbled(y, alarm(77, 77, 77))
		case []api.Mistake:
			scribbled(y, mistake(77, 77))
		}
	}
}

// P8.7: arguments are not changed, nor the memory behind them; results share none with them, nor with other results
func TestMemory(t *testing.T) {
	q := fine()
	first := answers(q)
	if !reflect.DeepEqual(q, fine()) || !q.untouched() {
		t.Fatalf("arguments are changed: %v, want %v", q, fine())
	}
	scribbleAll(answers(q))
	if again := answers(q); !reflect.DeepEqual(first, again) || !reflect.DeepEqual(q, fine()) || !q.untouched() {
		t.Errorf("results share memory: %v, then %v", first, again)
	}
	q.scribble()
	want := answers(fine())
	if !reflect.DeepEqual(first, want) {
		t.Errorf("results change with the arguments: %v, want %v", first, want)
	}
	for i, x := range want {
		if x.e != api.OK {
			t.Errorf("result %d: error %d", i, x.e)
		}
	}
}

// P8.7: nor are dealings with a sum that is reached by all of them, or small ones, or what was counted without mistakes
func TestMemoryOfOthers(t *testing.T) {
	for _, change := range []func(q *question){
		func(q *question) { q.links, q.k = spared(links(0, 1, 0, 3)), 2 },
		func(q *question) { q.w.Sum, q.w.Low, q.w.Many = 1000, 45, 2 },
		func(q *question) { q.w.Sum, q.w.Low = 1, 1 },
		func(q *question) { q.book.Counted = spared([]int{79, 31, 40}) },
		func(q *question) { q.given, q.price = spared([]int{50, 50, 50, 50}), 1900 },
		func(q *question) { q.sum, q.n = 0, 12 },
	} {
		q, p := fine(), fine()
		change(&q)
		change(&p)
		first := answers(q)
		scribbleAll(answers(q))
		if !reflect.DeepEqual(q, p) || !q.untouched() || !reflect.DeepEqual(first, answers(q)) {
			t.Errorf("memory is shared, or changed: %v, want %v", q, p)
		}
		q.scribble()
		if !reflect.DeepEqual(first, answers(p)) {
			t.Errorf("results change with the arguments: %v", first)
		}
	}
}

// P8.7: no two weighings share memory
func TestMemoryWithin(t *testing.T) {
	for n := 3; n <= 12; n++ {
		want := weighed(t, n)
		for i := range want {
			plan := weighed(t, n)
			_ = append(plan[i], 77)
			scribbled(plan[i], 77)
			for k := range plan {
				if k != i && !slices.Equal(plan[k], want[k]) {
					t.Errorf("the weighings %d and %d share memory: %v", i, k, plan)
				}
			}
		}
	}
}

// someQuestion is a random question that is mostly without an error.
func someQuestion(r *rand.Rand) question {
	q := question{d: someDrawer(r, 5, 5), n: 3 + r.IntN(10), desk: someDesk(r, 12), book: someBook(r, 5)}
	q.sum = worth(q.d.Coins, somePieces(r, q.d.Have)) % 2001
	q.given = somePieces(r, row(len(q.d.Coins), 5))
	q.price = max(0, worth(q.d.Coins, q.given)-r.IntN(30))
	q.plan = somePlan(r, q.n)
	if r.IntN(2) == 0 {
		q.plan, _ = till.Weigh(q.n)
	}
	cases := slowCases(q.n, q.plan)
	q.results = cases[r.IntN(len(cases))].shown
	q.k = r.IntN(len(q.l) + 1)
	return q
}

// P2: the same arguments have the same result, whatever was called before, or is called at the same time
func TestSameResults(t *testing.T) {
	r := random(21)
	var all []question
	for range 300 {
		all = append(all, someQuestion(r))
	}
	ask := func(l []question) [][]answer {
		var out [][]answer
		for _, q := range l {
			out = append(out, answers(q))
		}
		return out
	}
	first := ask(all)
	backwards := slices.Clone(all)
	slices.Reverse(backwards)
	second := ask(backwards)
	slices.Reverse(second)
	if !reflect.DeepEqual(first, second) {
		t.Errorf("other results in another order")
	}
	var group sync.WaitGroup
	for range 4 {
		group.Go(func() {
			if !reflect.DeepEqual(first, ask(all)) {
				t.Errorf("other results at the same time")
			}
		})
	}
	group.Wait()
}

// R3: a nil list and an empty one are the same
func TestNilAndEmpty(t *testing.T) {
	for i, change := range []func(q *question, empty []int){
		func(q *question, empty []int) { q.d.Coins = empty },
		func(q *question, empty []int) { q.d.Have = empty },
		func(q *question, empty []int) { q.d = api.Drawer{Coins: empty, Have: empty} },
		func(q *question, empty []int) { q.given = empty },
		func(q *question, empty []int) { q.plan[1] = empty },
		func(q *question, empty []int) { q.results = empty },
		func(q *question, empty []int) { q.book.Open = empty },
		func(q *question, empty []int) { q.book.Counted = empty },
		func(q *question, empty []int) { q.book.Open, q.book.Counted = empty, empty },
		func(q *question, empty []int) {
			q.plan, q.l, q.links, q.book.Postings = nil, nil, nil, nil
			if empty != nil {
				q.plan, q.l, q.links, q.book.Postings = [][]int{}, []api.Dealing{}, [][2]int{}, []api.Posting{}
			}
		},
	} {
		q, p := fine(), fine()
		change(&q, nil)
		change(&p, []int{})
		a, b := answers(q), answers(p)
		for j := range a {
			if a[j].e != b[j].e || a[j].isZero() != b[j].isZero() || !a[j].isZero() && !reflect.DeepEqual(a[j], b[j]) {
				t.Errorf("change %d, result %d: %v, then %v", i, j, a[j], b[j])
			}
		}
	}
	if l := linked(t, [][2]int{}); !slices.Equal(l, counted(0, 24)) {
		t.Errorf("Linked without links: %v", l)
	}
	if l := alarmed(t, desk{nil, [][2]int{}, watch()}); len(l) > 0 {
		t.Errorf("Alarms without dealings: %v", l)
	}
}

// spoilt is a list with numbers put in at random, and with some of it left out.
func spoilt(r *rand.Rand, l []int) []int {
	l = slices.Clone(l)
	numbers := append(extremes(), -2, -1, 0, 1, 2, 5, 23, 24, 50, 51, 366, 367, 2000, 2001, 36500, 36501, 50000, 50001, 1<<30, 1<<30+1)
	for i := range l {
		if r.IntN(12) == 0 {
			l[i] = numbers[r.IntN(len(numbers))]
		}
	}
	switch r.IntN(16) {
	case 0:
		return l[:r.IntN(len(l)+1)]
	case 1:
		return slices.Concat(l, l, l)
	}
	return l
}

// spoiltNumbers are as many numbers, some of which are likely to be wrong.
func spoiltNumbers(r *rand.Rand, l ...int) []int {
	out := spoilt(r, l)
	return append(out, l[min(len(out), len(l)):]...)
}

// spoiltQuestion is a random question, in which some is likely to be wrong.
func spoiltQuestion(r *rand.Rand) question {
	q := someQuestion(r)
	at := spoiltNumbers(r, q.sum, q.price, q.n, q.k, q.w.Days, q.w.Sum, q.w.Low, q.w.Many)
	q.sum, q.price, q.n, q.k = at[0], at[1], at[2], at[3]
	q.w = api.Watch{Days: at[4], Sum: at[5], Low: at[6], Many: at[7]}
	for _, l := range []*[]int{&q.d.Coins, &q.d.Have, &q.given, &q.results, &q.book.Open, &q.book.Counted} {
		*l = spoilt(r, *l)
	}
	if r.IntN(3) == 0 {
		i := r.IntN(len(q.plan))
		q.plan[i] = spoilt(r, q.plan[i])
	}
	if i := r.IntN(3); i < len(q.l) {
		x := spoiltNumbers(r, q.l[i].Day, q.l[i].Person, q.l[i].Sum)
		q.l[i] = dealing(x[0], x[1], x[2])
	}
	if i := r.IntN(3); i < len(q.links) {
		q.links[i] = [2]int(spoiltNumbers(r, q.links[i][:]...)[:2])
	}
	if i := r.IntN(3); i < len(q.book.Postings) {
		p := q.book.Postings[i]
		x := spoiltNumbers(r, p.From, p.To, p.Sum)
		q.book.Postings[i] = posting(x[0], x[1], x[2])
	}
	return q
}

// P1: whatever the arguments are, no function panics, and with an error all else is zero
func TestAnyArguments(t *testing.T) {
	r := random(22)
	counts := map[bool]int{}
	for range 10000 {
		q := spoiltQuestion(r)
		for i, x := range answers(q) {
			if x.e != api.OK && !x.isZero() {
				t.Fatalf("function %d with %v: %v with the error %d", i, q, x.result, x.e)
			}
			counts[x.e == api.OK]++
		}
	}
	if counts[true] < 20000 || counts[false] < 20000 {
		t.Errorf("only %v", counts)
	}
	for i, x := range answers(question{}) {
		if (x.e == api.OK) != (i == 6) || i != 6 && !x.isZero() { // without links nobody is linked
			t.Errorf("function %d with nothing: %v, error %d", i, x.result, x.e)
		}
	}
}
