package auction_test

import (
	"math/rand/v2"
	"reflect"
	"slices"
	"sync"
	"testing"

	"lombard/api"
	"lombard/auction"
)

// question is what all functions are asked.
type question struct {
	l    api.Lot
	n    int
	bids []api.Bid
	c    api.Closing
	to   []int
	a    api.Award
	past []int
	few  int
}

// answers are what all functions return for a question, each with its error.
func answers(q question) []answer {
	rung, e := auction.Rung(q.l, q.n)
	next, e2 := auction.Next(q.l, q.n)
	knock, e3 := auction.Sell(q.l, q.bids)
	leads, e4 := auction.Room(q.l, q.bids)
	worth, e5 := auction.Worth(q.c, q.to)
	prices, e6 := auction.Prices(q.c)
	a, e7 := auction.Close(q.c)
	is, e8 := auction.Fair(q.c, q.a)
	rings, e9 := auction.Rings(q.past, q.few)
	return []answer{
		{rung, e}, {next, e2}, {knock, e3}, {leads, e4}, {worth, e5}, {prices, e6}, {a, e7}, {is, e8}, {rings, e9},
		{nil, auction.Check(q.l)}, {nil, auction.CheckClosing(q.c)},
	}
}

type answer struct {
	result any
	e      api.Errno
}

// isZero reports whether a result is the zero value; an empty list is.
func (x answer) isZero() bool {
	switch y := x.result.(type) {
	case []int:
		return len(y) == 0
	case []api.Lead:
		return len(y) == 0
	case api.Award:
		return len(y.To) == 0 && len(y.Prices) == 0
	}
	return x.result == nil || reflect.ValueOf(x.result).IsZero()
}

// spared is a list with memory behind it.
func spared[T any](l []T) []T { return append(make([]T, 0, len(l)+3), l...) }

// behind reports whether the memory behind a list is zero.
func behind[T any](l []T) bool {
	return !slices.ContainsFunc(l[len(l):cap(l)], func(x T) bool { return !reflect.ValueOf(x).IsZero() })
}

// scribbled writes over all memory of a list.
func scribbled[T any](l []T, x T) {
	for i := range l[:cap(l)] {
		l[:cap(l)][i] = x
	}
}

// fine is a question about the examples, whose lists have memory behind them.
func fine() question {
	q := question{lot(), 45, bids(), closing(), []int{0, 1, -1}, award([]int{0, 1, -1}, []int{5, 1}), past(), 2}
	q.l.Ladder, q.bids, q.to, q.past = spared(q.l.Ladder), spared(q.bids), spared(q.to), spared(q.past)
	q.a = award(spared(q.a.To), spared(q.a.Prices))
	q.c.Reserves = spared(q.c.Reserves)
	for i := range q.c.Values {
		q.c.Values[i] = spared(q.c.Values[i])
	}
	q.c.Values = spared(q.c.Values)
	return q
}

// untouched reports whether all memory behind the lists of a question is zero.
func (q question) untouched() bool {
	ok := behind(q.l.Ladder) && behind(q.bids) && behind(q.to) && behind(q.past) && behind(q.a.To) && behind(q.a.Prices) && behind(q.c.Reserves) && behind(q.c.Values)
	for _, values := range q.c.Values {
		ok = ok && behind(values)
	}
	return ok
}

// scribble writes over all memory of a question.
func (q question) scribble() {
	scribbled(q.l.Ladder, rise(77, 77))
	scribbled(q.bids, bid(77, 77, 77))
	for _, values := range q.c.Values {
		scribbled(values, 77)
	}
	scribbled(q.c.Values, []int{77})
	for _, l := range [][]int{q.c.Reserves, q.to, q.a.To, q.a.Prices, q.past} {
		scribbled(l, 77)
	}
}

// scribbleAll writes over all memory of results.
func scribbleAll(l []answer) {
	for _, x := range l {
		switch y := x.result.(type) {
		case []int:
			scribbled(y, 77)
		case []api.Lead:
			scribbled(y, lead(77, 77, 77, 77, 77))
		case api.Award:
			scribbled(y.To, 77)
			scribbled(y.Prices, 77)
		}
	}
}

// P6.6: arguments are not changed, nor the memory behind them; results share none with them, nor with other results
func TestMemory(t *testing.T) {
	q := fine()
	first := answers(q)
	if !reflect.DeepEqual(q, fine()) || !q.untouched() {
		t.Fatalf("arguments are changed: %v, want %v", q, fine())
	}
	scribbleAll(answers(q))
	if again := answers(q); !reflect.DeepEqual(first, again) || !reflect.DeepEqual(q, fine()) {
		t.Errorf("results share memory: %v, then %v", first, again)
	}
	q.scribble()
	want := answers(fine())
	if !reflect.DeepEqual(first, want) {
		t.Errorf("results change with the arguments: %v, want %v", first, want)
	}
	for i, x := range want {
		if x.e != api.OK {
			t.Errorf("result %d: error %d", i, x.e)
		}
	}
}

// P6.6: no two lists of an award share memory
func TestMemoryWithin(t *testing.T) {
	for _, c := range []api.Closing{closing(), {Reserves: []int{2, 2}, Values: [][]int{{9, 3}, {3, 9}}}} {
		want := awarded(t, c)
		a := awarded(t, c)
		_ = append(a.To, 77)
		_ = append(a.Prices, 77)
		if !reflect.DeepEqual(a, want) {
			t.Errorf("lists of an award share memory: %v, want %v", a, want)
		}
		scribbled(a.To, 77)
		if !slices.Equal(a.Prices, want.Prices) {
			t.Errorf("lists of an award share memory: %v, want %v", a, want)
		}
	}
}

// someQuestion is a random question that is mostly without an error.
func someQuestion(r *rand.Rand) question {
	q := question{l: someLot(r), n: 1 + r.IntN(100), c: someClosing(r, 4, 4, 1+r.IntN(9)), past: somePast(r), few: 1 + r.IntN(4)}
	q.bids = someBids(r, q.l, 12)
	for range q.c.Values {
		q.to = append(q.to, api.NoBidder)
	}
	for bidder := range min(len(q.c.Values), len(q.c.Reserves)) {
		q.to[bidder] = bidder - r.IntN(2)*(bidder+1)
	}
	q.a = award(shuffled(r, q.to), slices.Clone(q.c.Reserves))
	return q
}

// P2: the same arguments have the same result, whatever was called before, or is called at the same time
func TestSameResults(t *testing.T) {
	r := random(19)
	var all []question
	for range 300 {
		all = append(all, someQuestion(r))
	}
	ask := func(l []question) [][]answer {
		var out [][]answer
		for _, q := range l {
			out = append(out, answers(q))
		}
		return out
	}
	first := ask(all)
	backwards := slices.Clone(all)
	slices.Reverse(backwards)
	second := ask(backwards)
	slices.Reverse(second)
	if !reflect.DeepEqual(first, second) {
		t.Errorf("other results in another order")
	}
	var group sync.WaitGroup
	for range 4 {
		group.Go(func() {
			if !reflect.DeepEqual(first, ask(all)) {
				t.Errorf("other results at the same time")
			}
		})
	}
	group.Wait()
}

// R3: a nil list and an empty one are the same
func TestNilAndEmpty(t *testing.T) {
	for i, change := range []func(q *question, empty []int){
		func(q *question, empty []int) { q.l.Ladder = make([]api.Rise, len(empty)) },
		func(q *question, empty []int) { q.c.Reserves = empty },
		func(q *question, empty []int) { q.c.Values[1] = empty },
		func(q *question, empty []int) { q.to = empty },
		func(q *question, empty []int) { q.a.To = empty },
		func(q *question, empty []int) { q.a.Prices = empty },
		func(q *question, empty []int) { q.past = empty },
		func(q *question, empty []int) {
			q.bids, q.c.Values = nil, nil
			if empty != nil {
				q.bids, q.c.Values = []api.Bid{}, [][]int{}
			}
		},
	} {
		q, p := fine(), fine()
		change(&q, nil)
		change(&p, []int{})
		a, b := answers(q), answers(p)
		for j := range a {
			if a[j].e != b[j].e || a[j].isZero() != b[j].isZero() || !a[j].isZero() && !reflect.DeepEqual(a[j], b[j]) {
				t.Errorf("change %d, result %d: %v, then %v", i, j, a[j], b[j])
			}
		}
	}
	if k, leads := sold(t, lot(), nil), led(t, lot(), []api.Bid{}); k != nobody() || len(leads) > 0 {
		t.Errorf("without bids: %v, %v", k, leads)
	}
}

// spoilt is a list with numbers put in at random, and with some of it left out.
func spoilt(r *rand.Rand, l []int) []int {
	l = slices.Clone(l)
	numbers := append(extremes(), -2, -1, 0, 1, 2, 5, 99, 100, 255, 256, 100000, 100001)
	for i := range l {
		if r.IntN(8) == 0 {
			l[i] = numbers[r.IntN(len(numbers))]
		}
	}
	switch r.IntN(12) {
	case 0:
		return l[:r.IntN(len(l)+1)]
	case 1:
		return slices.Concat(l, l, l)
	}
	return l
}

// spoiltQuestion is a random question, in which some is likely to be wrong.
func spoiltQuestion(r *rand.Rand) question {
	q := someQuestion(r)
	at := spoilt(r, []int{q.l.Start, q.l.Reserve, q.n, q.few, 0, 0})
	for len(at) < 6 {
		at = append(at, 1)
	}
	q.l.Start, q.l.Reserve, q.n, q.few = at[0], at[1], at[2], at[3]
	if i := at[4]; 0 <= i && i < len(q.l.Ladder) && r.IntN(3) == 0 {
		q.l.Ladder[i] = rise(at[5], at[3])
	}
	for i, b := range q.bids {
		if l := spoilt(r, []int{b.Bidder, b.Way, b.Most}); len(l) == 3 && r.IntN(8) == 0 {
			q.bids[i] = bid(l[0], l[1], l[2])
		}
	}
	q.c.Reserves, q.to, q.past = spoilt(r, q.c.Reserves), spoilt(r, q.to), spoilt(r, q.past)
	q.a = award(spoilt(r, q.a.To), spoilt(r, q.a.Prices))
	if r.IntN(3) == 0 {
		i := r.IntN(len(q.c.Values))
		q.c.Values[i] = spoilt(r, q.c.Values[i])
	}
	return q
}

// P1: whatever the arguments are, no function panics, and with an error all else is zero
func TestAnyArguments(t *testing.T) {
	r := random(20)
	counts := map[bool]int{}
	for range 10000 {
		q := spoiltQuestion(r)
		for i, x := range answers(q) {
			if x.e != api.OK && !x.isZero() {
				t.Fatalf("function %d with %v: %v with the error %d", i, q, x.result, x.e)
			}
			counts[x.e == api.OK]++
		}
	}
	if counts[true] < 20000 || counts[false] < 20000 {
		t.Errorf("only %v", counts)
	}
	for i, x := range answers(question{}) {
		if x.e == api.OK || !x.isZero() {
			t.Errorf("function %d with nothing: %v, error %d", i, x.result, x.e)
		}
	}
}
