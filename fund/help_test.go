package fund_test

import (
	"math"
	"math/rand/v2"
	"slices"
	"testing"

	"lombard/api"
	"lombard/fund"
)

// example is the fund of the document, with this cash.
func example(cash int) api.Fund {
	return api.Fund{
		Cash:   cash,
		In:     spans(10, 20, 10, 20, 10, 20),
		Bonds:  []int{0, 0, 30},
		Sell:   []int{2, 2, 2},
		Prices: spans(8, 9, 10, 12, 5, 6),
		Groups: []api.Group{group(60, 40, 0), group(100, 30, 1), group(20, 20, 0)},
		Ways:   []api.Spread{way(0, 1, 1), way(1, 2, 0)},
		Begin:  1,
		Bars:   4,
	}
}

// greedy is a run of that fund in which each group takes all it can.
func greedy() api.Run { return run([]int{0}, []int{40, 20, 0}, []int{0, 0, 30}, []int{0, 20, 0}) }

// changed is the fund of the document with 50 of cash, and one change.
func changed(change func(f *api.Fund)) api.Fund {
	f := example(50)
	change(&f)
	return f
}

// plain is a fund of so many days, on which nothing happens.
func plain(days int) api.Fund {
	return api.Fund{In: make([]api.Span, days), Bonds: row(days, 0), Sell: row(days, 0), Prices: make([]api.Span, days)}
}

// sales is a fund without depositors: what is due each day, how many bars can be sold, their least prices, and how many in all.
func sales(bonds, sell, prices []int, bars int) api.Fund {
	f := plain(len(bonds))
	f.Bonds, f.Sell, f.Bars = bonds, sell, bars
	for day, n := range prices {
		f.Prices[day] = api.Span{Min: n, Max: n + 5}
	}
	return f
}

// web is a fund of one day with so many groups, and these ways.
func web(groups int, ways ...api.Spread) api.Fund {
	f := plain(1)
	f.Groups, f.Ways = make([]api.Group, groups), ways
	return f
}

func group(sum, limit, notice int) api.Group {
	return api.Group{Sum: sum, Limit: limit, Notice: notice}
}

func way(from, to, delay int) api.Spread { return api.Spread{From: from, To: to, Delay: delay} }

func run(begins []int, out ...[]int) api.Run { return api.Run{Begins: begins, Out: out} }

// spans are pairs of numbers, one behind the other.
func spans(numbers ...int) []api.Span {
	var l []api.Span
	for pair := range slices.Chunk(numbers, 2) {
		l = append(l, api.Span{Min: pair[0], Max: pair[1]})
	}
	return l
}

func leastOf(l []api.Span) []int {
	var out []int
	for _, s := range l {
		out = append(out, s.Min)
	}
	return out
}

// random returns the same numbers in each run.
func random(seed uint64) *rand.Rand { return rand.New(rand.NewPCG(seed, 9)) }

// extremes are numbers that no function allows.
func extremes() []int { return []int{math.MinInt, math.MinInt / 2, math.MaxInt / 2, math.MaxInt} }

// beyond are numbers just outside of a range, and far outside.
func beyond(least, most int) []int { return append(extremes(), least-1, most+1) }

// row is a list of the same number.
func row(n, x int) []int { return slices.Repeat([]int{x}, n) }

// counted is the numbers from one on, so many.
func counted(from, n int) []int {
	var l []int
	for i := range n {
		l = append(l, from+i)
	}
	return l
}

func sumOf(l []int) int {
	n := 0
	for _, x := range l {
		n += x
	}
	return n
}

// takenBy is how much all groups take in a run by a day.
func takenBy(r api.Run, day int) int {
	n := 0
	for _, l := range r.Out {
		n += sumOf(l[:day+1])
	}
	return n
}

// started, allowed, needed, worst, exampled, followed and sound are what the functions return without an error.
func started(t *testing.T, f api.Fund, begins []int) []int {
	t.Helper()
	l, e := fund.Starts(f, begins)
	if e != api.OK || len(l) != len(f.Groups) {
		t.Fatalf("Starts(%v, %v): %v, error %d", f, begins, l, e)
	}
	return l
}

func allowed(t *testing.T, f api.Fund, r api.Run) bool {
	t.Helper()
	is, e := fund.Allowed(f, r)
	if e != api.OK {
		t.Fatalf("Allowed(%v, %v): error %d", f, r, e)
	}
	return is
}

func needed(t *testing.T, f api.Fund) []int {
	t.Helper()
	l, e := fund.Needs(f)
	if e != api.OK || len(l) != len(f.In) {
		t.Fatalf("Needs(%v): %v, error %d", f, l, e)
	}
	return l
}

func worst(t *testing.T, f api.Fund, day int) ([]int, int) {
	t.Helper()
	l, n, e := fund.Worst(f, day)
	if e != api.OK {
		t.Fatalf("Worst(%v, %d): error %d", f, day, e)
	}
	return l, n
}

func exampled(t *testing.T, f api.Fund, day int) api.Run {
	t.Helper()
	r, e := fund.Example(f, day)
	if e != api.OK || len(r.Out) != len(f.Groups) {
		t.Fatalf("Example(%v, %d): %v, error %d", f, day, r, e)
	}
	return r
}

func followed(t *testing.T, f api.Fund, plan []int, r api.Run, in, prices []int) []int {
	t.Helper()
	l, e := fund.Follow(f, plan, r, in, prices)
	if e != api.OK || len(l) != len(f.In) {
		t.Fatalf("Follow(%v, %v, %v, %v, %v): %v, error %d", f, plan, r, in, prices, l, e)
	}
	return l
}

func sound(t *testing.T, f api.Fund, plan []int) bool {
	t.Helper()
	is, e := fund.Sound(f, plan)
	if e != api.OK {
		t.Fatalf("Sound(%v, %v): error %d", f, plan, e)
	}
	return is
}

// planned is what Plan returns; false, if there is no sound plan.
func planned(t *testing.T, f api.Fund) ([]int, bool) {
	t.Helper()
	l, e := fund.Plan(f)
	if e != api.OK && e != api.ErrNone || e == api.ErrNone && len(l) > 0 {
		t.Fatalf("Plan(%v): %v, error %d", f, l, e)
	}
	return l, e == api.OK
}

// leastPlan is what Least returns; false, if there is no sound plan.
func leastPlan(t *testing.T, f api.Fund) ([]int, int, bool) {
	t.Helper()
	l, n, e := fund.Least(f)
	if e != api.OK && e != api.ErrNone || e == api.ErrNone && (len(l) > 0 || n != 0) {
		t.Fatalf("Least(%v): %v, %d, error %d", f, l, n, e)
	}
	return l, n, e == api.OK
}

func capital(t *testing.T, f api.Fund) int {
	t.Helper()
	n, e := fund.Capital(f)
	if e != api.OK {
		t.Fatalf("Capital(%v): error %d", f, e)
	}
	return n
}

// bears is what Bears returns; -1, if no plan is sound even if nobody runs.
func bears(t *testing.T, f api.Fund) int {
	t.Helper()
	n, e := fund.Bears(f)
	if e != api.OK && (e != api.ErrNone || n != 0) {
		t.Fatalf("Bears(%v): %d, error %d", f, n, e)
	}
	if e == api.ErrNone {
		return -1
	}
	return n
}

// size is how great random funds are at most.
type size struct{ days, groups, ways, flow, limit, sell, price, bars int }

// Of tiny funds all runs can be tried, of small ones all plans; great ones have whatever is valid.
var (
	tiny  = size{days: 3, groups: 2, ways: 3, flow: 4, limit: 2, sell: 2, price: 3, bars: 4}
	small = size{days: 5, groups: 5, ways: 10, flow: 60, limit: 30, sell: 3, price: 30, bars: 8}
	great = size{days: 12, groups: 8, ways: 24, flow: api.MaxFlow, limit: api.MaxFlow, sell: 64, price: api.MaxBar, bars: 64}
)

func someSpan(r *rand.Rand, most int) api.Span {
	a, b := r.IntN(most+1), r.IntN(most+1)
	return api.Span{Min: min(a, b), Max: max(a, b)}
}

// someFund is a random fund whose cash and bars are sometimes enough, and sometimes not.
func someFund(r *rand.Rand, s size) api.Fund {
	f := plain(1 + r.IntN(s.days))
	tops := []int{9, 1000, 1 << 20, s.flow}
	top := min(s.flow, tops[r.IntN(len(tops))])
	for day := range f.In {
		f.In[day] = someSpan(r, top*r.IntN(2)/2)
		f.Bonds[day] = r.IntN(top+1) * r.IntN(2)
		f.Sell[day] = r.IntN(s.sell + 1)
		f.Prices[day] = someSpan(r, min(top, s.price))
	}
	f.Bars = r.IntN(s.bars + 1)
	for range r.IntN(s.groups + 1) {
		limit := r.IntN(min(top, s.limit) + 1)
		f.Groups = append(f.Groups, group(r.IntN(min(top, limit*(1+r.IntN(4)))+1), limit, r.IntN(3)*r.IntN(len(f.In)+1)/2))
	}
	if many := len(f.Groups); many > 1 {
		for range r.IntN(s.ways + 1) {
			from := r.IntN(many)
			f.Ways = append(f.Ways, way(from, (from+1+r.IntN(many-1))%many, min(12, r.IntN(1+r.IntN(6)))))
		}
	}
	f.Begin = r.IntN(1 + min(len(f.Groups), 1+r.IntN(8)))
	// What the bars bring at least is about what the cash lacks.
	f.Cash = max(0, slices.Max(slowNeeds(f))-r.IntN(3+2*slowBrings(f)))
	return f
}

// someBegins are some of the groups, so many at most.
func someBegins(r *rand.Rand, f api.Fund, most int) []int {
	l := r.Perm(len(f.Groups))[:r.IntN(1+min(most, len(f.Groups)))]
	slices.Sort(l)
	return l
}

// someRun is a random run that is allowed.
func someRun(r *rand.Rand, f api.Fund) api.Run {
	x := run(someBegins(r, f, f.Begin))
	starts := slowStarts(f, x.Begins)
	for i, g := range f.Groups {
		out, left := make([]int, len(f.In)), g.Sum
		for day := range out {
			if starts[i] >= 0 && day >= starts[i]+g.Notice {
				out[day] = min(left, r.IntN(g.Limit+1))
				if r.IntN(3) == 0 {
					out[day] = min(left, g.Limit)
				}
				left -= out[day]
			}
		}
		x.Out = append(x.Out, out)
	}
	return x
}

// somePlan is a random plan.
func somePlan(r *rand.Rand, f api.Fund) []int {
	plan, left := make([]int, len(f.Sell)), f.Bars
	for _, day := range r.Perm(len(f.Sell)) {
		plan[day] = min(left, r.IntN(f.Sell[day]+1))
		left -= plan[day]
	}
	return plan
}

// someWithin are random numbers within spans, often the least or the greatest ones.
func someWithin(r *rand.Rand, l []api.Span) []int {
	var out []int
	for _, s := range l {
		out = append(out, []int{s.Min, s.Max, s.Min + r.IntN(s.Max-s.Min+1)}[r.IntN(3)])
	}
	return out
}
