package purse_test

import (
	"math/rand/v2"
	"slices"
	"testing"

	"lombard/api"
)

// The functions here are written anew from the definitions of the document, each as it is said there.

// slowShare shares out a sum cent by cent.
func slowShare(weights []int, sum int) []int {
	has := make([]int, len(weights))
	for range sum {
		best := -1
		for i, w := range weights {
			if best < 0 || w*(1+has[best]) > weights[best]*(1+has[i]) {
				best = i
			}
		}
		has[best]++
	}
	return has
}

// slowSpread spreads a sum rank by rank.
func slowSpread(dues []api.Due, sum int) ([]int, int) {
	paid := make([]int, len(dues))
	for rank := 0; rank <= 9; rank++ {
		need := 0
		weights := make([]int, len(dues)) // those of other ranks get nothing
		for i, d := range dues {
			if d.Rank == rank {
				need += d.Amount
				weights[i] = d.Amount
			}
		}
		if need > sum {
			for i, n := range slowShare(weights, sum) {
				paid[i] += n
			}
			return paid, 0
		}
		for i, n := range weights {
			paid[i] += n
		}
		sum -= need
	}
	return paid, sum
}

func slowPortions(price int, parts []api.Part) []api.Portion {
	var values []int
	for _, x := range parts {
		values = append(values, x.Value)
	}
	var l []api.Portion
	for i, n := range slowShare(values, price) {
		paid, left := slowSpread(parts[i].Dues, n)
		l = append(l, api.Portion{Price: n, Paid: paid, Left: left})
	}
	return l
}

func slowWeights(l []int, most int) bool {
	return len(l) >= 1 && len(l) <= most && slices.Min(l) >= 0 && slices.Max(l) <= 1<<26 && slices.Max(l) > 0
}

func slowWord(s string) bool {
	for i, c := range []byte(s) {
		if c >= 'a' && c <= 'z' || i > 0 && (c == '-' || c >= '0' && c <= '9') {
			continue
		}
		return false
	}
	return len(s) >= 1 && len(s) <= 16
}

func slowDues(l []api.Due) bool {
	return len(l) <= 24 && !slices.ContainsFunc(l, func(d api.Due) bool {
		return d.Rank < 0 || d.Rank > 9 || d.Amount < 0 || d.Amount > 1<<26
	})
}

func slowParts(l []api.Part) bool {
	var values []int
	for i, x := range l {
		if !slowWord(x.Pledge) || slices.ContainsFunc(l[:i], func(y api.Part) bool { return y.Pledge == x.Pledge }) {
			return false
		}
		values = append(values, x.Value)
	}
	return slowWeights(values, 8)
}

// slow is a purse that is written anew from the chapter.
type slow struct {
	term int
	state
	earned, paid, given int // what was left of all lots, what was paid, and what was given away
}

func (s *slow) day() int {
	if len(s.notes) == 0 {
		return 0
	}
	return s.notes[len(s.notes)-1].Day
}

// find returns the index of the surplus of a pledge, or -1.
func (s *slow) find(pledge string) int {
	return slices.IndexFunc(s.surpluses, func(x api.Surplus) bool { return x.Pledge == pledge })
}

// errorOfSale returns the first error of a sale behind that of its day.
func (s *slow) errorOfSale(a ask) api.Errno {
	switch {
	case a.price < 0 || a.price > 1<<26:
		return api.ErrRange
	case !slowParts(a.parts):
		return api.ErrParts
	case slices.ContainsFunc(a.parts, func(x api.Part) bool { return !slowDues(x.Dues) }):
		return api.ErrDues
	case slices.ContainsFunc(a.parts, func(x api.Part) bool { return s.find(x.Pledge) >= 0 }):
		return api.ErrPledge
	}
	n := len(s.surpluses)
	for _, x := range slowPortions(a.price, a.parts) {
		if x.Left > 0 {
			n++
		}
	}
	if n > 256 {
		return api.ErrFull
	}
	return api.OK
}

func (s *slow) errorOf(a ask) api.Errno {
	switch {
	case a.day < s.day() || a.day < 0 || a.day > 36500:
		return api.ErrDay
	case a.kind == api.PurseSold:
		return s.errorOfSale(a)
	case a.kind == api.PursePaid:
		if i := s.find(a.pledge); i < 0 || s.surpluses[i].State != 1 || s.surpluses[i].Day+s.term <= a.day {
			return api.ErrSurplus
		}
	case a.kind == api.PurseGiven && !slowWeights(a.weights, 24):
		return api.ErrShares
	}
	return api.OK
}

// do does a call.
func (s *slow) do(a ask) answer {
	if e := s.errorOf(a); e != api.OK {
		return answer{e: e}
	}
	var out answer
	noted := 0
	switch a.kind {
	case api.PurseSold:
		out.portions, noted = slowPortions(a.price, a.parts), a.price
		for i, x := range out.portions {
			if x.Left > 0 {
				s.surpluses = append(s.surpluses, api.Surplus{Pledge: a.parts[i].Pledge, Sum: x.Left, Day: a.day, State: 1})
				s.waits += x.Left
				s.earned += x.Left
			}
		}
	case api.PursePaid:
		x := &s.surpluses[s.find(a.pledge)]
		x.State, x.Over = 2, a.day
		out.sum, noted = x.Sum, x.Sum
		s.waits -= x.Sum
		s.paid += x.Sum
	case api.PursePassed:
		for i, x := range s.surpluses {
			if x.State == 1 && a.day >= x.Day+s.term {
				s.surpluses[i].State, s.surpluses[i].Over = 3, a.day
				out.sum += x.Sum
			}
		}
		noted = out.sum
		s.waits -= noted
		s.welfare += noted
	default:
		out.given, noted = slowShare(a.weights, s.welfare), s.welfare
		s.given += noted
		s.welfare = 0
	}
	s.notes = append(s.notes, api.Note{Kind: a.kind, Day: a.day, Sum: noted})
	return out
}

// someWeights are random weights, many of which are equal, or 0.
func someWeights(r *rand.Rand, most, greatest int) []int {
	l := make([]int, 1+r.IntN(most))
	for i := range l {
		l[i] = r.IntN(greatest + 1)
		if r.IntN(4) == 0 {
			l[i] = 0
		} else if i > 0 && r.IntN(3) == 0 {
			l[i] = l[i-1]
		}
	}
	if slices.Max(l) == 0 {
		l[r.IntN(len(l))] = 1 + r.IntN(greatest)
	}
	return l
}

// someDues are random dues of few ranks, some of which are 0.
func someDues(r *rand.Rand, most, greatest int) []api.Due {
	l := make([]api.Due, r.IntN(most+1))
	ranks := 1 + r.IntN(10)
	for i := range l {
		l[i] = due(r.IntN(ranks), r.IntN(4)*r.IntN(greatest+1)/3)
	}
	return l
}

// someParts are random parts with the names from n(first) on, in any order.
func someParts(r *rand.Rand, first, names int) []api.Part {
	var l []api.Part
	numbers := r.Perm(names)
	for i, w := range someWeights(r, min(8, names), 1+r.IntN(30)) {
		l = append(l, part(name(first+numbers[i]), w, someDues(r, r.IntN(5), 1+r.IntN(9))...))
	}
	return l
}

// someAsk is a random call, most of whose parts are right.
func (s *slow) someAsk(r *rand.Rand) ask {
	a := ask{kind: 1 + r.IntN(4), day: s.day() + r.IntN(2)*r.IntN(4)}
	if r.IntN(20) == 0 {
		a.day = []int{s.day() - 1, -1, 36501, s.day() + 1}[r.IntN(4)]
	}
	switch n := len(s.surpluses); a.kind {
	case api.PurseSold:
		a.price, a.parts = r.IntN(100), someParts(r, r.IntN(2)*n, 8+2*n)
		i := r.IntN(len(a.parts))
		switch r.IntN(30) {
		case 0:
			a.price = []int{-1, 1<<26 + 1}[r.IntN(2)]
		case 1:
			a.parts[i].Pledge = []string{"", "A", "1a", "a b", "abcdefghijklmnopq", a.parts[len(a.parts)-1-i].Pledge}[r.IntN(6)]
		case 2:
			a.parts[i].Value = []int{-1, 1<<26 + 1}[r.IntN(2)]
		case 3:
			a.parts[i].Dues = []api.Due{{Rank: 10 - 11*r.IntN(2)}}
		}
	case api.PursePaid:
		a.pledge = name(r.IntN(30))
		if n > 0 && r.IntN(4) > 0 {
			a.pledge = s.surpluses[n-1-r.IntN(min(6, n))].Pledge
		}
	case api.PurseGiven:
		a.weights = someWeights(r, 24, 1+r.IntN(9))
		if r.IntN(8) == 0 {
			a.weights = [][]int{nil, {0}, {-1}, {1<<26 + 1, 1}, row(25, 1)}[r.IntN(5)]
		}
	}
	return a
}

// P7.3 to P7.7: after any calls, a purse answers and has what the chapter says; errors come in its order
func TestCalls(t *testing.T) {
	r := random(1)
	seen := map[[2]int]int{}
	for range 400 {
		term := r.IntN(5) * r.IntN(6)
		p, s := empty(t, term), &slow{term: term}
		for range r.IntN(120) {
			a := s.someAsk(r)
			want := s.do(a)
			if got := a.of(p); !got.is(want) {
				t.Fatalf("%v: %v, want %v", a, got, want)
			}
			stands(t, p, s.state)
			seen[[2]int{a.kind, int(want.e)}]++
		}
	}
	for kind, l := range map[int][]api.Errno{
		api.PurseSold:   {api.OK, api.ErrDay, api.ErrRange, api.ErrParts, api.ErrDues, api.ErrPledge},
		api.PursePaid:   {api.OK, api.ErrDay, api.ErrSurplus},
		api.PursePassed: {api.OK, api.ErrDay},
		api.PurseGiven:  {api.OK, api.ErrDay, api.ErrShares},
	} {
		for _, e := range l {
			if seen[[2]int{kind, int(e)}] < 50 {
				t.Errorf("the calls of the kind %d had the error %d %d times only", kind, e, seen[[2]int{kind, int(e)}])
			}
		}
	}
}
