package loan_test

import (
	"math"
	"math/rand/v2"
	"slices"
	"testing"

	"lombard/api"
	"lombard/loan"
)

// market, terms and deal are those of the document.
func market() api.Market {
	return api.Market{Sales: []api.Sale{
		{Kind: 0, Day: 800, Weight: 10, Metal: 40, Price: 1000},
		{Kind: 0, Day: 434, Weight: 20, Metal: 50, Price: 2000},
		{Kind: 0, Day: 70, Weight: 10, Metal: 30, Price: 900},
		{Kind: 1, Day: 0, Weight: 5, Metal: 10, Price: 40},
	}, Fade: []int{32, 64}, Metal: 50, Day: 800, Few: 2}
}

func terms() api.Terms { return api.Terms{Fraction: 40, Floor: 300, Cap: 5000} }

func deal() api.Deal {
	return api.Deal{
		Law:    api.Law{Rate: 1000, Cap: 16},
		Tariff: api.Tariff{Rate: 500, Free: 2, Fee: 50, Term: 10, Grace: 3},
		Closed: []int{103, 104}, Start: 100, Sum: 100000,
	}
}

func span(low, high int) api.Span { return api.Span{Min: low, Max: high} }

// pay, renew, hold and redeem are acts.
func pay(day, n int) api.Act { return api.Act{Day: day, Kind: api.ActPay, N: n} }

func renew(day int) api.Act { return api.Act{Day: day, Kind: api.ActRenew} }

func hold(day, n int) api.Act { return api.Act{Day: day, Kind: api.ActHold, N: n} }

func redeem(day int) api.Act { return api.Act{Day: day, Kind: api.ActRedeem} }

func acts(l ...api.Act) []api.Act { return l }

// random returns the same numbers in each run.
func random(seed uint64) *rand.Rand { return rand.New(rand.NewPCG(seed, 2)) }

// extremes are numbers that no function allows.
func extremes() []int { return []int{math.MinInt, math.MinInt / 2, math.MaxInt / 2, math.MaxInt} }

// beyond are numbers just outside of a range, and far outside.
func beyond(least, most int) []int { return append(extremes(), least-1, most+1) }

// days are so many days one after the other.
func days(from, n int) []int {
	var l []int
	for i := range n {
		l = append(l, from+i)
	}
	return l
}

// errs checks that an error is the one that is wanted.
func errs(t *testing.T, name string, got, want api.Errno) {
	t.Helper()
	if got != want {
		t.Errorf("%s: error %d, want %d", name, got, want)
	}
}

// ran is what Run returns: with an error no accounts, otherwise one for each act.
func ran(t *testing.T, d api.Deal, l []api.Act) ([]api.Account, int, api.Errno) {
	t.Helper()
	out, at, e := loan.Run(d, l)
	if e != api.OK && len(out) > 0 || e == api.OK && (len(out) != len(l) || at != len(l)) {
		t.Errorf("Run(%v, %v): %v, %d, %d", d, l, out, at, e)
	}
	return out, at, e
}

// owed is what Owe returns without an error.
func owed(t *testing.T, d api.Deal, l []api.Act, day int) api.Account {
	t.Helper()
	a, e := loan.Owe(d, l, day)
	if e != api.OK {
		t.Fatalf("Owe(%v, %v, %d): error %d", d, l, day, e)
	}
	return a
}

// slow is a loan that is counted from the definitions alone, each day anew.
type slow struct {
	deal      api.Deal
	principal map[int]int // of each day, before its acts
	held      map[int]bool
	renewed   []int
	end       int // the day on which it was redeemed
	paid, now int // what was paid of the charge; the principal after the last act
}

func newSlow(d api.Deal) *slow {
	return &slow{deal: d, principal: map[int]int{}, held: map[int]bool{}, end: math.MaxInt, now: d.Sum}
}

// come says that no acts of earlier days follow.
func (s *slow) come(day int) {
	for past := s.deal.Start; past <= day; past++ {
		if _, ok := s.principal[past]; !ok {
			s.principal[past] = s.now
		}
	}
}

func (s *slow) counted(day int) bool {
	return day > s.deal.Start && day <= s.end && !s.held[day] && !slices.Contains(s.deal.Closed, day)
}

func (s *slow) age(day int) int {
	from, n := s.deal.Start, 0
	if len(s.renewed) > 0 {
		from = s.renewed[len(s.renewed)-1]
	}
	for from < day {
		from++
		if s.counted(from) {
			n++
		}
	}
	return n
}

// numbers are the three of which the charge is the least.
func (s *slow) numbers(day int) [3]int {
	all, some, n := 0, 0, 0
	for past := s.deal.Start + 1; past <= day; past++ {
		if !s.counted(past) {
			continue
		}
		n++
		all += s.principal[past]
		if n > s.deal.Tariff.Free {
			some += s.principal[past]
		}
	}
	return [3]int{some*s.deal.Tariff.Rate/1000000 + len(s.renewed)*s.deal.Tariff.Fee, all * s.deal.Law.Rate / 1000000, s.deal.Sum * s.deal.Law.Cap / 64}
}

func (s *slow) charge(day int) int {
	l := s.numbers(day)
	return min(l[0], l[1], l[2])
}

func (s *slow) account(day int) api.Account {
	return api.Account{Principal: s.now, Charged: s.charge(day), Paid: s.paid, Age: s.age(day), Open: s.end == math.MaxInt}
}

func (s *slow) do(a api.Act) api.Errno {
	s.come(a.Day)
	if s.age(a.Day) > s.deal.Tariff.Term+s.deal.Tariff.Grace {
		return api.ErrLate
	}
	due := s.charge(a.Day) - s.paid
	switch a.Kind {
	case api.ActPay:
		if a.N >= due+s.now {
			return api.ErrFull
		}
		if a.N <= due {
			s.paid += a.N
		} else {
			s.paid += due
			s.now -= a.N - due
		}
	case api.ActRenew:
		s.renewed = append(s.renewed, a.Day)
		s.paid = s.charge(a.Day)
	case api.ActHold:
		if s.held[a.Day+1] {
			return api.ErrHold
		}
		for i := range a.N {
			s.held[a.Day+1+i] = true
		}
	case api.ActRedeem:
		s.paid, s.now, s.end = s.paid+due, 0, a.Day
	}
	return api.OK
}

// someDeal is a random deal of which little is closed, and which is soon too old.
func someDeal(r *rand.Rand) api.Deal {
	d := api.Deal{
		Law:    api.Law{Rate: r.IntN(api.MaxRate + 1), Cap: r.IntN(api.Shares + 1)},
		Tariff: api.Tariff{Rate: r.IntN(api.MaxRate + 1), Free: r.IntN(6), Fee: r.IntN(2) * r.IntN(200), Term: 1 + r.IntN(20), Grace: r.IntN(10)},
		Start:  r.IntN(20), Sum: 1 + r.IntN(1<<r.IntN(20)),
	}
	for day := range 80 {
		if r.IntN(6) == 0 && len(d.Closed) < api.MaxClosed {
			d.Closed = append(d.Closed, day)
		}
	}
	return d
}

// someActs are random acts for a deal, of these kinds; some of them may be refused.
func someActs(r *rand.Rand, d api.Deal, kinds ...int) []api.Act {
	var l []api.Act
	day := d.Start
	for range r.IntN(7) {
		day += r.IntN(2) * r.IntN(12)
		a := api.Act{Day: day, Kind: kinds[r.IntN(len(kinds))]}
		switch a.Kind {
		case api.ActPay:
			a.N = 1 + r.IntN(d.Sum)/(1+r.IntN(4))
		case api.ActHold:
			a.N = 1 + r.IntN(9)
		}
		l = append(l, a)
		if a.Kind == api.ActRedeem {
			break
		}
	}
	return l
}
