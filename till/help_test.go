package till_test

import (
	"math"
	"math/rand/v2"
	"slices"
	"testing"

	"lombard/api"
	"lombard/till"
)

// drawer, three, dealings, watch and book are those of the document.
func drawer() api.Drawer { return coins([]int{20, 10, 7, 1}, 1, 2, 3, 1) }

func three() [][]int { return [][]int{{-1, 1, 0}, {-1, 0, 1}} }

func dealings() []api.Dealing {
	return []api.Dealing{dealing(1, 0, 30), dealing(2, 3, 50), dealing(4, 1, 45), dealing(8, 0, 60)}
}

func watch() api.Watch { return api.Watch{Days: 5, Sum: 100, Low: 40, Many: 2} }

func book(counted ...int) api.DayBook {
	return api.DayBook{Open: []int{100, 50, 0}, Postings: []api.Posting{posting(0, 1, 21), posting(1, 2, 40)}, Counted: counted}
}

func coins(values []int, have ...int) api.Drawer { return api.Drawer{Coins: values, Have: have} }

func dealing(day, person, sum int) api.Dealing {
	return api.Dealing{Day: day, Person: person, Sum: sum}
}

func alarm(person, dealing, sum int) api.Alarm {
	return api.Alarm{Person: person, Dealing: dealing, Sum: sum}
}

func posting(from, to, sum int) api.Posting { return api.Posting{From: from, To: to, Sum: sum} }

func mistake(posting, sum int) api.Mistake { return api.Mistake{Posting: posting, Sum: sum} }

// links are pairs of persons, one behind the other.
func links(persons ...int) [][2]int {
	var l [][2]int
	for pair := range slices.Chunk(persons, 2) {
		l = append(l, [2]int(pair))
	}
	return l
}

// random returns the same numbers in each run.
func random(seed uint64) *rand.Rand { return rand.New(rand.NewPCG(seed, 8)) }

// extremes are numbers that no function allows.
func extremes() []int { return []int{math.MinInt, math.MinInt / 2, math.MaxInt / 2, math.MaxInt} }

// beyond are numbers just outside of a range, and far outside.
func beyond(least, most int) []int { return append(extremes(), least-1, most+1) }

// row is a list of the same number.
func row(n, x int) []int { return slices.Repeat([]int{x}, n) }

func sumOf(l []int) int {
	n := 0
	for _, x := range l {
		n += x
	}
	return n
}

// worth is how much pieces of these values are together.
func worth(values, pieces []int) int {
	n := 0
	for i, x := range pieces {
		n += values[i] * x
	}
	return n
}

// errs checks that an error is the one that is wanted.
func errs(t *testing.T, name string, got, want api.Errno) {
	t.Helper()
	if got != want {
		t.Errorf("%s: error %d, want %d", name, got, want)
	}
}

// weighed, told, linked, alarmed and balanced are what Weigh, Tells, Linked, Alarms and Balance return without an error.
func weighed(t *testing.T, n int) [][]int {
	t.Helper()
	plan, e := till.Weigh(n)
	if e != api.OK || len(plan) == 0 {
		t.Fatalf("Weigh(%d): %v, error %d", n, plan, e)
	}
	return plan
}

func told(t *testing.T, n int, plan [][]int) bool {
	t.Helper()
	is, e := till.Tells(n, plan)
	if e != api.OK {
		t.Fatalf("Tells(%d, %v): error %d", n, plan, e)
	}
	return is
}

func linked(t *testing.T, l [][2]int) []int {
	t.Helper()
	least, e := till.Linked(l)
	if e != api.OK || len(least) != 24 {
		t.Fatalf("Linked(%v): %v, error %d", l, least, e)
	}
	return least
}

func alarmed(t *testing.T, x desk) []api.Alarm {
	t.Helper()
	l, e := till.Alarms(x.l, x.links, x.w)
	if e != api.OK {
		t.Fatalf("Alarms(%v): error %d", x, e)
	}
	return l
}

func balanced(t *testing.T, d api.DayBook) []int {
	t.Helper()
	l, e := till.Balance(d)
	if e != api.OK || len(l) != len(d.Open) {
		t.Fatalf("Balance(%v): %v, error %d", d, l, e)
	}
	return l
}

// desk is what dealings that must be reported depend on.
type desk struct {
	l     []api.Dealing
	links [][2]int
	w     api.Watch
}

// reasons are what Reasons returns for a dealing; none, if it must not be reported.
func (x desk) reasons(t *testing.T, k int) []int {
	t.Helper()
	l, e := till.Reasons(x.l, x.links, x.w, k)
	if e != api.OK && e != api.ErrNone || (len(l) == 0) != (e == api.ErrNone) {
		t.Fatalf("Reasons(%v, %d): %v, error %d", x, k, l, e)
	}
	return l
}

// someDrawer is a random drawer of so many kinds at most, and so many pieces of each.
func someDrawer(r *rand.Rand, kinds, most int) api.Drawer {
	top := []int{12, 40, 300, api.MaxCoin}[r.IntN(4)]
	values := map[int]bool{}
	for range 1 + r.IntN(kinds) {
		values[1+r.IntN(top)] = true
	}
	var d api.Drawer
	for x := range values {
		d.Coins = append(d.Coins, x)
	}
	slices.Sort(d.Coins)
	slices.Reverse(d.Coins)
	for range d.Coins {
		d.Have = append(d.Have, r.IntN(most+1))
	}
	return d
}

// somePieces are random pieces that are there.
func somePieces(r *rand.Rand, have []int) []int {
	var l []int
	for _, n := range have {
		l = append(l, r.IntN(n+1))
	}
	return l
}

// somePlan is random weighings, which are likely to tell if there are enough.
func somePlan(r *rand.Rand, n int) [][]int {
	var plan [][]int
	for range 1 + r.IntN(4) {
		l := make([]int, n)
		order := r.Perm(n)
		pans := n / 3
		if r.IntN(4) == 0 {
			pans = r.IntN(n/2 + 1)
		}
		for i := range pans {
			l[order[2*i]], l[order[2*i+1]] = -1, 1
		}
		plan = append(plan, l)
	}
	return plan
}

// someDesk is random dealings of so many at most, on few days, of few persons, some of whom are linked.
func someDesk(r *rand.Rand, most int) desk {
	persons, top := 1+r.IntN(8), []int{3, 20, 1000}[r.IntN(3)]
	var x desk
	day := r.IntN(30)
	for range r.IntN(most + 1) {
		day += r.IntN(2) * r.IntN(6)
		x.l = append(x.l, dealing(day, 3*r.IntN(persons), 1+r.IntN(top)))
	}
	for range r.IntN(persons) {
		if a, b := 3*r.IntN(persons), 3*r.IntN(persons); a != b {
			x.links = append(x.links, [2]int{a, b})
		}
	}
	sum := 1 + r.IntN(top*(1+r.IntN(6)))
	x.w = api.Watch{Days: 1 + r.IntN(20), Sum: sum, Low: 1 + r.IntN(sum), Many: 1 + r.IntN(5)}
	if r.IntN(3) == 0 {
		x.w.Low = 1 + r.IntN(min(sum, top))
	}
	return x
}

// someBook is a random day with so many postings at most, of which some were really something else; sometimes the explanation is not so simple.
func someBook(r *rand.Rand, most int) api.DayBook {
	accounts := 2 + r.IntN(1+r.IntN(4))
	var sums []int // few sums have more explanations
	for range 1 + r.IntN(max(1, most)) {
		sums = append(sums, 1+r.IntN([]int{9, 30, 400, 70000}[r.IntN(4)]))
	}
	var d api.DayBook
	for range accounts {
		d.Open = append(d.Open, 1<<22+r.IntN(1<<20))
	}
	for range r.IntN(most + 1) {
		from := r.IntN(accounts)
		to := (from + 1 + r.IntN(accounts-1)) % accounts
		d.Postings = append(d.Postings, posting(from, to, sums[r.IntN(len(sums))]))
	}
	d.Counted = slices.Clone(d.Open)
	order := r.Perm(len(d.Postings))
	wrong := order[:min(r.IntN(5), len(order))]
	for i, p := range d.Postings {
		sum := p.Sum
		if slices.Contains(wrong, i) {
			l := slowReally(sum)
			sum = l[r.IntN(len(l))]
		}
		d.Counted[p.From] -= sum
		d.Counted[p.To] += sum
	}
	if r.IntN(10) == 0 {
		a, b := r.IntN(accounts), r.IntN(accounts)
		n := r.IntN(20)
		d.Counted[a] += n
		d.Counted[b] -= n - r.IntN(8)/7
	}
	return d
}
