package ticket_test

import (
	"math"
	"math/rand/v2"
	"slices"
	"strconv"
	"testing"

	"lombard/api"
	"lombard/ticket"
)

// one, other and torn are the edges e and f, and the half h, of the document.
func one() []int { return []int{1, 2, 3, 4, 5, 6, 7, 8} }

func other() []int { return []int{8, 7, 6, 5, 4, 3, 2, 1} }

func torn() []int { return []int{1, 2, 3, -1, 5, -1, -1, 8} }

// The codes of the first tickets, and of one that no roll has.
const (
	first  = "0000000195"
	second = "0000000292"
	third  = "0000000389"
	far    = "1234567889"
)

// random returns the same numbers in each run.
func random(seed uint64) *rand.Rand { return rand.New(rand.NewPCG(seed, 3)) }

// extremes are numbers that no function allows.
func extremes() []int { return []int{math.MinInt, math.MinInt / 2, math.MaxInt / 2, math.MaxInt} }

// beyond are numbers just outside of a range, and far outside.
func beyond(least, most int) []int { return append(extremes(), least-1, most+1) }

// errs checks that an error is the one that is wanted.
func errs(t *testing.T, name string, got, want api.Errno) {
	t.Helper()
	if got != want {
		t.Errorf("%s: error %d, want %d", name, got, want)
	}
}

// name is a word for a number.
func name(n int) string { return "n" + strconv.Itoa(n) }

// row is a list of the same number.
func row(n, x int) []int { return slices.Repeat([]int{x}, n) }

// rows is a list of edges.
func rows(n int) [][]int {
	var l [][]int
	for range n {
		l = append(l, one())
	}
	return l
}

// someEdge is a random edge of few numbers, so that halves of others fit now and then.
func someEdge(r *rand.Rand) []int {
	l := make([]int, api.MinEdge+r.IntN(2)*r.IntN(api.MaxEdge-api.MinEdge+1))
	for i := range l {
		l[i] = r.IntN(2) * r.IntN(10)
	}
	return l
}

// tear makes some numbers of an edge unreadable.
func tear(r *rand.Rand, edge []int) []int {
	l := slices.Clone(edge)
	for range r.IntN(len(l)) {
		l[r.IntN(len(l))] = -1
	}
	return l
}

// roll returns a roll without tickets.
func roll(t *testing.T, wait int) *ticket.Roll {
	t.Helper()
	r, e := ticket.New(wait)
	if r == nil || e != api.OK {
		t.Fatalf("New(%d): error %d", wait, e)
	}
	return r
}

// ask is a call of a roll.
type ask struct {
	kind    int
	day     int
	code    string
	half    []int
	pledges []string
	edges   [][]int
}

// answer is what a call returns: the codes of new tickets, or a pledge.
type answer struct {
	codes  []string
	pledge string
	e      api.Errno
}

func (a answer) is(b answer) bool {
	return slices.Equal(a.codes, b.codes) && a.pledge == b.pledge && a.e == b.e
}

// of does a call.
func (a ask) of(r *ticket.Roll) answer {
	single := func(code string, e api.Errno) answer {
		if code == "" {
			return answer{e: e}
		}
		return answer{codes: []string{code}, e: e}
	}
	switch a.kind {
	case api.RollIssue:
		return single(r.Issue(a.pledges[0], a.edges[0], a.day))
	case api.RollBlock:
		return answer{e: r.Block(a.code, a.day)}
	case api.RollFree:
		return answer{e: r.Free(a.code, a.half, a.day)}
	case api.RollReplace:
		return single(r.Replace(a.code, a.edges[0], a.day))
	case api.RollDivide:
		codes, e := r.Divide(a.code, a.half, a.pledges, a.edges, a.day)
		return answer{codes: codes, e: e}
	case api.RollRedeem:
		pledge, e := r.Redeem(a.code, a.half, a.day)
		return answer{pledge: pledge, e: e}
	default:
		pledge, e := r.Forfeit(a.code, a.day)
		return answer{pledge: pledge, e: e}
	}
}

// issue, block, free, replace, divide, redeem and forfeit are calls.
func issue(day int, pledge string, edge []int) ask {
	return ask{kind: api.RollIssue, day: day, pledges: []string{pledge}, edges: [][]int{edge}}
}

func block(day int, code string) ask { return ask{kind: api.RollBlock, day: day, code: code} }

func free(day int, code string, half []int) ask {
	return ask{kind: api.RollFree, day: day, code: code, half: half}
}

func replace(day int, code string, edge []int) ask {
	return ask{kind: api.RollReplace, day: day, code: code, edges: [][]int{edge}}
}

func divide(day int, code string, half []int, pledges []string, edges [][]int) ask {
	return ask{kind: api.RollDivide, day: day, code: code, half: half, pledges: pledges, edges: edges}
}

func redeem(day int, code string, half []int) ask {
	return ask{kind: api.RollRedeem, day: day, code: code, half: half}
}

func forfeit(day int, code string) ask { return ask{kind: api.RollForfeit, day: day, code: code} }

// must does calls that have no error.
func must(t *testing.T, r *ticket.Roll, l ...ask) {
	t.Helper()
	for _, a := range l {
		if got := a.of(r); got.e != api.OK {
			t.Fatalf("%v: error %d", a, got.e)
		}
	}
}

// refused checks that a call has an error and no result, and changes nothing.
func refused(t *testing.T, r *ticket.Roll, a ask, want api.Errno) {
	t.Helper()
	tickets, events := r.Tickets(), r.Events()
	if got := a.of(r); !got.is(answer{e: want}) {
		t.Errorf("%v: %v, want the error %d", a, got, want)
	}
	if !sameTickets(r.Tickets(), tickets) || !slices.Equal(r.Events(), events) {
		t.Errorf("%v changes something", a)
	}
}

func sameTicket(a, b api.Ticket) bool {
	return a.Number == b.Number && a.Pledge == b.Pledge && a.State == b.State && slices.Equal(a.Edge, b.Edge) && a.Since == b.Since && a.Comes == b.Comes
}

func sameTickets(a, b []api.Ticket) bool { return slices.EqualFunc(a, b, sameTicket) }

// copies are tickets that share no memory with these.
func copies(l []api.Ticket) []api.Ticket {
	var out []api.Ticket
	for _, x := range l {
		x.Edge = slices.Clone(x.Edge)
		out = append(out, x)
	}
	return out
}
