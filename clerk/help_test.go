package clerk_test

import (
	"fmt"
	"math"
	"math/rand/v2"
	"slices"
	"strconv"
	"strings"
	"testing"

	"lombard/api"
	"lombard/clerk"
	"lombard/ticket"
)

// shop is the shop of the document.
func shop() api.Shop {
	return api.Shop{
		Cash: 1000,
		Grammar: []api.Class{
			{Name: "ring", Traits: []api.Trait{{Name: "metal", Values: []string{"gold", "silver"}, Must: true}, {Name: "size", Values: []string{"small", "large"}}}, Parts: []string{"gem"}, Most: 2},
			{Name: "gem", Traits: []api.Trait{{Name: "cut", Values: []string{"round", "oval"}}}},
		},
		Pairs:  []api.Pair{{Said: "ring", Listed: "jewel"}},
		Kinds:  []string{"ring"},
		Market: api.Market{Sales: []api.Sale{{Day: 800, Weight: 10, Metal: 40, Price: 1000}, {Day: 434, Weight: 20, Metal: 50, Price: 2000}, {Day: 70, Weight: 10, Metal: 30, Price: 900}}, Fade: []int{32}, Metal: 50, Day: 800, Few: 2},
		Rules:  []api.Rule{{Class: "ring", Terms: api.Terms{Fraction: 40, Floor: 300, Cap: 5000}}},
		Law:    api.Law{Rate: 10000, Cap: 16},
		Tariff: api.Tariff{Rate: 10000, Free: 2, Fee: 5, Term: 10, Grace: 3},
		Wait:   5,
		Years:  100,
		Strong: api.Strong{
			Rooms: []api.Chamber{{}, {Hold: 2, Keys: 4}, {Hold: 1, Climate: 1}},
			Gates: []api.Gate{{A: 0, B: 1, Need: 1, Ways: []int{1}}, {A: 1, B: 2, Need: 2, Ways: []int{6}}, {A: 0, B: 2, Need: 1, Ways: []int{8}}},
			Staff: []int{1, 2, 3},
		},
		Start:  10,
		Ladder: []api.Rise{{By: 10}},
	}
}

// changed is the shop of the document with changes.
func changed(changes ...func(s *api.Shop)) api.Shop {
	s := shop()
	for _, change := range changes {
		change(&s)
	}
	return s
}

// wide is a shop with much cash, whose rooms hold 16 bags each and are entered by everybody.
func wide() api.Shop {
	return changed(func(s *api.Shop) {
		s.Cash = 1 << 30
		s.Strong = api.Strong{Rooms: []api.Chamber{{}, {Hold: 16}, {Hold: 16}, {Hold: 16}}, Staff: []int{0, 0}}
		for room := 1; room <= 3; room++ {
			s.Strong.Gates = append(s.Strong.Gates, api.Gate{B: room, Need: 2, Ways: []int{0}})
		}
	})
}

// The codes of the first tickets.
const (
	first  = "0000000195"
	second = "0000000292"
	third  = "0000000389"
)

// codeOf is the code of a ticket.
func codeOf(t *testing.T, number int) string {
	t.Helper()
	s, e := ticket.Code(number)
	errs(t, "Code", e, api.OK)
	return s
}

// random returns the same numbers in each run.
func random(seed uint64) *rand.Rand { return rand.New(rand.NewPCG(seed, 11)) }

// extremes are numbers that no function allows.
func extremes() []int { return []int{math.MinInt, math.MinInt / 2, math.MaxInt / 2, math.MaxInt} }

// beyond are numbers just outside of a range, and far outside.
func beyond(least, most int) []int { return append(extremes(), least-1, most+1) }

// errs checks that an error is the one that is wanted.
func errs(t *testing.T, name string, got, want api.Errno) {
	t.Helper()
	if got != want {
		t.Errorf("%s: error %d, want %d", name, got, want)
	}
}

// begin returns a clerk at the beginning.
func begin(t *testing.T, s api.Shop) *clerk.Clerk {
	t.Helper()
	c, e := clerk.New(s)
	if c == nil || e != api.OK {
		t.Fatalf("New: error %d", e)
	}
	return c
}

// told is all that a clerk tells of itself, as a text in which nil lists and empty ones are the same.
func told(c *clerk.Clerk) string {
	return fmt.Sprintf("%q %d %d\n%v\n%v\n%v\n%v\n%v", c.Journal(), c.Day(), c.Cash(), c.Pawns(), c.Tickets(), c.Carries(), c.Entries(), c.Surpluses())
}

func nameOf(line string) string {
	name, _, _ := strings.Cut(line, " ")
	return name
}

// isQuestion reports whether a line changes nothing.
func isQuestion(line string) bool {
	return slices.Contains([]string{"owe", "where", "holds", "cash"}, nameOf(line))
}

// does does lines that have no error, and returns the answer of the last one.
func does(t *testing.T, c *clerk.Clerk, lines ...string) (answer string) {
	t.Helper()
	for _, line := range lines {
		before, all := c.Journal(), told(c)
		var e api.Errno
		if answer, e = c.Do(line); e != api.OK {
			t.Fatalf("%s: error %d", line, e)
		}
		if isQuestion(line) {
			if told(c) != all {
				t.Errorf("%s: changed\n%s\nto\n%s", line, all, told(c))
			}
		} else if !slices.Equal(c.Journal(), append(before, line)) {
			t.Errorf("%s: the journal is %q, it was %q", line, c.Journal(), before)
		}
	}
	return answer
}

// says checks the answer of a line.
func says(t *testing.T, c *clerk.Clerk, line, want string) {
	t.Helper()
	if got := does(t, c, line); got != want {
		t.Errorf("%s: %q, want %q", line, got, want)
	}
}

// refuses checks that lines have an error and no answer, and change nothing.
func refuses(t *testing.T, c *clerk.Clerk, want api.Errno, lines ...string) {
	t.Helper()
	for _, line := range lines {
		before, cash := told(c), hold(c)
		answer, e := c.Do(line)
		if answer != "" || e != want {
			t.Errorf("%s: %q, error %d, want the error %d", line, answer, e, want)
		}
		if told(c) != before || hold(c) != cash {
			t.Errorf("%s: changed\n%s, %s\nto\n%s, %s", line, before, cash, told(c), hold(c))
		}
	}
}

// hold is the answer of cash: besides the cash, what the purse holds, which nothing else tells.
func hold(c *clerk.Clerk) string {
	s, _ := c.Do("cash")
	return s
}

// numbers are those of an answer.
func numbers(t *testing.T, answer string) []int {
	t.Helper()
	var l []int
	for _, s := range strings.Fields(answer) {
		n, e := strconv.Atoi(s)
		if e != nil {
			t.Fatalf("no numbers: %q", answer)
		}
		l = append(l, n)
	}
	return l
}

// ring is a line that takes a ring from somebody, as the bag with a seal, into room 1.
func ring(name string, seal int) string {
	return fmt.Sprintf("take %s 100 10 12 1 %d 3 0 1 12345678 : ring metal=gold", name, seal)
}

// halves are two halves of the edge of ring: one that fits, and one that does not.
const (
	fits   = "1234??78"
	unfits = "1234??79"
)
