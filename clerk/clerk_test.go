package clerk_test

import (
	"fmt"
	"slices"
	"strings"
	"testing"

	"lombard/api"
	"lombard/clerk"
)

// example are the lines of the document, and their answers (an error: its number behind an exclamation mark).
func example() [][2]string {
	return [][2]string{
		{"take ada 1000 10 12 1 11 3 0 1 12345678 : ring metal=gold ( gem )", "0000000195 406"},
		{"day 805", ""},
		{"owe 0000000195", "406 12 5"},
		{"pay 0000000195 112", "306"},
		{"cash", "706 0 0"},
		{"list 807 : jewel ; round", "0"},
		{"holds ada", "0"},
		{"redeem 0000000195 1234??78 0 1", "!112"},
		{"day 807", ""},
		{"redeem 0000000195 1234??78 0 1", "ada 312"},
		{"where ada", "0"},
		{"cash", "1018 0 0"},
		{"take bob 100 10 12 1 12 3 0 1 12345678 : ring metal=silver", "0000000292 100"},
		{"day 820", ""},
		{"sell 9 0 1 0000000292 : 4 0 200 5 1 155", "!114"},
		{"day 830", ""},
		{"sell 9 0 1 0000000292 : 5 1 120", "!115"},
		{"sell 9 0 1 0000000292 : 4 0 200 5 1 155", "4 160 bob 30"},
		{"claim bob", "30"},
		{"claim bob", "!73"},
		{"cash", "1048 0 0"},
	}
}

// exemplify does the lines of the document on a clerk.
func exemplify(t *testing.T, c *clerk.Clerk) {
	t.Helper()
	for _, x := range example() {
		got, e := c.Do(x[0])
		if e != api.OK {
			got += fmt.Sprintf("!%d", e)
		}
		if got != x[1] {
			t.Errorf("%s: %q, want %q", x[0], got, x[1])
		}
	}
}

// P11.2, P11.3: the example of the document, and what the clerk has then
func TestExample(t *testing.T) {
	c := begin(t, shop())
	exemplify(t, c)
	var journal []string
	for _, x := range example() {
		if !isQuestion(x[0]) && !strings.HasPrefix(x[1], "!") {
			journal = append(journal, x[0])
		}
	}
	if l := c.Journal(); !slices.Equal(l, journal) {
		t.Errorf("Journal: %q, want %q", l, journal)
	}
	if c.Day() != 830 || c.Cash() != 1048 {
		t.Errorf("the day %d, the cash %d", c.Day(), c.Cash())
	}
	pawns := c.Pawns()
	if len(pawns) != 2 || pawns[0].Name != "ada" || pawns[1].Name != "bob" || pawns[0].Deal.Sum != 406 || pawns[1].Deal.Start != 807 {
		t.Errorf("Pawns: %v", pawns)
	}
	if l := pawns[0].Acts; !slices.Equal(l, []api.Act{{Day: 805, Kind: api.ActPay, N: 112}, {Day: 807, Kind: api.ActRedeem}}) || len(pawns[1].Acts) > 0 {
		t.Errorf("Acts: %v, %v", l, pawns[1].Acts)
	}
	if l := c.Tickets(); len(l) != 2 || l[0].Pledge != "ada" || l[0].State != api.TicketDone || l[1].State != api.TicketGone {
		t.Errorf("Tickets: %v", l)
	}
	if l := c.Carries(); len(l) != 4 || l[1] != (api.Carry{Day: 807, Kind: api.CarryOut, Bag: 0, By: 0, With: 1}) {
		t.Errorf("Carries: %v", l)
	}
	if l := c.Entries(); len(l) != 1 || l[0].Day != 805 || l[0].Until != 807 || len(l[0].Clauses) != 2 {
		t.Errorf("Entries: %v", l)
	}
	if l := c.Surpluses(); !slices.Equal(l, []api.Surplus{{Pledge: "bob", Sum: 30, Day: 830, State: api.SurplusPaid, Over: 830}}) {
		t.Errorf("Surpluses: %v", l)
	}
}

// P11.1: nil and zero clerks
func TestNil(t *testing.T) {
	for _, c := range []*clerk.Clerk{nil, {}} {
		for _, line := range append(rightLines(), "", strings.Repeat("a", 5000), "day 800") {
			if answer, e := c.Do(line); answer != "" || e != api.ErrNil {
				t.Errorf("%q: %q, error %d", line, answer, e)
			}
		}
		if c.Day() != 0 || c.Cash() != 0 || len(c.Journal())+len(c.Pawns())+len(c.Tickets())+len(c.Carries())+len(c.Entries())+len(c.Surpluses()) > 0 {
			t.Errorf("a nil clerk has %s", told(c))
		}
	}
}

// P11.4: a journal is done up to its first error
func TestReplay(t *testing.T) {
	s := shop()
	c := begin(t, s)
	exemplify(t, c)
	journal := c.Journal()
	d, n, e := clerk.Replay(s, journal)
	if e != api.OK || n != len(journal) || told(d) != told(c) || hold(d) != hold(c) {
		t.Fatalf("Replay: %d, error %d", n, e)
	}
	for i := range len(journal) + 1 {
		for line, want := range map[string]api.Errno{
			"": api.ErrLine, "day": api.ErrLine, "cash": api.ErrLine, "where ada": api.ErrLine, "where nobody": api.ErrLine, "holds bob": api.ErrLine, "holds nobody": api.ErrLine, "owe " + first: api.ErrLine, "owe x": api.ErrLine, "cash 1": api.ErrLine,
			"day 799": api.ErrDay, "claim x": api.ErrSurplus, "give 0": api.ErrShares, "renew x": api.ErrForm, "move nobody 1 0 1": api.ErrName,
		} {
			if d, n, e := clerk.Replay(s, slices.Insert(slices.Clone(journal), i, line)); d != nil || n != i || e != want {
				t.Errorf("Replay with %q as the line %d: %d, error %d", line, i, n, e)
			}
		}
		part := begin(t, s)
		does(t, part, append(journal[:i:i], "pass")...)
		if d, n, e := clerk.Replay(s, append(journal[:i:i], "pass")); e != api.OK || n != i+1 || told(d) != told(part) {
			t.Errorf("Replay of %d lines: %d, error %d", i, n, e)
		}
	}
	if d, n, e := clerk.Replay(s, []string{"pass", "day 799", "cash"}); d != nil || n != 1 || e != api.ErrDay {
		t.Errorf("Replay of two errors: %d, error %d", n, e)
	}
}

// P11.4: a journal has at most 256 lines
func TestReplayFull(t *testing.T) {
	l := slices.Repeat([]string{"day 801"}, 256)
	c, n, e := clerk.Replay(shop(), l)
	if e != api.OK || n != 256 || c.Day() != 801 || !slices.Equal(c.Journal(), l) {
		t.Errorf("Replay of 256 lines: %d, error %d", n, e)
	}
	for line, want := range map[string]api.Errno{"day 801": api.ErrFull, "day 1": api.ErrFull, "day": api.ErrLine, "cash": api.ErrLine} {
		if c, n, e := clerk.Replay(shop(), append(l[:256:256], line, line)); c != nil || n != 256 || e != want {
			t.Errorf("Replay of 258 lines: %d, error %d", n, e)
		}
	}
}
