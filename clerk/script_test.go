package clerk_test

import (
	"fmt"
	"math/rand/v2"
	"slices"
	"strings"
	"testing"

	"lombard/api"
	"lombard/clerk"
	"lombard/ticket"
)

// someShop is a random shop in which much happens within few days.
func someShop(r *rand.Rand) api.Shop {
	return changed(func(s *api.Shop) {
		s.Cash = 300 + r.IntN(2)*r.IntN(5000)
		if r.IntN(3) > 0 {
			s.Kinds = []string{"gem", "ring"}
			s.Market.Fade = []int{r.IntN(65), r.IntN(65)}
			for i := range s.Market.Sales {
				s.Market.Sales[i].Kind = r.IntN(2)
			}
		}
		s.Market.Few = 1 + r.IntN(2)
		if r.IntN(2) == 0 {
			s.Rules = append(s.Rules, api.Rule{Class: "gem", Terms: api.Terms{Fraction: r.IntN(65), Cap: 1000}})
		}
		s.Law = api.Law{Rate: r.IntN(10001), Cap: r.IntN(65)}
		s.Tariff = api.Tariff{Rate: r.IntN(10001), Free: r.IntN(3), Fee: r.IntN(30), Term: 1 + r.IntN(4), Grace: r.IntN(2)}
		s.Closed = []int{801, 804, 805, 811}
		s.Wait, s.Years = r.IntN(4), r.IntN(12)
		s.Strong.Staff[2] = 2 + r.IntN(2)
		s.Strong.Rooms[1].Hold, s.Strong.Rooms[2].Hold = 1+r.IntN(6), 1+r.IntN(3)
		s.Start = 1 + r.IntN(20)
		s.Ladder = []api.Rise{{By: 1 + r.IntN(10)}, {From: 200, By: 1 + r.IntN(40)}}
	})
}

// writer makes up lines for a clerk. One who is eager lists everything that comes by.
type writer struct {
	*rand.Rand
	of    *slow
	eager bool
}

func (w writer) one(l ...string) string { return l[w.IntN(len(l))] }

// rarely is something else in one of ten cases.
func (w writer) rarely(usual string, others ...string) string {
	if w.IntN(10) > 0 {
		return usual
	}
	return w.one(others...)
}

func (w writer) name() string {
	if n := len(w.of.now.pawns); n > 0 {
		return w.rarely(w.of.now.pawns[w.IntN(n)].Name, "nobody", "A", ":")
	}
	return "nobody"
}

// code is one of the last tickets, more often if it can still be used.
func (w writer) code() string {
	l := w.of.now.roll.Tickets()
	if len(l) == 0 {
		return w.one(first, second)
	}
	t := l[w.IntN(len(l))]
	if t.State != api.TicketLive && t.State != api.TicketBlocked {
		t = l[w.IntN(len(l))]
	}
	s, _ := ticket.Code(t.Number)
	return w.rarely(s, "0000000196", "000000019", "0000009951", ":", "ada")
}

// old is the code of a pledge that can be sold, if there is one.
func (w writer) old() string {
	for _, t := range w.of.now.roll.Tickets() {
		s, _ := ticket.Code(t.Number)
		if _, e := w.of.now.sellable(s, nil); e == api.OK && w.IntN(2) == 0 {
			return s
		}
	}
	return w.code()
}

func (w writer) people() string {
	return w.rarely(w.one("0 1", "2 0"), "1 2", "2 1", "1 1", "0 6", "3 0")
}

func (w writer) edge() string { return w.rarely("12345678", "1234567812345678", "87654321") }

func (w writer) half() string {
	return w.rarely("1234??78", "12345678", "1234??7?", "123?????", "87654321", "1234567812345678", "1234??79")
}

func (w writer) text() string {
	return w.one("ring metal=gold", "ring metal=silver", "ring metal=gold size=small", "ring metal=gold ( gem )", "ring metal=silver ( gem cut=oval ; gem )", "gem", "gem cut=round", w.rarely("gem", "ring", "coat", "gem ( gem )", ": ;"))
}

// seal is a new one, or one that was there.
func (w writer) seal(there bool) string {
	l := w.of.now.carries
	if w.IntN(10) == 0 {
		there = !there
	}
	if there && len(l) > 0 {
		return fmt.Sprint(l[w.IntN(len(l))].Seal)
	}
	return fmt.Sprint(1 + 3*len(w.of.journal))
}

// wish is now and then all that there is, more often if some of it is owed.
func (w writer) wish() string {
	if waits, welfare, _ := w.of.now.chest.Holds(); waits+welfare > 0 && w.IntN(3) == 0 {
		return fmt.Sprint(w.of.now.cash)
	}
	return w.rarely(fmt.Sprint(w.IntN(1000)), "0", fmt.Sprint(w.of.now.cash), fmt.Sprint(w.of.now.cash), fmt.Sprint(w.of.now.cash+1))
}

// lines are the ways in which lines are made up, those that are needed more often more than once.
func (w writer) lines() []func() string {
	take := func() string {
		min := w.IntN(20)
		return fmt.Sprintf("take n%d %s %d %d %d %s %d %s %s : %s", w.IntN(50), w.wish(), min, min+w.IntN(20)-1, 1+w.IntN(3), w.seal(false), 1+w.IntN(4), w.people(), w.edge(), w.text())
	}
	redeem := func() string { return fmt.Sprint("redeem ", w.code(), " ", w.half(), " ", w.people()) }
	return []func() string{
		take, take, take, take, redeem, w.sell, w.sell, w.sell, w.claim, w.day, w.day, w.day, w.list,
		func() string { return fmt.Sprint("metal ", w.rarely(fmt.Sprint(w.IntN(100)), "100000", "100001")) },
		func() string { return fmt.Sprint("pay ", w.code(), " ", w.IntN(300)) },
		func() string { return fmt.Sprint("renew ", w.code()) },
		func() string { return fmt.Sprint("rest ", w.code(), " ", w.IntN(5)) },
		func() string { return fmt.Sprint("block ", w.code()) },
		func() string { return fmt.Sprint("free ", w.code(), " ", w.half()) },
		func() string { return fmt.Sprint("replace ", w.code(), " ", w.edge()) },
		func() string { return "pass" },
		func() string {
			return fmt.Sprint("give ", w.rarely(fmt.Sprint(w.IntN(4)), "67108864", "67108865"), w.one("", " 2 5", " 0"))
		},
		func() string {
			return fmt.Sprint("move ", w.name(), " ", w.rarely(w.one("1", "2"), "0", "3"), " ", w.people())
		},
		func() string { return fmt.Sprint("check ", w.name(), " ", w.seal(true), " ", w.people()) },
		func() string { return fmt.Sprint("open ", w.name(), " ", w.seal(false), " ", w.people()) },
		func() string { return fmt.Sprint("owe ", w.code()) },
		func() string { return fmt.Sprint(w.one("where ", "holds "), w.name()) },
		func() string { return "cash" },
	}
}

func (w writer) day() string {
	return w.rarely(fmt.Sprint("day ", w.of.now.day+w.IntN(4)), fmt.Sprint("day ", w.of.now.day-1), "day 36501")
}

func (w writer) claim() string {
	l := w.of.now.chest.Surpluses()
	if len(l) == 0 {
		return fmt.Sprint("claim ", w.name())
	}
	return fmt.Sprint("claim ", l[w.IntN(len(l))].Pledge)
}

func (w writer) list() string {
	if !w.eager && w.IntN(4) > 0 {
		return "cash"
	}
	until := w.of.now.day + 1 + w.IntN(4)
	s := fmt.Sprint("list ", w.rarely(fmt.Sprint(until), "0", fmt.Sprint(until-4)), " : ", w.rarely(w.one("gem", "jewel", "silver", "round oval"), "x", ":", "Gold"))
	return s + w.one("", " ; gem", " ; gold silver") + w.one("", " ! gold", " ! small round")
}

func (w writer) sell() string {
	s := fmt.Sprint("sell ", w.rarely(fmt.Sprint(w.IntN(30)), "67108864", "67108865"), " ", w.people())
	for range 1 + w.IntN(2)*w.IntN(3) {
		s += " " + w.old()
	}
	s += " :"
	for range w.IntN(4) {
		s += fmt.Sprint(" ", w.IntN(6), " ", w.rarely("1", "0", "3", "4"), " ", w.rarely(fmt.Sprint(1+w.IntN(1200)), "0", "100000", "100001"))
	}
	return s
}

// line makes up a line, which rarely is a wrong one.
func (w writer) line() string {
	l := w.lines()
	if w.eager {
		l = append(l, w.list, w.list)
	}
	s := l[w.IntN(len(l))]()
	if w.IntN(20) > 0 {
		return s
	}
	tokens := strings.Split(s, " ")
	i := w.IntN(len(tokens))
	switch w.IntN(4) {
	case 0:
		tokens = slices.Delete(tokens, i, i+1)
	case 1:
		tokens = slices.Insert(tokens, i, w.one("", "0", ":", ";", "!", "x"))
	case 2:
		tokens[i] = w.one("00", "01", "-1", "+1", "9999999999", "10000000000", "?", ":", "12345678", "1234567", "é", "\xff")
	default:
		tokens[i] += w.one("0", " ", "?")
	}
	return strings.Join(tokens, " ")
}

// result is a command, and the error that it had.
type result struct {
	name string
	e    api.Errno
}

// wantResults are all errors that each command can have, but for those of lines and journals.
func wantResults() map[string][]api.Errno {
	spent := []api.Errno{api.OK, api.ErrForm, api.ErrCheck, api.ErrNone, api.ErrSpent}
	with := func(l []api.Errno, more ...api.Errno) []api.Errno { return append(slices.Clone(l), more...) }
	return map[string][]api.Errno{
		"day":     {api.OK, api.ErrDay},
		"metal":   {api.OK, api.ErrRange},
		"take":    {api.OK, api.ErrForm, api.ErrNone, api.ErrHeld, api.ErrWare, api.ErrRange, api.ErrCash, api.ErrCarry, api.ErrReach, api.ErrRoom, api.ErrClimate, api.ErrSeal, api.ErrPledge},
		"pay":     with(spent, api.ErrActs, api.ErrLate, api.ErrFull),
		"renew":   with(spent, api.ErrLate),
		"rest":    with(spent, api.ErrActs, api.ErrLate, api.ErrHold),
		"redeem":  with(spent, api.ErrHeld, api.ErrLate, api.ErrCarry, api.ErrReach, api.ErrBlocked, api.ErrFit),
		"block":   with(spent, api.ErrBlocked),
		"free":    with(spent, api.ErrEarly, api.ErrFit),
		"replace": with(spent, api.ErrEarly),
		"list":    {api.OK, api.ErrEntry, api.ErrFull},
		"sell":    with(spent, api.ErrName, api.ErrBlocked, api.ErrTerm, api.ErrHeld, api.ErrRange, api.ErrLot, api.ErrBids, api.ErrUnsold, api.ErrCarry, api.ErrReach),
		"claim":   {api.OK, api.ErrSurplus, api.ErrCash},
		"pass":    {api.OK},
		"give":    {api.OK, api.ErrShares, api.ErrCash},
		"move":    {api.OK, api.ErrName, api.ErrCarry, api.ErrBag, api.ErrReach, api.ErrRoom, api.ErrClimate},
		"check":   {api.OK, api.ErrName, api.ErrCarry, api.ErrBag, api.ErrReach, api.ErrSeal},
		"open":    {api.OK, api.ErrName, api.ErrCarry, api.ErrBag, api.ErrReach, api.ErrSeal},
		"owe":     spent,
		"where":   {api.OK, api.ErrName},
		"holds":   {api.OK, api.ErrName},
		"cash":    {api.OK},
	}
}

// P11.2, P11.3: random lines, as a clerk does them that does its journal anew after each error. All errors of all commands come.
func TestSlowly(t *testing.T) {
	r := random(1)
	counts := map[result]int{}
	for i := range 500 {
		s := someShop(r)
		c, x := begin(t, s), newSlow(s)
		for range 20 + r.IntN(300) {
			line := writer{r, x, i%10 == 0}.line()
			want, wantError := x.do(line)
			got, e := c.Do(line)
			if got != want || e != wantError || told(c) != x.told() {
				t.Fatalf("%s: %q, error %d, want %q, error %d\n%s\n%s", line, got, e, want, wantError, told(c), x.told())
			}
			counts[result{nameOf(line), e}]++
		}
		if d, n, e := clerk.Replay(s, x.journal); e != api.OK || n != len(x.journal) || told(d) != x.told() {
			t.Fatalf("Replay: %d, error %d", n, e)
		}
	}
	for name, l := range wantResults() {
		for _, e := range l {
			if counts[result{name, e}] == 0 {
				t.Errorf("%s: no error %d", name, e)
			}
		}
		if counts[result{name, api.OK}] < 50 {
			t.Errorf("%s: only %d without an error", name, counts[result{name, api.OK}])
		}
	}
}
