package clerk_test

import (
	"fmt"
	"slices"
	"strings"
	"testing"

	"lombard/api"
	"lombard/clerk"
)

// ripe is a clerk on the day 814, on which two loans of 100 and 200 from the day 800 are over: 12 and 24 are due.
func ripe(t *testing.T, changes ...change) *clerk.Clerk {
	t.Helper()
	c := begin(t, changed(changes...))
	does(t, c, ring("ada", 1), "take bob 200 10 12 1 2 3 0 1 87654321 : ring metal=silver", "day 814")
	says(t, c, "owe "+first, "100 12 14")
	says(t, c, "owe "+second, "200 24 14")
	return c
}

// P11.2: lots of one pledge and of two, and what is left behind
func TestSell(t *testing.T) {
	for _, x := range []struct{ line, want, cash string }{
		{"sell 9 0 1 A : 4 0 500", "4 130 ada 9", "830 9 0"},
		{"sell 0 0 1 A : 4 0 119", "", ""},
		{"sell 0 0 1 A : 4 0 120", "4 120 ada 8", "820 8 0"},
		{"sell 8 0 1 A : 4 0 129", "4 120 ada 0", "820 0 0"},
		{"sell 9 2 0 B : 99 3 300 0 2 300 50 2 300", "0 300 bob 67", "1000 67 0"},
		{"sell 9 0 1 A B : 4 0 500", "4 360 ada 0 bob 7", "1060 7 0"},
		{"sell 9 0 1 A B : 5 1 455 4 0 500", "4 460 ada 32 bob 74", "1160 106 0"},
		{"sell 9 0 1 B A : 5 1 455 4 0 500", "4 460 bob 74 ada 32", "1160 106 0"},
		{"sell 99888 0 1 A : 4 0 100000", "4 100000 ada 0", "100700 0 0"},
	} {
		c := ripe(t)
		line := strings.NewReplacer("A", first, "B", second).Replace(x.line)
		if x.want == "" {
			refuses(t, c, api.ErrUnsold, line)
			continue
		}
		says(t, c, line, x.want)
		says(t, c, "cash", x.cash)
	}
}

// P11.2: pledges that were sold
func TestSold(t *testing.T) {
	c := ripe(t)
	acts := fmt.Sprint(c.Pawns())
	says(t, c, "sell 9 2 0 "+second+" "+first+" : 5 1 455 4 0 500", "4 460 bob 74 ada 32")
	for i, x := range c.Tickets() {
		if x.State != api.TicketGone {
			t.Errorf("ticket %d: %v", i, x)
		}
	}
	out := api.Carry{Day: 814, Kind: api.CarryOut, Bag: 1, By: 2, With: 0}
	last := out
	last.Bag = 0
	if l := c.Carries(); len(l) != 4 || l[2] != out || l[3] != last {
		t.Errorf("Carries: %v", l)
	}
	want := []api.Surplus{{Pledge: "bob", Sum: 74, Day: 814, State: api.SurplusHeld}, {Pledge: "ada", Sum: 32, Day: 814, State: api.SurplusHeld}}
	if l := c.Surpluses(); !slices.Equal(l, want) {
		t.Errorf("Surpluses: %v", l)
	}
	if got := fmt.Sprint(c.Pawns()); got != acts {
		t.Errorf("Pawns: %s, were %s", got, acts)
	}
	says(t, c, "where ada", "0")
	refuses(t, c, api.ErrSpent, "sell 9 0 1 "+first+" : 4 0 500", "redeem "+first+" "+fits+" 0 1", "block "+second)
	refuses(t, c, api.ErrBag, "move ada 1 0 1", "check bob 2 0 1")
}

// P11.2: up to 8 pledges are sold together, and each carry counts
func TestSellMany(t *testing.T) {
	c := begin(t, wide())
	line := "sell 0 0 1"
	for i := range 8 {
		says(t, c, ring(fmt.Sprint("n", i), i+1), fmt.Sprint(codeOf(t, i+1), " 100"))
		line += " " + codeOf(t, i+1)
	}
	does(t, c, ring("last", 9), "day 814")
	for range 48 {
		does(t, c, "check n0 1 0 1")
	}
	does(t, c, "check n1 2 0 1")
	// Of 64 carries 58 are done.
	refuses(t, c, api.ErrCarry, line+" : 7 0 960")
	refuses(t, c, api.ErrUnsold, line+" : 7 0 890")
	refuses(t, c, api.ErrLine, line+" "+codeOf(t, 9)+" : 7 0 890")
	d := begin(t, wide())
	for _, s := range c.Journal()[:10] {
		does(t, d, s)
	}
	says(t, d, line+" : 7 0 960", "7 900 n0 1 n1 1 n2 1 n3 1 n4 0 n5 0 n6 0 n7 0")
}

// P11.2: the errors of sell, each before those that follow
func TestSellErrors(t *testing.T) {
	c := ripe(t, func(s *api.Shop) { s.Strong.Staff = []int{1, 0, 0} })
	does(t, c, "block "+first, "list 815 : silver")
	sell := func(rest string) string { return "sell " + rest }
	for _, x := range []struct {
		e    api.Errno
		rest string
	}{
		{api.ErrBlocked, "99999999 0 0 " + first + " ada : 100 0 0"},
		{api.ErrForm, "99999999 0 0 ada " + first + " : 100 0 0"},
		{api.ErrHeld, "99999999 0 0 " + second + " " + second + " : 100 0 0"},
		{api.ErrHeld, "99999999 0 0 " + second + " " + first + " : 100 0 0"},
	} {
		refuses(t, c, x.e, sell(x.rest))
	}
	does(t, c, "free "+first+" "+fits)
	for _, x := range []struct {
		e    api.Errno
		rest string
	}{
		{api.ErrName, "99999999 0 0 " + first + " " + first + " : 100 0 0"},
		{api.ErrName, "99999999 0 0 " + first + " " + first + " ada : 100 0 0"},
		{api.ErrHeld, "99999999 0 0 " + first + " " + second + " " + first + " : 100 0 0"},
		{api.ErrNone, "99999999 0 0 " + first + " " + third + " : 100 0 0"},
		{api.ErrRange, "99999999 0 0 " + first + " : 100 0 0"},
		{api.ErrRange, "67108865 0 0 " + first + " : 100 0 0"},
		{api.ErrLot, "67108864 0 0 " + first + " : 100 0 0"},
		{api.ErrLot, "99889 0 0 " + first + " : 100 0 0"},
		{api.ErrBids, "99888 0 0 " + first + " : 100 0 100"},
		{api.ErrBids, "0 0 0 " + first + " : 4 4 100"},
		{api.ErrBids, "0 0 0 " + first + " : 4 0 0"},
		{api.ErrBids, "0 0 0 " + first + " : 4 0 100001"},
		{api.ErrBids, "0 0 0 " + first + " :" + strings.Repeat(" 4 0 500", 33)},
		{api.ErrUnsold, "0 0 0 " + first + " :"},
		{api.ErrUnsold, "0 0 0 " + first + " : 4 0 119"},
		{api.ErrUnsold, "9 0 0 " + first + " : 4 0 129"},
		{api.ErrCarry, "9 0 0 " + first + " : 4 0 130"},
		{api.ErrCarry, "9 0 3 " + first + " : 4 0 130"},
		{api.ErrReach, "9 1 2 " + first + " : 4 0 130"},
	} {
		refuses(t, c, x.e, sell(x.rest))
	}
	says(t, c, "sell 9 0 2 "+first+" :"+strings.Repeat(" 4 0 500", 32), "4 130 ada 9")
	does(t, c, "day 815")
	refuses(t, c, api.ErrReach, "sell 0 1 2 "+second+" : 4 0 500")
	says(t, c, "sell 0 1 0 "+second+" : 4 0 500", "4 230 bob 4")
}

// P11.2: a pledge is sold when its age is greater than term and grace together, and not when it was blocked or replaced in between
func TestTerm(t *testing.T) {
	c := begin(t, changed(func(s *api.Shop) { s.Closed = []int{801, 802} }))
	does(t, c, ring("ada", 1), "rest "+first+" 4", "day 817")
	says(t, c, "owe "+first, "100 11 13")
	refuses(t, c, api.ErrTerm, "sell 99999999 0 0 "+first+" : 100 0 0")
	does(t, c, "renew "+first, "day 830")
	says(t, c, "owe "+first, "100 12 13")
	refuses(t, c, api.ErrTerm, "sell 0 0 1 "+first+" : 1 0 500")
	does(t, c, "day 831", "block "+first)
	refuses(t, c, api.ErrBlocked, "sell 0 0 1 "+first+" : 1 0 500")
	does(t, c, "day 836", "replace "+first+" 12345678")
	refuses(t, c, api.ErrSpent, "sell 0 0 1 "+first+" : 1 0 500")
	refuses(t, c, api.ErrSpent, "sell 0 0 1 "+second+" "+first+" : 1 0 500")
	// The charge is at most a quarter of the loan: 25 were charged, of which 13 were paid.
	says(t, c, "owe "+second, "100 12 19")
	says(t, c, "sell 0 0 1 "+second+" : 1 0 500", "1 120 ada 8")
}

// P11.2: a pledge that is held, and of which the term is not over; one that is blocked besides
func TestNotForSale(t *testing.T) {
	c := begin(t, shop())
	does(t, c, ring("ada", 1), "list 0 : gold", "day 813")
	refuses(t, c, api.ErrTerm, "sell 99999999 0 0 "+first+" : 100 0 0")
	does(t, c, "block "+first)
	refuses(t, c, api.ErrBlocked, "sell 99999999 0 0 "+first+" : 100 0 0")
	does(t, c, "free "+first+" "+fits, "day 814")
	refuses(t, c, api.ErrHeld, "sell 99999999 0 0 "+first+" : 100 0 0")
}

// P11.2: of several carries the first error counts: of the first pledge that cannot be carried
func TestSellCarries(t *testing.T) {
	c := begin(t, changed(func(s *api.Shop) { s.Strong.Staff = []int{1, 0, 2} }))
	does(t, c, ring("ada", 1), "take bob 200 10 12 1 2 3 0 1 87654321 : ring metal=silver", "move bob 2 0 2", "day 814")
	// The room 1 is reached with the key 0, the room 2 with the keys 1 and 2: so 0 and 1 reach the first one alone.
	refuses(t, c, api.ErrReach, "sell 0 0 1 "+first+" "+second+" : 1 0 500", "sell 0 0 1 "+second+" "+first+" : 1 0 500")
	for range 60 {
		does(t, c, "check ada 1 0 1")
	}
	// There is room for one more carry.
	refuses(t, c, api.ErrReach, "sell 0 0 1 "+second+" "+first+" : 1 0 500")
	refuses(t, c, api.ErrCarry, "sell 0 0 1 "+first+" "+second+" : 1 0 500", "sell 0 0 2 "+second+" "+first+" : 1 0 500")
	says(t, c, "sell 0 0 2 "+second+" : 1 0 500", "1 230 bob 6")
	refuses(t, c, api.ErrCarry, "sell 0 0 2 "+first+" : 1 0 500")
}
