package clerk_test

import (
	"fmt"
	"slices"
	"strings"
	"testing"

	"lombard/api"
)

// P11.2: the day, which never goes back
func TestDay(t *testing.T) {
	c := begin(t, shop())
	refuses(t, c, api.ErrDay, "day 799", "day 0", "day 36501", "day 9999999999")
	says(t, c, "day 800", "")
	says(t, c, "day 802", "")
	if c.Day() != 802 {
		t.Errorf("the day is %d", c.Day())
	}
	refuses(t, c, api.ErrDay, "day 801")
	says(t, c, "day 36500", "")
	says(t, c, "day 36500", "")
	refuses(t, c, api.ErrDay, "day 36499", "day 36501")
	says(t, c, ring("ada", 1), first+" 100")
	says(t, c, "where ada", "1")
	says(t, c, "redeem "+first+" "+fits+" 0 1", "ada 100")
}

// P11.2: the metal (what it is good for is tested with take)
func TestMetal(t *testing.T) {
	c := begin(t, shop())
	refuses(t, c, api.ErrRange, "metal 100001", "metal 9999999999")
	says(t, c, "metal 0", "")
	says(t, c, "metal 100000", "")
	refuses(t, c, api.ErrRange, "metal 100001")
	// The value is 600150 at least, of which the cap of 5000 is lent; the cash is not enough for that.
	refuses(t, c, api.ErrCash, "take ada 1001 6 6 1 1 3 0 1 12345678 : ring metal=gold")
	says(t, c, "take ada 1000 6 6 1 1 3 0 1 12345678 : ring metal=gold", first+" 1000")
}

// P11.2: entries, as they are written in a line
func TestList(t *testing.T) {
	c := begin(t, shop())
	says(t, c, "list 0 : jewel", "0")
	does(t, c, "day 805")
	says(t, c, "list 806 : a b c d ; e ; f ; g ; h ; i ! j k l m", "1")
	says(t, c, "list 36500 : a ; a a ! a", "2")
	want := []api.Entry{
		{Clauses: [][]string{{"jewel"}}, Day: 800},
		{Clauses: [][]string{{"a", "b", "c", "d"}, {"e"}, {"f"}, {"g"}, {"h"}, {"i"}}, Not: []string{"j", "k", "l", "m"}, Day: 805, Until: 806},
		{Clauses: [][]string{{"a"}, {"a", "a"}}, Not: []string{"a"}, Day: 805, Until: 36500},
	}
	if got := fmt.Sprint(c.Entries()); got != fmt.Sprint(want) {
		t.Errorf("Entries: %s, want %v", got, want)
	}
	wrong := []string{"list 805 : a", "list 1 : a", "list 36501 : a", "list 9999999999 : a", "list 0 : A", "list 0 : a ; 7", "list 0 : a ! :", "list 0 : : a", "list 0 : a b c d e", "list 0 : a ; b ; c ; d ; e ; f ; g", "list 0 : a ! b c d e f", "list 0 : abcdefghijklmnopq", "list 0 : a;b", "list 0 : !a"}
	refuses(t, c, api.ErrEntry, wrong...)
	for i := range 21 {
		says(t, c, "list 0 : x", fmt.Sprint(3+i))
	}
	refuses(t, c, api.ErrEntry, wrong...)
	refuses(t, c, api.ErrFull, "list 0 : x", "list 806 : jewel")
	if len(c.Entries()) != 24 {
		t.Errorf("%d entries", len(c.Entries()))
	}
}

// P11.2: for which entries a pledge is held, from the day of an entry until it is withdrawn
func TestHolds(t *testing.T) {
	c := begin(t, shop())
	does(t, c, ring("ada", 1), "take bob 200 10 12 1 2 3 0 1 12345678 : ring metal=silver size=large ( gem cut=oval )")
	says(t, c, "holds ada", "")
	does(t, c, "list 803 : gold silver ! round", "day 801", "list 0 : jewel ; large", "list 802 : oval", "list 0 : ring ! silver")
	says(t, c, "holds ada", "0 1 3")
	says(t, c, "holds bob", "0 1 2")
	refuses(t, c, api.ErrHeld, "redeem "+first+" "+fits+" 0 1", "redeem "+second+" "+fits+" 0 1", ring("cyd", 3))
	does(t, c, "day 802")
	says(t, c, "holds bob", "0 1")
	does(t, c, "day 803")
	says(t, c, "holds ada", "1 3")
	says(t, c, "holds bob", "1")
	refuses(t, c, api.ErrName, "holds cyd", "holds "+first, "holds :")
	d := begin(t, shop())
	does(t, d, ring("ada", 1), "list 801 : gold", "day 801", "redeem "+first+" "+fits+" 0 1", "list 0 : gold")
	says(t, d, "holds ada", "1")
}

// P11.2: carries
func TestCarries(t *testing.T) {
	c := begin(t, shop())
	does(t, c, ring("ada", 11), "take bob 200 10 12 1 12 1 0 1 12345678 : ring metal=silver")
	refuses(t, c, api.ErrName, "move cyd 2 0 0", "check cyd 11 0 0", "open cyd 11 0 0", "move Ada 2 0 1", "where cyd", "where "+first, "where :")
	refuses(t, c, api.ErrCarry, "move ada 2 0 0", "move ada 0 0 1", "move ada 3 0 1", "move ada 2 0 3", "check ada 0 0 1", "check ada 1000000 0 1", "check ada 11 1 1", "open ada 13 3 1", "open ada 0 0 1")
	refuses(t, c, api.ErrRoom, "move ada 1 0 1")
	refuses(t, c, api.ErrClimate, "move bob 2 0 1")
	refuses(t, c, api.ErrSeal, "check ada 12 0 1", "open ada 12 0 1", "open ada 11 0 1")
	does(t, c, "day 805")
	says(t, c, "move ada 2 1 2", "")
	says(t, c, "where ada", "2")
	says(t, c, "where bob", "1")
	says(t, c, "check ada 11 2 0", "")
	says(t, c, "open ada 13 0 2", "")
	refuses(t, c, api.ErrSeal, "check ada 11 0 1")
	refuses(t, c, api.ErrRoom, "take cyd 1 10 12 2 14 3 0 1 12345678 : ring metal=gold")
	does(t, c, "day 806", "redeem "+first+" "+fits+" 1 0")
	says(t, c, "where ada", "0")
	refuses(t, c, api.ErrBag, "move ada 1 0 1", "check ada 13 0 1", "open ada 14 0 1")
	want := []api.Carry{
		{Day: 800, Kind: api.CarryIn, Bag: 0, To: 1, By: 0, With: 1, Seal: 11, Suits: 3},
		{Day: 800, Kind: api.CarryIn, Bag: 1, To: 1, By: 0, With: 1, Seal: 12, Suits: 1},
		{Day: 805, Kind: api.CarryMove, Bag: 0, To: 2, By: 1, With: 2},
		{Day: 805, Kind: api.CarryCheck, Bag: 0, By: 2, With: 0, Seal: 11},
		{Day: 805, Kind: api.CarryOpen, Bag: 0, By: 0, With: 2, Seal: 13},
		{Day: 806, Kind: api.CarryOut, Bag: 0, By: 1, With: 0},
	}
	if l := c.Carries(); !slices.Equal(l, want) {
		t.Errorf("Carries: %v", l)
	}
}

// P11.2: carries by people who do not reach a room
func TestReach(t *testing.T) {
	c := begin(t, changed(func(s *api.Shop) { s.Strong.Staff = []int{1, 0, 2} }))
	refuses(t, c, api.ErrReach, "take ada 1 10 12 1 1 3 1 2 12345678 : ring metal=gold", "take ada 1 10 12 2 1 3 0 1 12345678 : ring metal=gold")
	does(t, c, ring("ada", 1))
	refuses(t, c, api.ErrReach, "move ada 2 0 1", "check ada 1 1 2", "open ada 2 2 1")
	does(t, c, "move ada 2 0 2")
	refuses(t, c, api.ErrReach, "move ada 1 0 1", "check ada 1 0 1", "open ada 2 0 1", "redeem "+first+" "+fits+" 0 1")
	does(t, c, "redeem "+first+" "+fits+" 2 0")
}

// P11.2: surpluses are claimed once, until they pass
func TestClaim(t *testing.T) {
	c := ripe(t)
	refuses(t, c, api.ErrSurplus, "claim ada", "claim nobody", "claim :")
	does(t, c, "sell 9 0 1 "+first+" : 4 0 500", "sell 0 0 1 "+second+" : 4 0 500")
	says(t, c, "cash", "1060 15 0")
	refuses(t, c, api.ErrSurplus, "claim cyd")
	does(t, c, "day 913")
	says(t, c, "claim ada", "9")
	says(t, c, "cash", "1051 6 0")
	refuses(t, c, api.ErrSurplus, "claim ada")
	says(t, c, "pass", "0")
	does(t, c, "day 914")
	refuses(t, c, api.ErrSurplus, "claim ada", "claim bob")
	says(t, c, "cash", "1051 6 0")
	says(t, c, "pass", "6")
	says(t, c, "cash", "1051 0 6")
	says(t, c, "pass", "0")
	refuses(t, c, api.ErrSurplus, "claim bob")
	want := []api.Surplus{{Pledge: "ada", Sum: 9, Day: 814, State: api.SurplusPaid, Over: 913}, {Pledge: "bob", Sum: 6, Day: 814, State: api.SurplusPassed, Over: 914}}
	if l := c.Surpluses(); !slices.Equal(l, want) {
		t.Errorf("Surpluses: %v", l)
	}
	says(t, c, "give 1 1 0 2", "2 1 0 3")
	says(t, c, "cash", "1045 0 0")
	says(t, c, "give 5 0", "0 0")
	says(t, c, "cash", "1045 0 0")
}

// P11.2: with a term of no days all surpluses pass at once
func TestClaimNever(t *testing.T) {
	c := ripe(t, func(s *api.Shop) { s.Years = 0 })
	does(t, c, "sell 9 0 1 "+first+" : 4 0 500")
	refuses(t, c, api.ErrSurplus, "claim ada")
	says(t, c, "pass", "9")
	says(t, c, "give 67108864", "9")
}

// P11.2: nothing is claimed or given away that is not in the shop
func TestNoCash(t *testing.T) {
	for _, passes := range []bool{false, true} {
		c := begin(t, changed(func(s *api.Shop) { s.Cash, s.Years = 100, 1 }))
		does(t, c, ring("ada", 1), "day 814", "sell 0 0 1 "+first+" : 4 0 500 5 0 500")
		says(t, c, "cash", "500 388 0")
		does(t, c, "take bob 113 10 12 1 2 3 0 1 12345678 : ring metal=gold")
		line, want := "claim ada", "388"
		if passes {
			does(t, c, "day 815")
			refuses(t, c, api.ErrSurplus, "claim ada")
			does(t, c, "pass")
			line, want = "give 2 2", "194 194"
			refuses(t, c, api.ErrShares, "give 0")
		}
		refuses(t, c, api.ErrCash, line)
		does(t, c, "pay "+second+" 1")
		says(t, c, line, want)
		says(t, c, "cash", "0 0 0")
		refuses(t, c, api.ErrCash, "take cyd 1 10 12 1 3 3 0 1 12345678 : ring metal=gold")
	}
}

// P11.2: weights
func TestGive(t *testing.T) {
	c := begin(t, shop())
	refuses(t, c, api.ErrShares, "give 0", "give 0 0", "give 67108865", "give 1 67108865", "give 9999999999", "give"+strings.Repeat(" 1", 25))
	says(t, c, "give 1", "0")
	says(t, c, "give 0 67108864", "0 0")
	says(t, c, "give"+strings.Repeat(" 67108864", 24), strings.TrimSpace(strings.Repeat(" 0", 24)))
}
