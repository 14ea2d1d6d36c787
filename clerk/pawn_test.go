package clerk_test

import (
	"fmt"
	"reflect"
	"slices"
	"strings"
	"testing"

	"lombard/api"
)

// two is a shop that takes rings and gems. There are three sales of rings and none of gems.
func two(s *api.Shop) { s.Kinds, s.Market.Fade = []string{"ring", "gem"}, []int{32, 64} }

// P11.2: what a take leaves behind
func TestTake(t *testing.T) {
	c := begin(t, changed(func(s *api.Shop) { s.Closed = []int{801, 900} }))
	says(t, c, "take ada 1000 10 12 1 11 3 0 1 12345678 : ring metal=gold ( gem )", first+" 406")
	does(t, c, "day 810")
	says(t, c, "take bob-2 7 1 1 2 999999 10 2 1 0000000000000000 : ring metal=silver size=large ( gem cut=oval ; gem )", second+" 7")
	says(t, c, "cash", "587 0 0")
	says(t, c, "owe "+second, "7 0 0")
	says(t, c, "where bob-2", "2")
	deal := func(start, sum int) api.Deal {
		return api.Deal{Law: shop().Law, Tariff: shop().Tariff, Closed: []int{801, 900}, Start: start, Sum: sum}
	}
	item := func(metal, size string, gems ...string) api.Item {
		x := api.Item{Class: "ring", Says: []string{metal, size}}
		for _, cut := range gems {
			x.Parts = append(x.Parts, api.Item{Class: "gem", Says: []string{cut}})
		}
		return x
	}
	pawns := []api.Pawn{{Name: "ada", Item: item("gold", "", ""), Deal: deal(800, 406)}, {Name: "bob-2", Item: item("silver", "large", "oval", ""), Deal: deal(810, 7)}}
	if got := fmt.Sprint(c.Pawns()); got != fmt.Sprint(pawns) {
		t.Errorf("Pawns: %s, want %v", got, pawns)
	}
	tickets := []api.Ticket{{Number: 1, Pledge: "ada", State: api.TicketLive, Edge: []int{1, 2, 3, 4, 5, 6, 7, 8}}, {Number: 2, Pledge: "bob-2", State: api.TicketLive, Edge: make([]int, 16)}}
	if l := c.Tickets(); !reflect.DeepEqual(l, tickets) {
		t.Errorf("Tickets: %v", l)
	}
	carries := []api.Carry{{Day: 800, Kind: api.CarryIn, Bag: 0, To: 1, By: 0, With: 1, Seal: 11, Suits: 3}, {Day: 810, Kind: api.CarryIn, Bag: 1, To: 2, By: 2, With: 1, Seal: 999999, Suits: 10}}
	if l := c.Carries(); !slices.Equal(l, carries) {
		t.Errorf("Carries: %v", l)
	}
}

// P11.2: what is lent depends on the day, the metal, and the kind of the class
func TestTakeValue(t *testing.T) {
	c := begin(t, changed(two, func(s *api.Shop) {
		s.Cash = 100000
		s.Kinds, s.Market.Fade = []string{"gem", "ring"}, []int{64, 32}
		for i := range s.Market.Sales {
			s.Market.Sales[i].Kind = 1
		}
		s.Market.Sales = append(s.Market.Sales, api.Sale{Kind: 0, Day: 799, Price: 6400}, api.Sale{Kind: 0, Day: 799, Price: 9600})
		s.Rules = append(s.Rules, api.Rule{Class: "gem", Terms: api.Terms{Fraction: 1, Cap: 80}})
		s.Strong = wide().Strong
	}))
	says(t, c, "take a 9999 10 12 1 1 3 0 1 12345678 : ring metal=gold", first+" 406")
	says(t, c, "take b 9999 0 0 1 2 3 0 1 12345678 : gem", second+" 80")
	does(t, c, "metal 0")
	says(t, c, "take c 9999 10 12 1 3 3 0 1 12345678 : ring metal=gold", third+" 150")
	does(t, c, "metal 100")
	says(t, c, "take d 9999 10 12 1 4 3 0 1 12345678 : ring metal=gold", "0000000486 718")
	does(t, c, "day 1164")
	says(t, c, "take e 9999 10 12 1 5 3 0 1 12345678 : ring metal=gold", "0000000583 718")
	does(t, c, "day 1165")
	// Another year has passed: the least craft of the rings is 75. Those of the gems do not fade.
	says(t, c, "take f 9999 10 12 1 6 3 0 1 12345678 : ring metal=gold", "0000000680 671")
	says(t, c, "take g 81 0 1 1 7 3 0 1 12345678 : gem cut=oval", "0000000777 80")
}

// P11.2: the errors of take, each before those that follow
func TestTakeErrors(t *testing.T) {
	c := begin(t, changed(two, func(s *api.Shop) { s.Cash = 300 }))
	says(t, c, "take ada 100 10 12 1 11 3 0 1 12345678 : ring metal=gold", first+" 100")
	does(t, c, "list 0 : gold ; jewel")
	take := func(rest string) string { return "take " + rest }
	for _, x := range []struct {
		e    api.Errno
		rest string
	}{
		{api.ErrForm, "ada 0 12 10 1 11 0 0 0 12345678 : ring"},
		{api.ErrForm, "ada 0 12 10 1 11 0 0 0 12345678 : ring metal=gold ( gem ) x"},
		{api.ErrForm, "ada 0 12 10 1 11 0 0 0 12345678 : coat"},
		{api.ErrHeld, "ada 0 12 10 1 11 0 0 0 12345678 : ring metal=gold"},
		{api.ErrHeld, "ada 0 12 10 1 11 0 0 0 12345678 : ring metal=gold size=large ( gem )"},
		{api.ErrWare, "ada 0 12 10 1 11 0 0 0 12345678 : ring metal=silver"},
		{api.ErrWare, "ada 0 10 1001 1 11 0 0 0 12345678 : ring metal=silver"},
		{api.ErrNone, "ada 0 10 12 1 11 0 0 0 12345678 : gem"},
		{api.ErrRange, "ada 0 10 12 1 11 0 0 0 12345678 : ring metal=silver"},
		{api.ErrRange, "ada 1073741825 10 12 1 11 0 0 0 12345678 : ring metal=silver"},
		{api.ErrCash, "ada 1073741824 10 12 1 11 0 0 0 12345678 : ring metal=silver"},
		{api.ErrCash, "ada 201 10 12 1 11 0 0 0 12345678 : ring metal=silver"},
		{api.ErrCarry, "ada 200 10 12 1 11 0 0 0 12345678 : ring metal=silver"},
		{api.ErrCarry, "ada 200 10 12 1 11 3 0 0 12345678 : ring metal=silver"},
		{api.ErrCarry, "ada 200 10 12 1 11 16 0 1 12345678 : ring metal=silver"},
		{api.ErrCarry, "ada 200 10 12 0 11 3 0 1 12345678 : ring metal=silver"},
		{api.ErrCarry, "ada 200 10 12 3 11 3 0 1 12345678 : ring metal=silver"},
		{api.ErrCarry, "ada 200 10 12 1 1000000 3 0 1 12345678 : ring metal=silver"},
		{api.ErrCarry, "ada 200 10 12 1 11 3 0 3 12345678 : ring metal=silver"},
		{api.ErrClimate, "ada 200 10 12 2 11 1 0 1 12345678 : ring metal=silver"},
		{api.ErrSeal, "ada 200 10 12 1 11 3 0 1 12345678 : ring metal=silver"},
		{api.ErrPledge, "ada 200 10 12 1 12 3 0 1 12345678 : ring metal=silver"},
		{api.ErrPledge, "Bob 200 10 12 1 12 3 0 1 12345678 : ring metal=silver"},
		{api.ErrPledge, "abcdefghijklmnopq 200 10 12 1 12 3 0 1 12345678 : ring metal=silver"},
	} {
		refuses(t, c, x.e, take(x.rest))
	}
	says(t, c, take("bob 200 10 12 1 12 3 0 1 12345678 : ring metal=silver"), second+" 200")
	says(t, c, "cash", "0 0 0")
	refuses(t, c, api.ErrCash, take("cyd 1 10 12 1 12 3 0 1 12345678 : ring metal=silver"))
}

// P11.2: classes that are no kinds, kinds with too few sales, and those without terms, or of which nothing is lent
func TestTakeNone(t *testing.T) {
	gem := "take ada 0 0 1001 1 11 0 0 0 12345678 : gem"
	c := begin(t, shop())
	does(t, c, "list 0 : gem")
	refuses(t, c, api.ErrNone, gem)
	few := begin(t, changed(func(s *api.Shop) { s.Market.Few = 4 }))
	refuses(t, few, api.ErrWare, "take ada 0 2 1 1 11 0 0 0 12345678 : ring metal=gold")
	refuses(t, few, api.ErrNone, "take ada 1 10 12 1 11 3 0 1 12345678 : ring metal=gold")
	lawless := begin(t, changed(func(s *api.Shop) { s.Rules = nil }))
	refuses(t, lawless, api.ErrWare, "take ada 0 2 1 1 11 0 0 0 12345678 : ring metal=gold")
	refuses(t, lawless, api.ErrNone, "take ada 0 10 12 1 11 3 0 1 12345678 : ring metal=gold")
	poor := begin(t, changed(func(s *api.Shop) { s.Rules[0].Terms, s.Cash = api.Terms{Cap: 10}, 0 }))
	refuses(t, poor, api.ErrRange, "take ada 0 10 12 1 11 3 0 1 12345678 : ring metal=gold")
	refuses(t, poor, api.ErrNone, "take ada 1 10 12 1 11 3 0 1 12345678 : ring metal=gold")
}

// P11.2: bags are numbered like pledges: there are 32 of them, and 64 carries
func TestManyPledges(t *testing.T) {
	c := begin(t, wide())
	taking := func(i int) string {
		return fmt.Sprintf("take n%d 1 10 12 %d %d 3 0 1 12345678 : ring metal=gold", i, 1+i%3, i+1)
	}
	for i := range 32 {
		does(t, c, taking(i))
		if l := c.Carries(); l[i].Bag != i {
			t.Fatalf("the bag of the pledge %d: %v", i, l[i])
		}
	}
	refuses(t, c, api.ErrCarry, taking(32))
	for range 31 {
		does(t, c, "check n0 1 0 1")
	}
	does(t, c, "open n31 99 1 0")
	refuses(t, c, api.ErrCarry, "check n0 1 0 1", "move n0 2 0 1", "redeem "+first+" "+fits+" 0 1")
	if len(c.Carries()) != 64 {
		t.Errorf("%d carries", len(c.Carries()))
	}
}

// P11.2: where the code of a pledge is named, its errors come first
func TestCodes(t *testing.T) {
	c := begin(t, shop())
	does(t, c, ring("ada", 1), ring("bob", 2), "redeem "+first+" "+fits+" 0 1", "block "+second, "day 805", "replace "+second+" 87654321")
	for code, e := range map[string]api.Errno{
		"ada": api.ErrForm, ":": api.ErrForm, "1": api.ErrForm, "000000019": api.ErrForm, "00000001955": api.ErrForm, "000000019?": api.ErrForm,
		"0000000196": api.ErrCheck, "0000000000": api.ErrCheck, "0000000098": api.ErrCheck,
		"0000000486": api.ErrNone, "9999999952": api.ErrNone,
		first: api.ErrSpent, second: api.ErrSpent,
	} {
		for _, line := range []string{"pay CODE 0", "renew CODE", "rest CODE 0", "redeem CODE 87654321 0 0", "block CODE", "free CODE 87654321", "replace CODE 12345678", "sell 99999999 0 0 CODE :", "owe CODE"} {
			refuses(t, c, e, strings.Replace(line, "CODE", code, 1))
		}
	}
	says(t, c, "owe "+third, "100 3 5")
	does(t, c, "redeem "+third+" 87654321 0 1")
	refuses(t, c, api.ErrSpent, "owe "+third)
}

// P11.2: acts, and what was paid by them
func TestActs(t *testing.T) {
	c := begin(t, shop())
	does(t, c, "take ada 1000 10 12 1 11 3 0 1 12345678 : ring metal=gold")
	refuses(t, c, api.ErrActs, "pay "+first+" 0", "pay "+first+" 1073741825", "rest "+first+" 0", "rest "+first+" 367")
	refuses(t, c, api.ErrFull, "pay "+first+" 406", "pay "+first+" 1073741824")
	says(t, c, "rest "+first+" 1", "")
	refuses(t, c, api.ErrHold, "rest "+first+" 1")
	does(t, c, "day 805")
	// The day 801 is held, and two days are free: for 804 and 805, 8.12 are charged.
	says(t, c, "owe "+first, "406 8 4")
	says(t, c, "pay "+first+" 5", "406")
	says(t, c, "owe "+first, "406 3 4")
	says(t, c, "pay "+first+" 103", "306")
	says(t, c, "cash", "702 0 0")
	does(t, c, "day 807")
	// 6.12 more, and the fee of 5: 19.24 are charged, of which 8 were paid. With another fee it would be more than the law allows, which is 22.36.
	says(t, c, "renew "+first, "11")
	says(t, c, "owe "+first, "306 0 0")
	says(t, c, "renew "+first, "3")
	says(t, c, "cash", "716 0 0")
	does(t, c, "day 808")
	says(t, c, "redeem "+first+" 12345678 0 1", "ada 309")
	says(t, c, "cash", "1025 0 0")
	want := []api.Act{{Day: 800, Kind: api.ActHold, N: 1}, {Day: 805, Kind: api.ActPay, N: 5}, {Day: 805, Kind: api.ActPay, N: 103}, {Day: 807, Kind: api.ActRenew}, {Day: 807, Kind: api.ActRenew}, {Day: 808, Kind: api.ActRedeem}}
	if l := c.Pawns()[0].Acts; !slices.Equal(l, want) {
		t.Errorf("Acts: %v", l)
	}
	if l := c.Carries(); len(l) != 2 || l[1] != (api.Carry{Day: 808, Kind: api.CarryOut, Bag: 0, By: 0, With: 1}) {
		t.Errorf("Carries: %v", l)
	}
	if l := c.Tickets(); len(l) != 1 || l[0].State != api.TicketDone {
		t.Errorf("Tickets: %v", l)
	}
}

// P11.2: a loan whose term and grace are over has no more acts, and one of 32 acts neither
func TestLate(t *testing.T) {
	c := begin(t, shop())
	does(t, c, ring("ada", 1), ring("bob", 2), "day 813")
	does(t, c, "pay "+first+" 1", "day 814")
	says(t, c, "owe "+first, "100 11 14")
	refuses(t, c, api.ErrLate, "pay "+first+" 1", "pay "+first+" 1000000", "renew "+first, "rest "+first+" 1", "redeem "+first+" 87654321 0 0")
	says(t, c, "block "+first, "")
	d := begin(t, shop())
	does(t, d, ring("ada", 1))
	for i := range 32 {
		does(t, d, "pay "+first+" 1")
		says(t, d, "owe "+first, fmt.Sprint(99-i, " 0 0"))
	}
	refuses(t, d, api.ErrActs, "pay "+first+" 1", "renew "+first, "rest "+first+" 1", "redeem "+first+" 12345678 0 1")
}

// P11.2: the errors of redeem, each before those that follow
func TestRedeemErrors(t *testing.T) {
	s := changed(func(s *api.Shop) { s.Strong.Staff = []int{1, 0, 0} })
	c := begin(t, s)
	does(t, c, ring("ada", 1), "list 814 : gold", "block "+first)
	refuses(t, c, api.ErrHeld, "redeem "+first+" "+unfits+" 0 0")
	does(t, c, "day 813")
	refuses(t, c, api.ErrHeld, "redeem "+first+" "+unfits+" 0 0")
	does(t, c, "day 814")
	refuses(t, c, api.ErrLate, "redeem "+first+" "+unfits+" 0 0")
	does(t, c, "list 0 : jewel")
	refuses(t, c, api.ErrHeld, "redeem "+first+" "+unfits+" 0 0")

	d := begin(t, s)
	does(t, d, ring("ada", 1), "list 803 : gold", "block "+first, "day 803")
	refuses(t, d, api.ErrCarry, "redeem "+first+" "+unfits+" 0 0", "redeem "+first+" "+unfits+" 3 0")
	refuses(t, d, api.ErrReach, "redeem "+first+" "+unfits+" 1 2")
	refuses(t, d, api.ErrBlocked, "redeem "+first+" "+unfits+" 0 2", "redeem "+first+" "+fits+" 0 2")
	refuses(t, d, api.ErrFit, "free "+first+" "+unfits)
	does(t, d, "free "+first+" 123?5???")
	refuses(t, d, api.ErrFit, "redeem "+first+" "+unfits+" 0 2", "redeem "+first+" 123????? 0 2", "redeem "+first+" 123456781 0 2")
	says(t, d, "redeem "+first+" 123?5??? 0 2", "ada 101")
	refuses(t, d, api.ErrSpent, "redeem "+first+" "+fits+" 0 2")
}

// P11.2: tickets are blocked, freed and replaced
func TestTickets(t *testing.T) {
	c := begin(t, shop())
	does(t, c, ring("ada", 1))
	refuses(t, c, api.ErrEarly, "free "+first+" "+unfits, "replace "+first+" 87654321")
	says(t, c, "block "+first, "")
	refuses(t, c, api.ErrBlocked, "block "+first)
	does(t, c, "day 804")
	refuses(t, c, api.ErrEarly, "replace "+first+" 87654321")
	says(t, c, "free "+first+" 12345678", "")
	says(t, c, "block "+first, "")
	says(t, c, "pay "+first+" 10", "92")
	does(t, c, "day 808")
	refuses(t, c, api.ErrEarly, "replace "+first+" 87654321")
	does(t, c, "day 809")
	says(t, c, "replace "+first+" 8765432187654321", second)
	refuses(t, c, api.ErrFit, "redeem "+second+" 12345678 0 1")
	says(t, c, "owe "+second, "92 4 9")
	want := []api.Ticket{{Number: 1, Pledge: "ada", State: api.TicketVoid, Edge: []int{1, 2, 3, 4, 5, 6, 7, 8}}, {Number: 2, Pledge: "ada", State: api.TicketLive, Edge: []int{8, 7, 6, 5, 4, 3, 2, 1, 8, 7, 6, 5, 4, 3, 2, 1}, Comes: 1}}
	if l := c.Tickets(); !reflect.DeepEqual(l, want) {
		t.Errorf("Tickets: %v", l)
	}
	says(t, c, "redeem "+second+" 87654321???????? 0 1", "ada 96")
	says(t, c, "where ada", "0")
}
