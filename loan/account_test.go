package loan_test

import (
	"slices"
	"testing"

	"lombard/api"
	"lombard/loan"
)

// P2.5: the examples, and what is paid, renewed, held and redeemed
func TestOwe(t *testing.T) {
	for _, x := range []struct {
		l    []api.Act
		day  int
		want api.Account
	}{
		{nil, 100, api.Account{Principal: 100000, Open: true}},
		{nil, 101, api.Account{Principal: 100000, Age: 1, Open: true}},
		{nil, 102, api.Account{Principal: 100000, Age: 2, Open: true}},
		{nil, 103, api.Account{Principal: 100000, Age: 2, Open: true}},
		{nil, 105, api.Account{Principal: 100000, Charged: 50, Age: 3, Open: true}},
		{nil, 112, api.Account{Principal: 100000, Charged: 400, Age: 10, Open: true}},
		{nil, 115, api.Account{Principal: 100000, Charged: 550, Age: 13, Open: true}},
		{nil, 116, api.Account{Principal: 100000, Charged: 600, Age: 14, Open: true}}, // too late for an act
		{nil, 603, api.Account{Principal: 100000, Charged: 24950, Age: 501, Open: true}},
		{nil, 605, api.Account{Principal: 100000, Charged: 25000, Age: 503, Open: true}}, // a quarter is the most
		{nil, 36500, api.Account{Principal: 100000, Charged: 25000, Age: 36398, Open: true}},
		{acts(renew(105)), 105, api.Account{Principal: 100000, Charged: 100, Paid: 100, Open: true}},
		{acts(renew(105)), 112, api.Account{Principal: 100000, Charged: 450, Paid: 100, Age: 7, Open: true}},
		{acts(renew(103)), 105, api.Account{Principal: 100000, Charged: 100, Paid: 50, Age: 1, Open: true}},
		{acts(renew(105), renew(105)), 105, api.Account{Principal: 100000, Charged: 150, Paid: 150, Open: true}},
		{acts(renew(100)), 100, api.Account{Principal: 100000, Open: true}}, // the law allows nothing yet
		{acts(renew(100)), 101, api.Account{Principal: 100000, Charged: 50, Age: 1, Open: true}},
		{acts(pay(105, 20050)), 105, api.Account{Principal: 80000, Charged: 50, Paid: 50, Age: 3, Open: true}},
		{acts(pay(105, 20050)), 106, api.Account{Principal: 80000, Charged: 90, Paid: 50, Age: 4, Open: true}},
		{acts(pay(105, 20050)), 112, api.Account{Principal: 80000, Charged: 330, Paid: 50, Age: 10, Open: true}},
		{acts(pay(105, 50)), 112, api.Account{Principal: 100000, Charged: 400, Paid: 50, Age: 10, Open: true}},
		{acts(pay(105, 49)), 112, api.Account{Principal: 100000, Charged: 400, Paid: 49, Age: 10, Open: true}},
		{acts(pay(105, 100049)), 112, api.Account{Principal: 1, Charged: 50, Paid: 50, Age: 10, Open: true}},
		{acts(pay(100, 99999)), 115, api.Account{Principal: 1, Age: 13, Open: true}},
		{acts(hold(105, 5)), 110, api.Account{Principal: 100000, Charged: 50, Age: 3, Open: true}},
		{acts(hold(105, 5)), 111, api.Account{Principal: 100000, Charged: 100, Age: 4, Open: true}},
		{acts(hold(105, 5)), 112, api.Account{Principal: 100000, Charged: 150, Age: 5, Open: true}},
		{acts(hold(102, 1)), 105, api.Account{Principal: 100000, Charged: 50, Age: 3, Open: true}}, // held while it is closed
		{acts(hold(101, 2)), 105, api.Account{Principal: 100000, Age: 2, Open: true}},
		{acts(hold(105, 5), pay(107, 20000), renew(109)), 111, api.Account{Principal: 80050, Charged: 140, Paid: 100, Age: 1, Open: true}},
		{acts(hold(100, 366)), 466, api.Account{Principal: 100000, Open: true}},
		{acts(redeem(112)), 112, api.Account{Charged: 400, Paid: 400, Age: 10}},
		{acts(redeem(112)), 36500, api.Account{Charged: 400, Paid: 400, Age: 10}},
		{acts(redeem(100)), 200, api.Account{}},
		{acts(hold(105, 9), redeem(107)), 300, api.Account{Charged: 50, Paid: 50, Age: 3}},
		{acts(renew(105), pay(106, 50), redeem(107)), 300, api.Account{Charged: 200, Paid: 200, Age: 2}},
	} {
		if a, e := loan.Owe(deal(), x.l, x.day); a != x.want || e != api.OK {
			t.Errorf("Owe(%v, %d): %v, %d, want %v", x.l, x.day, a, e, x.want)
		}
	}
}

// P2.5: principals are added up, and divided once
func TestDividedOnce(t *testing.T) {
	d := api.Deal{Law: api.Law{Rate: 3000, Cap: 64}, Tariff: api.Tariff{Rate: 2000, Free: 1, Term: 100}, Sum: 600}
	for day, want := range []struct{ charged, legal int }{{0, 0}, {0, 1}, {1, 3}, {2, 5}, {3, 7}, {4, 9}, {6, 10}} { // 1.2 and 1.8 each day
		a := owed(t, d, nil, day)
		n, e := loan.Legal(d, nil, day)
		if a.Charged != want.charged || n != want.legal || e != api.OK {
			t.Errorf("on the day %d: %v; legal %d, %d", day, a, n, e)
		}
	}
	// the least of the three numbers, of which each may be the least one
	d = api.Deal{Law: api.Law{Rate: 100, Cap: 1}, Tariff: api.Tariff{Rate: 300, Free: 2, Fee: 7, Term: 366}, Sum: 100000}
	for day, want := range map[int]int{2: 0, 3: 30, 4: 40, 100: 1000, 156: 1560, 157: 1562, 300: 1562} {
		if a := owed(t, d, nil, day); a.Charged != want {
			t.Errorf("on the day %d: %v, want %d", day, a, want)
		}
	}
	d.Law.Rate = 10000
	for day, want := range map[int]int{2: 0, 3: 30, 4: 60, 54: 1560, 55: 1562, 300: 1562} {
		if a := owed(t, d, nil, day); a.Charged != want {
			t.Errorf("on the day %d, with a greater rate: %v, want %d", day, a, want)
		}
	}
	great := api.Deal{Law: api.Law{Rate: 10000, Cap: 64}, Tariff: api.Tariff{Rate: 10000, Term: 1}, Sum: 1 << 30}
	if a := owed(t, great, nil, 36500); a.Charged != 1<<30 || a.Age != 36500 {
		t.Errorf("the greatest deal: %v", a)
	}
}

// P2.4: what is refused, and the first one of it
func TestRefused(t *testing.T) {
	for i, x := range []struct {
		l  []api.Act
		at int
		e  api.Errno
	}{
		{nil, 0, api.OK},
		{acts(renew(115)), 1, api.OK}, {acts(renew(116)), 0, api.ErrLate}, {acts(redeem(115)), 1, api.OK}, {acts(redeem(116)), 0, api.ErrLate}, {acts(pay(115, 1)), 1, api.OK}, {acts(pay(116, 1)), 0, api.ErrLate}, {acts(hold(115, 1)), 1, api.OK}, {acts(hold(116, 1)), 0, api.ErrLate},
		{acts(pay(116, 1<<30)), 0, api.ErrLate}, {acts(hold(115, 3), hold(116, 3)), 1, api.ErrHold}, {acts(hold(115, 3), hold(118, 1), redeem(119)), 3, api.OK}, {acts(hold(115, 3), redeem(119)), 1, api.ErrLate},
		{acts(renew(101), renew(116)), 2, api.OK}, {acts(renew(101), renew(117)), 1, api.ErrLate}, {acts(renew(115), renew(128), renew(141), redeem(155)), 3, api.ErrLate}, {acts(renew(115), renew(128), renew(141), redeem(154)), 4, api.OK},
		{acts(pay(115, 1), pay(116, 1)), 1, api.ErrLate}, // a payment does not begin the term anew
		{acts(pay(105, 100049)), 1, api.OK}, {acts(pay(105, 100050)), 0, api.ErrFull}, {acts(pay(105, 100051)), 0, api.ErrFull}, {acts(pay(100, 99999)), 1, api.OK}, {acts(pay(100, 100000)), 0, api.ErrFull},
		{acts(pay(105, 99999), pay(105, 50)), 2, api.OK}, {acts(pay(105, 99999), pay(105, 51)), 1, api.ErrFull}, {acts(pay(105, 99999), pay(105, 50), pay(105, 1)), 2, api.ErrFull},
		{acts(renew(105), pay(105, 99999)), 2, api.OK}, {acts(renew(105), pay(105, 100000)), 1, api.ErrFull},
		{acts(hold(101, 3), hold(101, 1)), 1, api.ErrHold}, {acts(hold(101, 3), hold(103, 1)), 1, api.ErrHold}, {acts(hold(101, 3), hold(104, 1)), 2, api.OK}, {acts(hold(101, 1), hold(102, 1), hold(103, 1)), 3, api.OK}, {acts(hold(102, 1), renew(102), hold(102, 1)), 2, api.ErrHold},
		{acts(renew(101), pay(102, 200000), renew(500)), 1, api.ErrFull},
	} {
		if _, at, e := ran(t, deal(), x.l); at != x.at || e != x.e {
			t.Errorf("Run %d of %v: %d, error %d, want %d, %d", i, x.l, at, e, x.at, x.e)
		}
		for _, day := range []int{0, 90, 37000} {
			want := x.e
			if want == api.OK {
				want = api.ErrRange
			}
			a, e := loan.Owe(deal(), x.l, day)
			n, f := loan.Legal(deal(), x.l, day)
			if e != want || f != want || a != (api.Account{}) || n != 0 {
				t.Errorf("Owe %d on the day %d: %v, %d; Legal: %d, %d", i, day, a, e, n, f)
			}
		}
	}
}

// P2.4: the account after each act
func TestRun(t *testing.T) {
	out, at, e := loan.Run(deal(), acts(renew(105), pay(105, 20000), pay(107, 30), hold(108, 3), pay(112, 60), redeem(114)))
	want := []api.Account{
		{Principal: 100000, Charged: 100, Paid: 100, Age: 0, Open: true},
		{Principal: 80000, Charged: 100, Paid: 100, Age: 0, Open: true},
		{Principal: 80000, Charged: 180, Paid: 130, Age: 2, Open: true},
		{Principal: 80000, Charged: 220, Paid: 130, Age: 3, Open: true},
		{Principal: 80000, Charged: 260, Paid: 190, Age: 4, Open: true},
		{Principal: 0, Charged: 340, Paid: 340, Age: 6},
	}
	if !slices.Equal(out, want) || at != 6 || e != api.OK {
		t.Errorf("Run: %v, %d, %d", out, at, e)
	}
}

// P2.5: the days on which it can be asked
func TestOweRange(t *testing.T) {
	late := deal()
	late.Start = 36500
	for _, x := range []struct {
		d           api.Deal
		l           []api.Act
		least, most int
	}{
		{deal(), nil, 100, 36500}, {deal(), acts(renew(100)), 100, 36500}, {deal(), acts(renew(101), pay(107, 1)), 107, 36500}, {deal(), acts(hold(105, 20)), 105, 36500}, {deal(), acts(redeem(112)), 112, 36500}, {late, nil, 36500, 36500}, {late, acts(renew(36500), redeem(36500)), 36500, 36500},
	} {
		for _, day := range []int{x.least, x.most} {
			owed(t, x.d, x.l, day)
			_, e := loan.Legal(x.d, x.l, day)
			errs(t, "Legal", e, api.OK)
		}
		for _, day := range beyond(x.least, x.most) {
			a, e := loan.Owe(x.d, x.l, day)
			n, f := loan.Legal(x.d, x.l, day)
			if e != api.ErrRange || f != api.ErrRange || a != (api.Account{}) || n != 0 {
				t.Errorf("Owe(%v, %d): %v, %d; Legal: %d, %d", x.l, day, a, e, n, f)
			}
		}
	}
}

// P2.5: what the law allows, of which nothing is left out for days without interest
func TestLegal(t *testing.T) {
	for _, x := range []struct {
		l         []api.Act
		day, want int
	}{
		{nil, 100, 0}, {nil, 101, 100}, {nil, 105, 300}, {nil, 351, 24900}, {nil, 352, 25000}, {nil, 353, 25000}, {nil, 36500, 25000},
		{acts(renew(105)), 112, 1000}, {acts(pay(105, 20050)), 112, 860}, {acts(hold(105, 5)), 112, 500}, {acts(redeem(112)), 500, 1000}, {acts(redeem(100)), 500, 0},
	} {
		if n, e := loan.Legal(deal(), x.l, x.day); n != x.want || e != api.OK {
			t.Errorf("Legal(%v, %d): %d, %d, want %d", x.l, x.day, n, e, x.want)
		}
	}
}

// P2.4, P2.5: as what counts all days anew
func TestAccountsSlowly(t *testing.T) {
	r := random(5)
	seen := map[api.Errno]int{}
	for range 20000 {
		d := someDeal(r)
		l := someActs(r, d, api.ActPay, api.ActPay, api.ActRenew, api.ActRenew, api.ActHold, api.ActRedeem)
		s := newSlow(d)
		var want []api.Account
		wrong := api.OK
		for _, a := range l {
			if wrong = s.do(a); wrong != api.OK {
				break
			}
			want = append(want, s.account(a.Day))
		}
		seen[wrong]++
		out, at, e := ran(t, d, l)
		if e != wrong || at != len(want) || e == api.OK && !slices.Equal(out, want) {
			t.Fatalf("Run(%v, %v): %v, %d, %d; want %v, %d", d, l, out, at, e, want, wrong)
		}
		if e != api.OK {
			continue
		}
		day := d.Start
		if len(l) > 0 {
			day = l[len(l)-1].Day
		}
		for range 3 {
			day += r.IntN(15)
			s.come(day)
			law := s.numbers(day)
			n, e := loan.Legal(d, l, day)
			if a := owed(t, d, l, day); a != s.account(day) || n != min(law[1], law[2]) || e != api.OK {
				t.Fatalf("Owe(%v, %v, %d): %v, want %v; Legal: %d, want %v", d, l, day, a, s.account(day), n, law)
			}
		}
	}
	for _, e := range []api.Errno{api.OK, api.ErrLate, api.ErrFull, api.ErrHold} {
		if seen[e] < 200 {
			t.Errorf("only %d lists of acts with the error %d", seen[e], e)
		}
	}
}
