package wanted_test

import (
	"testing"

	"lombard/api"
	"lombard/wanted"
)

// settles checks what Settle returns.
func settles(t *testing.T, c api.Claim, claimant, pledger int) {
	t.Helper()
	if a, b, e := wanted.Settle(c); a != claimant || b != pledger || e != api.OK {
		t.Errorf("Settle(%v): %d, %d, error %d, want %d, %d", c, a, b, e, claimant, pledger)
	}
}

// P5.6: the examples of the document, and what is rounded down
func TestSettle(t *testing.T) {
	claim := func(loan, share int) api.Claim { return api.Claim{Loan: loan, Lent: 5, Listed: 6, Share: share} }
	settles(t, claim(1000, 16), 250, 750)
	settles(t, api.Claim{Loan: 1000, Lent: 5, Listed: 5, Share: 16}, 0, 1000)
	settles(t, claim(1000, 0), 0, 1000)
	settles(t, claim(1000, 64), 1000, 0)
	settles(t, claim(1000, 63), 984, 16)
	settles(t, claim(0, 64), 0, 0)
	settles(t, claim(1, 63), 0, 1)
	settles(t, claim(1, 64), 1, 0)
	settles(t, claim(63, 1), 0, 63)
	settles(t, claim(64, 1), 1, 63)
	settles(t, claim(127, 1), 1, 126)
	settles(t, claim(1<<30, 64), 1<<30, 0)
	settles(t, claim(1<<30, 63), 63<<24, 1<<24)
	settles(t, claim(1<<30-1, 63), 63<<24-1, 1<<24)
}

// P5.6, P5.12: on which days the shop could have known
func TestSettleDays(t *testing.T) {
	for _, lent := range []int{0, 1, 2, 100, 36499, 36500} {
		for _, listed := range []int{0, 1, 2, 3, 99, 100, 101, 36498, 36499, 36500} {
			want := 0
			if listed > lent {
				want = 250
			}
			settles(t, api.Claim{Loan: 1000, Lent: lent, Listed: listed, Share: 16}, want, 1000-want)
		}
	}
}

// P5.6: what is no claim
func TestWrongClaims(t *testing.T) {
	for _, x := range []struct {
		name  string
		most  int
		field func(c *api.Claim) *int
	}{
		{"Loan", 1 << 30, func(c *api.Claim) *int { return &c.Loan }},
		{"Lent", 36500, func(c *api.Claim) *int { return &c.Lent }},
		{"Listed", 36500, func(c *api.Claim) *int { return &c.Listed }},
		{"Share", 64, func(c *api.Claim) *int { return &c.Share }},
	} {
		for _, listed := range []int{5, 6} {
			c := api.Claim{Loan: 1000, Lent: 5, Listed: listed, Share: 16}
			for _, n := range beyond(0, x.most) {
				*x.field(&c) = n
				if a, b, e := wanted.Settle(c); a != 0 || b != 0 || e != api.ErrClaim {
					t.Errorf("Settle with the %s %d: %d, %d, error %d", x.name, n, a, b, e)
				}
			}
			for _, n := range []int{0, x.most} {
				*x.field(&c) = n
				_, _, e := wanted.Settle(c)
				errs(t, x.name, e, api.OK)
			}
		}
	}
}

// P5.12: both together are the loan; who was on the list pays nothing; a greater share is never less to pay
func TestSettleSums(t *testing.T) {
	r := random(8)
	for range 3000 {
		c := api.Claim{Loan: r.IntN(1<<r.IntN(31) + 1), Lent: r.IntN(10), Listed: r.IntN(10)}
		before := 0
		for c.Share = range api.Shares + 1 {
			a, b, e := wanted.Settle(c)
			if a+b != c.Loan || a < before || b < 0 || c.Listed <= c.Lent && a != 0 || c.Listed > c.Lent && (64*a > c.Loan*c.Share || 64*(a+1) <= c.Loan*c.Share) || e != api.OK {
				t.Fatalf("Settle(%v): %d, %d, error %d", c, a, b, e)
			}
			before = a
		}
	}
}
