package clerk_test

import (
	"fmt"
	"math/rand/v2"
	"slices"
	"strings"
	"testing"

	"lombard/api"
	"lombard/clerk"
	"lombard/loan"
	"lombard/ticket"
	"lombard/vault"
)

// play does random lines, and shows each of those that have no error with its answer.
func play(t *testing.T, r *rand.Rand, s api.Shop, lines int, watch func(c *clerk.Clerk, line, answer string)) *clerk.Clerk {
	t.Helper()
	c, x := begin(t, s), newSlow(s)
	for i := range lines {
		line := writer{r, x, i%7 == 6}.line()
		x.do(line)
		if answer, e := c.Do(line); e == api.OK {
			watch(c, line, answer)
		}
	}
	return c
}

// P11.6: a journal leads to the same clerk, who also goes on in the same way
func TestSameClerk(t *testing.T) {
	r := random(3)
	for range 60 {
		s := someShop(r)
		c := play(t, r, s, r.IntN(200), func(*clerk.Clerk, string, string) {})
		d, n, e := clerk.Replay(s, c.Journal())
		if e != api.OK || n != len(c.Journal()) || told(d) != told(c) || hold(d) != hold(c) {
			t.Fatalf("Replay: %d, error %d\n%s\n%s", n, e, told(d), told(c))
		}
		x := newSlow(s)
		x.journal = c.Journal()
		x.again()
		for range 60 {
			line := writer{r, x, false}.line()
			x.do(line)
			a, e := c.Do(line)
			if b, e2 := d.Do(line); a != b || e != e2 || told(c) != told(d) || hold(c) != hold(d) {
				t.Fatalf("%s: %q, error %d, and %q, error %d", line, a, e, b, e2)
			}
		}
	}
}

// P11.7: all money is accounted for
func TestMoney(t *testing.T) {
	r := random(4)
	counts := map[string]int{}
	for range 200 {
		s := someShop(r)
		money, owed := s.Cash, 0
		play(t, r, s, 20+r.IntN(200), func(c *clerk.Clerk, line, answer string) {
			f, l := strings.Fields(line), append(strings.Fields(answer), "", "")
			switch f[0] {
			case "take":
				money -= number(l[1])
			case "pay":
				money += number(f[2])
			case "renew":
				money += number(l[0])
			case "redeem":
				money += number(l[1])
			case "sell":
				money += number(l[1])
				for i := 3; i < len(l)-2; i += 2 {
					owed += number(l[i])
				}
			case "claim":
				money -= number(l[0])
				owed -= number(l[0])
			case "give":
				for _, n := range numbers(t, answer) {
					money -= n
					owed -= n
				}
			}
			counts[f[0]]++
			if c.Cash() != money || money < 0 {
				t.Fatalf("%s: %s: the cash is %d, want %d", line, answer, c.Cash(), money)
			}
			if l := numbers(t, hold(c)); l[0] != money || l[1]+l[2] != owed {
				t.Fatalf("%s: %s: cash says %v, want %d and together %d", line, answer, l, money, owed)
			}
		})
	}
	for _, name := range []string{"take", "pay", "renew", "redeem", "sell", "claim", "give"} {
		if counts[name] < 20 {
			t.Errorf("only %v", counts)
		}
	}
}

// isOpen reports whether a ticket of a pledge is live or blocked.
func isOpen(c *clerk.Clerk, name string) bool {
	return slices.ContainsFunc(c.Tickets(), func(t api.Ticket) bool {
		return t.Pledge == name && (t.State == api.TicketLive || t.State == api.TicketBlocked)
	})
}

// reached checks that two people reach a room.
func reached(t *testing.T, s api.Shop, x api.Carry, room int) {
	t.Helper()
	rooms, e := vault.Enter(s.Strong, 1<<x.By|1<<x.With)
	if e != api.OK || x.By == x.With || rooms>>room&1 == 0 {
		t.Errorf("%v: they do not reach the room %d", x, room)
	}
}

// P11.8: a bag is in a room as long as a ticket of its pledge is live or blocked; who carries it reaches that room
func TestPlaces(t *testing.T) {
	r := random(5)
	counts := map[string]int{}
	for range 250 {
		s := someShop(r)
		rooms, done := map[string]int{}, 0
		play(t, r, s, 20+r.IntN(200), func(c *clerk.Clerk, line, _ string) {
			names := c.Pawns()
			for _, x := range c.Carries()[done:] {
				if x.Kind == api.CarryIn || x.Kind == api.CarryMove {
					reached(t, s, x, x.To)
				}
				if x.Kind != api.CarryIn {
					reached(t, s, x, rooms[names[x.Bag].Name])
				}
				done++
			}
			for _, p := range names {
				room := number(does(t, c, "where "+p.Name))
				if open := isOpen(c, p.Name); open != (room != 0) {
					t.Fatalf("%s: the bag of %s is in the room %d", line, p.Name, room)
				}
				if rooms[p.Name] != 0 && room == 0 {
					counts[nameOf(line)]++
				}
				rooms[p.Name] = room
			}
		})
	}
	if counts["redeem"] < 40 || counts["sell"] < 40 || len(counts) != 2 {
		t.Errorf("bags left with %v", counts)
	}
}

// P11.9: a pledge is redeemed once, by a half that fits, never while it is held, nor after it was sold
func TestOnce(t *testing.T) {
	r := random(6)
	counts := map[string]int{}
	for range 300 {
		over := map[string]bool{}
		play(t, r, someShop(r), 20+r.IntN(200), func(c *clerk.Clerk, line, answer string) {
			f, l := strings.Fields(line), strings.Fields(answer)
			var names []string
			switch f[0] {
			case "redeem":
				names = l[:1]
				n, e := ticket.Number(f[1])
				errs(t, "Number", e, api.OK)
				half := digitsOf(f[2])
				known := 0
				for i, digit := range c.Tickets()[n-1].Edge {
					if half[i] >= 0 {
						known++
					}
					if half[i] >= 0 && half[i] != digit {
						t.Fatalf("%s: the half does not fit", line)
					}
				}
				if known < 4 || len(half) != len(c.Tickets()[n-1].Edge) {
					t.Fatalf("%s: the half does not fit", line)
				}
			case "sell":
				for i := 2; i < len(l); i += 2 {
					names = append(names, l[i])
				}
			}
			for _, name := range names {
				counts[f[0]]++
				if over[name] || does(t, c, "holds "+name) != "" {
					t.Fatalf("%s: %s is over, or held", line, name)
				}
				over[name] = true
			}
		})
	}
	if counts["redeem"] < 40 || counts["sell"] < 40 {
		t.Errorf("only %v", counts)
	}
}

// P11.10: pledges of the same class and weight are lent the same, whatever they are called, however they look, and whoever brings and carries them; also by another clerk, on the same day and with the same metal
func TestEqual(t *testing.T) {
	r := random(7)
	sums := map[string]bool{}
	for range 200 {
		s := someShop(r)
		s.Cash, s.Strong = 1<<30, wide().Strong
		c, d := begin(t, s), begin(t, s)
		day, metal := fmt.Sprint("day ", 800+r.IntN(900)), fmt.Sprint("metal ", r.IntN(300))
		class := [][]string{{"ring metal=gold", "ring metal=silver size=large ( gem ; gem cut=oval )", "ring metal=silver"}, {"gem", "gem cut=round", "gem cut=oval"}}[r.IntN(2)]
		min := r.IntN(100)
		weight := fmt.Sprint(1+r.IntN(6000), " ", min, " ", min+r.IntN(40))
		taking := func(name string) string {
			by := r.IntN(2)
			return fmt.Sprint("take ", name, " ", weight, " ", 1+r.IntN(3), " ", 1+r.IntN(999999), " 15 ", by, " ", 1-by, " ", 12345678+r.IntN(9999999), " : ", class[r.IntN(3)])
		}
		c.Do("take x 1 1 1 1 999999 15 0 1 12345678 : ring metal=gold") // if there are enough sales of rings
		does(t, c, day, metal)
		does(t, d, "list 0 : platinum", metal, day)
		var want string
		for i, x := range []*clerk.Clerk{c, c, d, c, d} {
			answer, e := x.Do(taking(fmt.Sprint("n", i)))
			_, sum, _ := strings.Cut(answer, " ")
			if e != api.OK {
				sum = fmt.Sprint("error ", e)
			}
			if i == 0 {
				want = sum
			}
			if sum != want && e != api.ErrSeal {
				t.Fatalf("%s is lent %s, and %s before", weight, sum, want)
			}
			sums[sum] = true
		}
	}
	if len(sums) < 50 {
		t.Errorf("only %d sums", len(sums))
	}
}

// P11.11: what is charged, and what a pledger pays besides the loan, is never more than the law allows
func TestLaw(t *testing.T) {
	r := random(8)
	reaches := 0
	for range 150 {
		paid := map[string]int{}
		play(t, r, someShop(r), 20+r.IntN(200), func(c *clerk.Clerk, line, answer string) {
			f, l := strings.Fields(line), append(strings.Fields(answer), "", "")
			name := ""
			if n, e := ticket.Number(append(f, "")[1]); e == api.OK {
				name = c.Tickets()[n-1].Pledge
			}
			switch f[0] {
			case "pay":
				paid[name] += number(f[2])
			case "renew":
				paid[name] += number(l[0])
			case "redeem":
				paid[name] += number(l[1])
			}
			for _, p := range c.Pawns() {
				legal, e := loan.Legal(p.Deal, p.Acts, c.Day())
				x, e2 := loan.Owe(p.Deal, p.Acts, c.Day())
				if e != api.OK || e2 != api.OK || x.Charged > legal || paid[p.Name] != p.Deal.Sum-x.Principal+x.Paid {
					t.Fatalf("%s: of %v %d is paid, %v, and %d allowed", line, p, paid[p.Name], x, legal)
				}
				if paid[p.Name] > p.Deal.Sum+legal {
					t.Fatalf("%s: for %v %d is paid, and %d more than that allowed", line, p, paid[p.Name], legal)
				}
				if x.Charged == legal && legal > 0 {
					reaches++
				}
			}
		})
	}
	if reaches < 100 {
		t.Errorf("only %d charges that are as great as the law allows", reaches)
	}
}
