package vault_test

import (
	"slices"
	"testing"

	"lombard/api"
	"lombard/vault"
)

// hoard is a strongroom whose room 1 anybody reaches, 2 anybody with the key 0, 3 only three people; room 4 holds nothing.
func hoard() api.Strong {
	return api.Strong{
		Rooms: []api.Chamber{{Hold: 5}, {Hold: 3}, {Hold: 2, Climate: 1}, {Hold: 16}, {Climate: 3}, {Hold: 16, Climate: 3}},
		Gates: []api.Gate{gate(0, 1, 1, 0), gate(1, 2, 1, 1), gate(0, 3, 3, 0), gate(0, 4, 2, 0), gate(5, 0, 2, 0)},
		Staff: []int{1, 2, 4, 2},
	}
}

// P4.5: the examples of the document
func TestPlayExamples(t *testing.T) {
	bags := played(t, strong(), log())
	for i, b := range bags {
		want := api.Bag{}
		if i == 7 {
			want = api.Bag{Room: 2, Seal: 10, Suits: 3, By: 0, With: 1}
		}
		if b != want {
			t.Errorf("the bag %d: %v, want %v", i, b, want)
		}
	}
	l := log()
	l[2].Seal = 11
	refused(t, strong(), l, 2, api.ErrSeal)
	for day, want := range map[int]int{0: 0, 4: 0, 5: 1, 6: 2, 7: 2, 8: 2, api.MaxDay: 2} {
		if room, e := vault.Where(strong(), log(), 7, day); room != want || e != api.OK {
			t.Errorf("Where on the day %d: %d, error %d", day, room, e)
		}
	}
	for n, want := range [][]int{1: {1, 4}, 2: {1, 4}, 3: {3, 5, 6}} {
		if set, e := vault.Suspects(strong(), log()[:n], 7); n > 0 && (!slices.Equal(set, want) || e != api.OK) {
			t.Errorf("Suspects after %d carries: %v, error %d", n, set, e)
		}
	}
}

// number is a number of a carry after those of TestCarryNumbers, and from what to what it may be.
type number struct {
	name        string
	c           carry
	field       func(c *carry) *int
	least, most int
}

func numbers() []number {
	return []number{
		{"day", in(5, 9, 1, 20, 15), func(c *carry) *int { return &c.Day }, 5, api.MaxDay},
		{"By", in(5, 9, 1, 20, 15), func(c *carry) *int { return &c.By }, 0, 3},
		{"With", in(5, 9, 1, 20, 15), func(c *carry) *int { return &c.With }, 0, 3},
		{"In: bag", in(5, 9, 1, 20, 15), func(c *carry) *int { return &c.Bag }, 0, 31},
		{"In: room", in(5, 9, 1, 20, 15), func(c *carry) *int { return &c.To }, 1, 5},
		{"In: seal", in(5, 9, 1, 20, 15), func(c *carry) *int { return &c.Seal }, 1, 999999},
		{"In: suits", in(5, 9, 1, 20, 15), func(c *carry) *int { return &c.Suits }, 1, 15},
		{"Move: bag", move(5, 7, 2), func(c *carry) *int { return &c.Bag }, 0, 31},
		{"Move: room", move(5, 7, 2), func(c *carry) *int { return &c.To }, 1, 5},
		{"Move: seal", move(5, 7, 2), func(c *carry) *int { return &c.Seal }, 0, 0},
		{"Move: suits", move(5, 7, 2), func(c *carry) *int { return &c.Suits }, 0, 0},
		{"Check: bag", check(5, 7, 10), func(c *carry) *int { return &c.Bag }, 0, 31},
		{"Check: room", check(5, 7, 10), func(c *carry) *int { return &c.To }, 0, 0},
		{"Check: seal", check(5, 7, 10), func(c *carry) *int { return &c.Seal }, 1, 999999},
		{"Check: suits", check(5, 7, 10), func(c *carry) *int { return &c.Suits }, 0, 0},
		{"Open: bag", open(5, 7, 20), func(c *carry) *int { return &c.Bag }, 0, 31},
		{"Open: room", open(5, 7, 20), func(c *carry) *int { return &c.To }, 0, 0},
		{"Open: seal", open(5, 7, 20), func(c *carry) *int { return &c.Seal }, 1, 999999},
		{"Open: suits", open(5, 7, 20), func(c *carry) *int { return &c.Suits }, 0, 0},
		{"Out: bag", out(5, 7), func(c *carry) *int { return &c.Bag }, 0, 31},
		{"Out: room", out(5, 7), func(c *carry) *int { return &c.To }, 0, 0},
		{"Out: seal", out(5, 7), func(c *carry) *int { return &c.Seal }, 0, 0},
		{"Out: suits", out(5, 7), func(c *carry) *int { return &c.Suits }, 0, 0},
		{"kind", out(5, 7), func(c *carry) *int { return &c.Kind }, 5, 5},
	}
}

// P4.5: what each number of a carry may be
func TestCarryNumbers(t *testing.T) {
	l := after(nil, in(5, 7, 1, 10, 15), in(5, 8, 1, 12, 15))
	for _, x := range numbers() {
		try := func(n int) []api.Carry {
			c := x.c
			*x.field(&c) = n
			if c.By == c.With {
				c.By, c.With = c.With, (c.With+1)%4
			}
			return after(l, c)
		}
		some := []int{x.most} // and the first ones; all would be many
		for n := x.least; n < min(x.most, x.least+40); n++ {
			some = append(some, n)
		}
		for _, n := range some {
			if _, at, e := vault.Play(hoard(), try(n)); e == api.ErrCarry || at < 2 {
				t.Errorf("%s %d: %d, error %d", x.name, n, at, e)
			}
		}
		for _, n := range beyond(x.least, x.most) {
			c := x.c
			*x.field(&c) = n
			refused(t, hoard(), after(l, c), 0, api.ErrCarry)
			refused(t, hoard(), after(after(l, c), move(api.MaxDay, 7, 2)), 0, api.ErrCarry)
		}
	}
}

// P4.5: only the kinds that there are; two people; days that do not decrease; at most 64
func TestCarries(t *testing.T) {
	for _, kind := range append(beyond(1, 5), 7, 64) {
		for _, c := range []carry{in(5, 7, 1, 20, 15), move(5, 7, 2), check(5, 7, 10), out(5, 7)} {
			c.Kind = kind
			refused(t, hoard(), carries(c), 0, api.ErrCarry)
		}
	}
	for n := range 4 {
		refused(t, hoard(), carries(in(5, 7, 1, 20, 15).by(n, n)), 0, api.ErrCarry)
	}
	refused(t, hoard(), carries(in(-1, 7, 1, 20, 15)), 0, api.ErrCarry)
	refused(t, hoard(), carries(in(5, 7, 1, 20, 15), out(4, 7)), 0, api.ErrCarry)
	refused(t, hoard(), carries(out(9, 7), in(5, 7, 1, 20, 15), out(4, 7)), 0, api.ErrCarry) // though the first one is refused, too
	played(t, hoard(), carries(in(0, 7, 1, 20, 15), out(api.MaxDay, 7)))
	played(t, hoard(), carries(in(api.MaxDay, 7, 1, 20, 15), out(api.MaxDay, 7)))
	l := carries(in(0, 7, 1, 20, 15))
	for len(l) < api.MaxCarries {
		l = after(l, check(0, 7, 20))
	}
	played(t, hoard(), l)
	refused(t, hoard(), after(l, check(0, 7, 20)), 0, api.ErrCarry)
	refused(t, hoard(), slices.Repeat(carries(out(0, 7)), 65), 0, api.ErrCarry)
	refused(t, hoard(), slices.Repeat(carries(out(0, 7)), 64), 0, api.ErrBag)
	played(t, hoard(), nil)
	one := api.Strong{Rooms: make([]api.Chamber, 1), Staff: []int{0, 0}}
	refused(t, one, carries(in(0, 7, 1, 20, 15)), 0, api.ErrCarry) // there is no room but the hall
}

// P4.5: what each kind of carries does to its bag, and to no other
func TestKinds(t *testing.T) {
	l := carries(in(5, 0, 1, 10, 11).by(3, 2), in(5, 31, 1, 11, 3))
	want := [api.MaxBags]api.Bag{0: {Room: 1, Seal: 10, Suits: 11, By: 3, With: 2}, 31: {Room: 1, Seal: 11, Suits: 3, With: 1}}
	for _, x := range []struct {
		c    carry
		want api.Bag
	}{
		{move(6, 0, 2).by(0, 3), api.Bag{Room: 2, Seal: 10, Suits: 11, By: 0, With: 3}},
		{check(6, 0, 10).by(3, 0), api.Bag{Room: 2, Seal: 10, Suits: 11, By: 3, With: 0}},
		{open(7, 0, 999999).by(0, 2), api.Bag{Room: 2, Seal: 999999, Suits: 11, By: 0, With: 2}},
		{check(7, 0, 999999).by(1, 0), api.Bag{Room: 2, Seal: 999999, Suits: 11, By: 1, With: 0}},
		{move(7, 0, 1).by(2, 0), api.Bag{Room: 1, Seal: 999999, Suits: 11, By: 2, With: 0}},
		{out(9, 0).by(3, 1), api.Bag{Suits: 11, By: 3, With: 1}},
	} {
		l, want[0] = after(l, x.c), x.want
		if bags := played(t, hoard(), l); bags != want {
			t.Errorf("after %v: %v, want %v", x.c, bags, want)
		}
	}
}

// P4.5: bags that are not there, that have left, or were there before
func TestErrBag(t *testing.T) {
	for _, c := range []carry{move(5, 7, 2), check(5, 7, 10), open(5, 7, 20), out(5, 7)} {
		refused(t, hoard(), carries(c), 0, api.ErrBag)
		refused(t, hoard(), carries(in(5, 8, 1, 10, 15), c), 1, api.ErrBag)
		refused(t, hoard(), carries(in(5, 7, 1, 10, 15), out(5, 7), c), 2, api.ErrBag)
		refused(t, hoard(), carries(c, c.by(-1, 9)), 0, api.ErrCarry)
	}
	for _, before := range [][]carry{{}, {move(5, 7, 2)}, {out(5, 7)}, {open(5, 7, 11), check(6, 7, 11), out(5+1, 7)}} {
		l := after(carries(in(5, 7, 1, 10, 15)), before...)
		refused(t, hoard(), after(l, in(9, 7, 1, 50, 15)), len(l), api.ErrBag)
		refused(t, hoard(), after(l, in(9, 7, 3, 10, 1)), len(l), api.ErrBag) // whatever is wrong besides
		played(t, hoard(), after(l, in(9, 6, 1, 50, 15)))
	}
	low := hoard()
	low.Staff = []int{1, 0, 0, 0}
	l := carries(in(5, 0, 1, 1, 1), out(5, 0))
	refused(t, low, after(l, in(5, 0, 1, 2, 1)), 2, api.ErrBag)
}

// P4.5: both rooms must be reached by the two people together, as a group
func TestErrReach(t *testing.T) {
	l := carries(in(5, 7, 1, 10, 15).by(1, 2), in(5, 8, 2, 11, 15))
	for _, c := range []carry{move(5, 8, 1), check(5, 8, 11), open(5, 8, 20), out(5, 8), in(5, 9, 2, 30, 15), move(5, 7, 2)} {
		refused(t, hoard(), after(l, c.by(1, 2)), 2, api.ErrReach)
		refused(t, hoard(), after(l, c.by(3, 1)), 2, api.ErrReach)
		played(t, hoard(), after(l, c.by(3, 0)))
		played(t, hoard(), after(l, c.by(0, 2)))
	}
	for _, c := range []carry{in(5, 9, 3, 30, 15), move(5, 7, 3)} { // that takes three people
		refused(t, hoard(), after(l, c), 2, api.ErrReach)
	}
	for _, c := range []carry{in(5, 9, 2, 30, 1), in(5, 9, 2, 10, 15), move(5, 8, 2), check(5, 8, 12), open(5, 8, 11)} {
		refused(t, hoard(), after(l, c.by(1, 2)), 2, api.ErrReach) // whatever is wrong besides
	}
	s := hoard()
	s.Rooms[2].Hold = 0
	refused(t, s, carries(in(5, 8, 2, 11, 15).by(1, 2)), 0, api.ErrReach)
	played(t, hoard(), after(l, check(5, 7, 10).by(3, 1), out(5, 7).by(2, 3)))
}

// P4.5: a bag is not moved to where it is, nor into a room that is full
func TestErrRoom(t *testing.T) {
	l := carries(in(5, 0, 1, 1, 15), in(5, 1, 1, 2, 15), in(5, 2, 1, 3, 15))
	refused(t, hoard(), after(l, in(5, 3, 1, 4, 15)), 3, api.ErrRoom)
	for bag := range 3 {
		refused(t, hoard(), after(l, move(5, bag, 1)), 3, api.ErrRoom)
		moved := after(l, move(5, bag, 2))
		refused(t, hoard(), after(moved, move(5, bag, 2)), 4, api.ErrRoom)
		played(t, hoard(), after(moved, in(5, 3, 1, 4, 15)))
		refused(t, hoard(), after(moved, in(5, 3, 1, 4, 15), move(5, bag, 1)), 5, api.ErrRoom)
		played(t, hoard(), after(moved, move(5, bag, 1)))
		played(t, hoard(), after(l, out(5, bag), in(5, 3, 1, 4, 15)))
		refused(t, hoard(), after(l, open(5, bag, 9), in(5, 3, 1, 4, 15)), 4, api.ErrRoom)
	}
	refused(t, hoard(), after(l, move(5, 0, 2), move(5, 1, 2), move(5, 2, 2)), 5, api.ErrRoom)
	refused(t, hoard(), carries(in(5, 0, 4, 1, 15)), 0, api.ErrRoom) // it holds nothing
	refused(t, hoard(), after(l, move(5, 0, 4)), 3, api.ErrRoom)
	refused(t, hoard(), carries(in(5, 0, 4, 1, 1)), 0, api.ErrRoom) // before the climate
	refused(t, hoard(), after(l, in(5, 3, 1, 1, 2)), 3, api.ErrRoom)
	s := hoard()
	s.Rooms[2].Climate = 2
	refused(t, s, carries(in(5, 0, 1, 1, 1), move(5, 0, 1)), 1, api.ErrRoom)
	for hold := range api.MaxHold + 1 {
		s.Rooms[1].Hold = hold
		var l []api.Carry
		for bag := range hold {
			l = after(l, in(5, bag, 1, 1+bag, 1))
		}
		played(t, s, l)
		refused(t, s, after(l, in(5, 31, 1, 99, 1)), hold, api.ErrRoom)
	}
}

// P4.5: the climate of a room must be one of those that suit the bag
func TestErrClimate(t *testing.T) {
	for climate := range api.Climates {
		for suits := 1; suits < 16; suits++ {
			s := hoard()
			s.Rooms[1].Climate, s.Rooms[5].Climate = climate, (climate+1)%api.Climates
			into, moved := carries(in(5, 7, 1, 10, suits)), carries(in(5, 7, 5, 10, suits), move(5, 7, 1))
			if suits>>climate&1 == 0 {
				refused(t, s, into, 0, api.ErrClimate)
				refused(t, s, after(carries(in(5, 6, 1, 10, 1<<climate)), in(5, 7, 1, 10, suits)), 1, api.ErrClimate) // before the seal
				if suits>>s.Rooms[5].Climate&1 == 1 {
					refused(t, s, moved, 1, api.ErrClimate)
				}
				continue
			}
			if b := played(t, s, into)[7]; b.Suits != suits {
				t.Errorf("%v suits the climates %d", b, suits)
			}
			if suits>>s.Rooms[5].Climate&1 == 1 {
				played(t, s, moved)
				played(t, s, after(moved, move(5, 7, 5)))
			}
		}
	}
}

// P4.5: a seal is checked as it is, and given once
func TestErrSeal(t *testing.T) {
	l := carries(in(5, 7, 1, 10, 15), in(5, 8, 1, 11, 15))
	for _, seal := range []int{1, 9, 11, 999999} {
		refused(t, hoard(), after(l, check(5, 7, seal)), 2, api.ErrSeal)
	}
	l = after(l, check(5, 7, 10), check(5, 8, 11), open(6, 7, 12), check(6, 7, 12))
	refused(t, hoard(), after(l, check(6, 7, 10)), 6, api.ErrSeal)
	for _, seal := range []int{10, 11, 12} {
		refused(t, hoard(), after(l, in(6, 9, 1, seal, 15)), 6, api.ErrSeal)
		refused(t, hoard(), after(l, open(6, 7, seal)), 6, api.ErrSeal)
		refused(t, hoard(), after(l, open(6, 8, seal)), 6, api.ErrSeal)
		refused(t, hoard(), after(l, out(6, 7), out(6, 8), in(6, 9, 1, seal, 15)), 8, api.ErrSeal) // though no bag has it any more
	}
	played(t, hoard(), after(l, in(6, 9, 1, 13, 15), open(6, 8, 14)))
	refused(t, hoard(), carries(in(5, 7, 1, 10, 15), check(5, 7, 20)), 1, api.ErrSeal)
	played(t, hoard(), carries(in(5, 7, 1, 10, 15), open(5, 7, 20), in(5, 8, 1, 21, 15)))
}

// P4.6: Where, day by day
func TestWhere(t *testing.T) {
	l := carries(in(5, 7, 1, 10, 15), move(5, 7, 2), in(5, 8, 1, 11, 15), open(8, 7, 12), move(9, 7, 1), out(9, 8), out(20, 7))
	for day := range 30 {
		for bag := range api.MaxBags {
			want := 0
			switch {
			case bag == 7 && day >= 5 && day < 9:
				want = 2
			case bag == 7 && day >= 9 && day < 20 || bag == 8 && day >= 5 && day < 9:
				want = 1
			}
			if room, e := vault.Where(hoard(), l, bag, day); room != want || e != api.OK {
				t.Errorf("Where of %d on the day %d: %d, error %d, want %d", bag, day, room, e, want)
			}
		}
	}
	for _, bag := range beyond(0, 31) {
		for _, day := range []int{0, 9, -1} {
			if room, e := vault.Where(hoard(), l, bag, day); room != 0 || e != api.ErrRange {
				t.Errorf("Where of %d: %d, error %d", bag, room, e)
			}
		}
	}
	for _, day := range beyond(0, api.MaxDay) {
		if room, e := vault.Where(hoard(), l, 7, day); room != 0 || e != api.ErrRange {
			t.Errorf("Where on the day %d: %d, error %d", day, room, e)
		}
	}
	for _, day := range []int{0, api.MaxDay} {
		if room, e := vault.Where(hoard(), nil, 31, day); room != 0 || e != api.OK {
			t.Errorf("Where of no bag: %d, error %d", room, e)
		}
	}
	refused(t, hoard(), after(l, out(20, 7)), 7, api.ErrBag) // also where the question is about a day before
}

// suspects checks what Suspects returns for the bag 7.
func suspects(t *testing.T, s api.Strong, l []api.Carry, want []int) {
	t.Helper()
	if set, e := vault.Suspects(s, l, 7); !slices.Equal(set, want) || e != api.OK {
		t.Errorf("Suspects(%v, %v): %v, error %d, want %v", s, l, set, e, want)
	}
}

// P4.6: all rooms since the seal was right
func TestSuspects(t *testing.T) {
	s := hoard()
	s.Rooms[4].Hold = 16
	l := carries(in(5, 7, 2, 10, 15))
	suspects(t, s, l, []int{1})
	suspects(t, s, after(l, in(6, 8, 1, 11, 15), move(6, 8, 5)), []int{1}) // another bag
	l = after(l, move(6, 7, 5))
	suspects(t, s, l, []int{1, 6, 10, 12})
	suspects(t, s, after(l, check(6, 7, 10)), []int{3, 5, 6, 9, 10, 12})
	suspects(t, s, after(l, open(6, 7, 11)), []int{3, 5, 6, 9, 10, 12})
	suspects(t, s, after(l, open(6, 7, 11), move(7, 7, 4)), []int{3, 5, 6, 9, 10, 12})
	suspects(t, s, after(l, check(6, 7, 10), move(7, 7, 2)), []int{1, 6, 10, 12})
	suspects(t, s, after(l, check(6, 7, 10), move(7, 7, 2), check(7, 7, 10)), []int{1})
	suspects(t, s, after(l, move(7, 7, 1)), []int{1, 2, 4, 8})
	suspects(t, s, after(l, move(7, 7, 1), move(7, 7, 2)), []int{1, 2, 4, 8})
	suspects(t, s, after(l, move(7, 7, 1), move(7, 7, 2), open(8, 7, 12)), []int{1})
	suspects(t, s, after(l, move(7, 7, 1), in(7, 8, 2, 12, 15), check(8, 8, 12), open(9, 8, 13)), []int{1, 2, 4, 8}) // the seal of another bag
	for _, bag := range beyond(0, 31) {
		if set, e := vault.Suspects(s, l, bag); len(set) > 0 || e != api.ErrRange {
			t.Errorf("Suspects for %d: %v, error %d", bag, set, e)
		}
	}
	for _, bag := range []int{0, 6, 8, 31} {
		if set, e := vault.Suspects(s, l, bag); len(set) > 0 || e != api.ErrBag {
			t.Errorf("Suspects for %d: %v, error %d", bag, set, e)
		}
	}
	if set, e := vault.Suspects(s, after(l, out(9, 7)), 7); len(set) > 0 || e != api.ErrBag {
		t.Errorf("Suspects for a bag that has left: %v, error %d", set, e)
	}
}

// P4.5, P4.6: against the definitions, in any strongroom
func TestLogs(t *testing.T) {
	r := random(6)
	seen := map[[2]int]int{}
	for range 800 {
		s := wide(r)
		l := someLog(r, s, func(l []api.Carry, e api.Errno) {
			seen[[2]int{l[len(l)-1].Kind, int(e)}]++
			if e != api.OK {
				refused(t, s, l, len(l)-1, e)
			}
		})
		bags := played(t, s, l)
		for bag, b := range bags {
			if want := slowBag(l, bag); b != want {
				t.Fatalf("Play(%v, %v): the bag %d: %v, want %v", s, l, bag, b, want)
			}
			asked(t, s, l, bag, b)
		}
	}
	for kind, l := range map[int][]api.Errno{
		api.CarryIn:    {api.OK, api.ErrBag, api.ErrReach, api.ErrRoom, api.ErrClimate, api.ErrSeal},
		api.CarryMove:  {api.OK, api.ErrBag, api.ErrReach, api.ErrRoom, api.ErrClimate},
		api.CarryCheck: {api.OK, api.ErrBag, api.ErrReach, api.ErrSeal},
		api.CarryOpen:  {api.OK, api.ErrBag, api.ErrReach, api.ErrSeal},
		api.CarryOut:   {api.OK, api.ErrBag, api.ErrReach},
	} {
		for _, e := range l {
			if n := seen[[2]int{kind, int(e)}]; n < 5 {
				t.Errorf("the carries of the kind %d had the error %d %d times only", kind, e, n)
			}
		}
	}
}

// asked checks what Where and Suspects say of a bag.
func asked(t *testing.T, s api.Strong, l []api.Carry, bag int, b api.Bag) {
	t.Helper()
	set, e := vault.Suspects(s, l, bag)
	if b.Room == 0 && (len(set) > 0 || e != api.ErrBag) || b.Room > 0 && (!slices.Equal(set, slowSuspects(s, l, bag)) || e != api.OK) {
		t.Fatalf("Suspects(%v, %v, %d): %v, error %d", s, l, bag, set, e)
	}
	if bag > 7 {
		return
	}
	for day := range 40 {
		n := 0
		for i, c := range l {
			if c.Day <= day {
				n = i + 1
			}
		}
		if room, e := vault.Where(s, l, bag, day); room != slowRoom(l[:n], bag) || e != api.OK {
			t.Fatalf("Where(%v, %v, %d, %d): %d, error %d", s, l, bag, day, room, e)
		}
	}
}
