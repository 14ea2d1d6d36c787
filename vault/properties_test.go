package vault_test

import (
	"math/rand/v2"
	"slices"
	"testing"

	"lombard/api"
	"lombard/vault"
)

// bags are all bags after carries.
type bags = [api.MaxBags]api.Bag

// tried tries random carries, and shows to see each one that is done: the log with it, and the bags before and after it.
func tried(t *testing.T, r *rand.Rand, s api.Strong, see func(l []api.Carry, before, after bags)) []api.Carry {
	t.Helper()
	var l []api.Carry
	var now bags
	for range r.IntN(60) {
		more := append(slices.Clone(l), someCarry(r, s, l))
		next, at, e := vault.Play(s, more)
		if e != api.OK {
			if at != len(l) || next != (bags{}) {
				t.Fatalf("Play(%v, %v): %v, %d, error %d", s, more, next, at, e)
			}
			continue
		}
		see(more, now, next)
		l, now = more, next
	}
	return l
}

// P4.11: each bag is where it was carried last, by two people who reach the rooms, and where it may be
func TestPlaces(t *testing.T) {
	r := random(7)
	for range 500 {
		s := wide(r)
		tried(t, r, s, func(l []api.Carry, before, after bags) {
			c := l[len(l)-1]
			was, is := before[c.Bag], after[c.Bag]
			before[c.Bag] = is
			if before != after {
				t.Fatalf("%v: %v changes other bags: %v, %v", s, c, before, after)
			}
			switch c.Kind {
			case api.CarryIn, api.CarryMove, api.CarryOut:
				if is.Room != c.To {
					t.Fatalf("%v: %v leads to %v", s, c, is)
				}
			default:
				if is.Room != was.Room {
					t.Fatalf("%v: %v carries the bag away: %v", s, c, is)
				}
			}
			set := enters(t, s, 1<<c.By|1<<c.With)
			if set>>was.Room&1 == 0 || set>>is.Room&1 == 0 || is.By != c.By || is.With != c.With || c.By == c.With {
				t.Fatalf("%v: %v, from %d to %d, by people who reach %d", s, c, was.Room, is.Room, set)
			}
			fit(t, s, after)
		})
	}
}

// fit checks that rooms hold their bags, and suit them.
func fit(t *testing.T, s api.Strong, l bags) {
	t.Helper()
	held := make([]int, len(s.Rooms))
	for _, b := range l {
		held[b.Room]++
		if b.Room > 0 && (held[b.Room] > s.Rooms[b.Room].Hold || b.Suits>>s.Rooms[b.Room].Climate&1 == 0) {
			t.Fatalf("%v: %v", s, l)
		}
	}
}

// P4.12: whoever was where a bag was since its seal was right contains a suspect; another seal is refused
func TestSwaps(t *testing.T) {
	r := random(8)
	several := 0
	for range 400 {
		s := wide(r)
		trails := map[int][]int{}
		l := tried(t, r, s, func(l []api.Carry, _, after bags) {
			c := l[len(l)-1]
			if c.Kind == api.CarryMove {
				trails[c.Bag] = append(trails[c.Bag], c.To)
			} else {
				trails[c.Bag] = []int{after[c.Bag].Room}
			}
		})
		for bag, b := range played(t, s, l) {
			if b.Room == 0 {
				continue
			}
			if len(trails[bag]) > 1 {
				several++
			}
			contained(t, s, l, bag, trails[bag])
			c := check(l[len(l)-1].Day, bag, b.Seal).by(b.By, b.With) // they reach it
			played(t, s, after(l, c))
			for _, seal := range []int{b.Seal%api.MaxSeal + 1, 1 + b.Seal%40, api.MaxSeal} {
				if c.Seal = seal; seal != b.Seal {
					refused(t, s, after(l, c), len(l), api.ErrSeal)
				}
			}
		}
	}
	if several < 50 {
		t.Errorf("only %d bags were in several rooms", several)
	}
}

// contained checks that each group that reaches one of some rooms contains a suspect, and that no suspect is there in vain.
func contained(t *testing.T, s api.Strong, l []api.Carry, bag int, rooms []int) {
	t.Helper()
	set, e := vault.Suspects(s, l, bag)
	if e != api.OK {
		t.Fatalf("Suspects(%v, %v, %d): error %d", s, l, bag, e)
	}
	for group := range 1 << len(s.Staff) {
		reached := enters(t, s, group)
		there := slices.ContainsFunc(rooms, func(room int) bool { return reached>>room&1 == 1 })
		has := slices.ContainsFunc(set, func(x int) bool { return group&x == x })
		if there != has {
			t.Fatalf("Suspects(%v, %v, %d): %v, but %d was in one of %v: %v", s, l, bag, set, group, rooms, there)
		}
	}
}
