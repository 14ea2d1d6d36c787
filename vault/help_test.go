package vault_test

import (
	"math"
	"math/rand/v2"
	"slices"
	"testing"

	"lombard/api"
	"lombard/vault"
)

// strong and log are those of the document.
func strong() api.Strong {
	return api.Strong{
		Rooms: []api.Chamber{{}, {Hold: 2, Keys: 4}, {Hold: 1, Climate: 1}},
		Gates: []api.Gate{gate(0, 1, 1, 1), gate(1, 2, 2, 6), gate(0, 2, 1, 8)},
		Staff: []int{1, 2, 3},
	}
}

func log() []api.Carry {
	return carries(in(5, 7, 1, 10, 3).by(0, 1), move(6, 7, 2).by(1, 2), check(8, 7, 10).by(0, 1))
}

func gate(a, b, need int, ways ...int) api.Gate { return api.Gate{A: a, B: b, Need: need, Ways: ways} }

// carry is an api.Carry; in, move, check, open and out are carries by the people 0 and 1.
type carry api.Carry

func in(day, bag, to, seal, suits int) carry {
	return carry{Day: day, Kind: api.CarryIn, Bag: bag, To: to, With: 1, Seal: seal, Suits: suits}
}

func move(day, bag, to int) carry {
	return carry{Day: day, Kind: api.CarryMove, Bag: bag, To: to, With: 1}
}

func check(day, bag, seal int) carry {
	return carry{Day: day, Kind: api.CarryCheck, Bag: bag, With: 1, Seal: seal}
}

func open(day, bag, seal int) carry {
	return carry{Day: day, Kind: api.CarryOpen, Bag: bag, With: 1, Seal: seal}
}

func out(day, bag int) carry { return carry{Day: day, Kind: api.CarryOut, Bag: bag, With: 1} }

// by is a carry by other people.
func (c carry) by(a, b int) carry {
	c.By, c.With = a, b
	return c
}

func carries(l ...carry) []api.Carry {
	var all []api.Carry
	for _, c := range l {
		all = append(all, api.Carry(c))
	}
	return all
}

// after is a log with more carries.
func after(l []api.Carry, more ...carry) []api.Carry {
	return slices.Concat(l, carries(more...))
}

// random returns the same numbers in each run.
func random(seed uint64) *rand.Rand { return rand.New(rand.NewPCG(seed, 4)) }

// extremes are numbers that no function allows.
func extremes() []int { return []int{math.MinInt, math.MinInt / 2, math.MaxInt / 2, math.MaxInt} }

// beyond are numbers just outside of a range, and far outside.
func beyond(least, most int) []int { return append(extremes(), least-1, most+1) }

// errs checks that an error is the one that is wanted.
func errs(t *testing.T, name string, got, want api.Errno) {
	t.Helper()
	if got != want {
		t.Errorf("%s: error %d, want %d", name, got, want)
	}
}

// enters is what Enter returns without an error.
func enters(t *testing.T, s api.Strong, group int) int {
	t.Helper()
	set, e := vault.Enter(s, group)
	if e != api.OK {
		t.Fatalf("Enter(%v, %d): error %d", s, group, e)
	}
	return set
}

// groups and guards are what Groups and Guards return without an error.
func groups(t *testing.T, s api.Strong, room int) []int {
	t.Helper()
	l, e := vault.Groups(s, room)
	if e != api.OK {
		t.Fatalf("Groups(%v, %d): error %d", s, room, e)
	}
	return l
}

func guards(t *testing.T, s api.Strong, room int) []int {
	t.Helper()
	l, e := vault.Guards(s, room)
	if e != api.OK {
		t.Fatalf("Guards(%v, %d): error %d", s, room, e)
	}
	return l
}

// played checks that carries are all done, and returns the bags.
func played(t *testing.T, s api.Strong, l []api.Carry) [api.MaxBags]api.Bag {
	t.Helper()
	bags, at, e := vault.Play(s, l)
	if at != len(l) || e != api.OK {
		t.Fatalf("Play(%v, %v): %d, error %d", s, l, at, e)
	}
	return bags
}

// refused checks that carries are refused at an index, by all functions that do them, whatever they are asked for.
func refused(t *testing.T, s api.Strong, l []api.Carry, index int, want api.Errno) {
	t.Helper()
	bags, at, e := vault.Play(s, l)
	if bags != ([api.MaxBags]api.Bag{}) || at != index || e != want {
		t.Errorf("Play(%v, %v): %v, %d, error %d, want %d, error %d", s, l, bags, at, e, index, want)
	}
	for _, bag := range []int{0, 7, -1, api.MaxBags} {
		for _, day := range []int{0, api.MaxDay, -1} {
			if room, e := vault.Where(s, l, bag, day); room != 0 || e != want {
				t.Errorf("Where(%v, %v, %d, %d): %d, error %d, want the error %d", s, l, bag, day, room, e, want)
			}
		}
		if set, e := vault.Suspects(s, l, bag); len(set) > 0 || e != want {
			t.Errorf("Suspects(%v, %v, %d): %v, error %d, want the error %d", s, l, bag, set, e, want)
		}
	}
}

// someStrong is a random strongroom with few keys, so that groups get into many rooms, but not into all.
func someStrong(r *rand.Rand) api.Strong {
	var s api.Strong
	for range 1 + max(r.IntN(api.MaxRooms), r.IntN(api.MaxRooms)) {
		s.Rooms = append(s.Rooms, api.Chamber{Hold: r.IntN(4), Climate: r.IntN(2) * r.IntN(api.Climates), Keys: someKeys(r, 12)})
	}
	s.Gates = someGates(r, len(s.Rooms))
	for range 2 + r.IntN(api.MaxStaff-1) {
		s.Staff = append(s.Staff, someKeys(r, 5))
	}
	return s
}

// someGates are random gates; now and then, rooms lie one after the other.
func someGates(r *rand.Rand, rooms int) []api.Gate {
	var l []api.Gate
	if r.IntN(4) == 0 || rooms == 1 {
		for room := 1; room < rooms; room++ {
			l = append(l, gate(room, room-1, 1, someKeys(r, 5), someKeys(r, 5)))
		}
		return l
	}
	for range max(r.IntN(api.MaxGates+1), r.IntN(api.MaxGates+1)) {
		l = append(l, someGate(r, rooms))
	}
	return l
}

// someKeys is a random set of the first four keys, each of them with a chance of one in so many.
func someKeys(r *rand.Rand, chance int) int {
	set := 0
	for k := range 4 {
		if r.IntN(chance) == 0 {
			set |= 1 << k
		}
	}
	return set
}

func someGate(r *rand.Rand, rooms int) api.Gate {
	x := gate(r.IntN(rooms), 0, 1+r.IntN(2)*r.IntN(api.MaxNeed))
	x.B = (x.A + 1 + r.IntN(2)*r.IntN(rooms-1)) % rooms // the next one, most likely
	for range 1 + r.IntN(api.MaxWays) {
		x.Ways = append(x.Ways, someKeys(r, 2))
	}
	return x
}

// wide is a random strongroom with room for many bags, of whose people most reach most rooms.
func wide(r *rand.Rand) api.Strong {
	s := someStrong(r)
	for len(s.Rooms) < 3 {
		s.Rooms = append(s.Rooms, api.Chamber{Hold: 3})
	}
	for i := range s.Staff {
		if r.IntN(4) > 0 {
			s.Staff[i] |= 16
		}
	}
	for room := 1; room < len(s.Rooms) && len(s.Gates) < api.MaxGates; room++ {
		s.Gates = append(s.Gates, gate(r.IntN(room), room, 1+r.IntN(2), 16, 32))
	}
	return s
}

// someCarry is a random carry that is valid in a strongroom with two rooms at least, most likely of a bag that is as it says.
func someCarry(r *rand.Rand, s api.Strong, l []api.Carry) api.Carry {
	day := 0
	if len(l) > 0 {
		day = l[len(l)-1].Day
	}
	c := carry{Day: min(api.MaxDay, day+r.IntN(2)*r.IntN(5)), Kind: 1 + r.IntN(5), Bag: r.IntN(8)}
	c.By = r.IntN(len(s.Staff))
	c.With = (c.By + 1 + r.IntN(len(s.Staff)-1)) % len(s.Staff)
	if c.Kind == api.CarryOut && r.IntN(2) == 0 {
		c.Kind = api.CarryMove
	}
	switch c.Kind {
	case api.CarryIn:
		c.To, c.Seal, c.Suits = 1+r.IntN(len(s.Rooms)-1), 1+r.IntN(40), 1+r.IntN(15)|1
	case api.CarryMove:
		c.To = 1 + r.IntN(len(s.Rooms)-1)
	case api.CarryOpen:
		c.Seal = 1 + r.IntN(40)
	case api.CarryCheck:
		c.Seal = max(1, slowSeal(l, c.Bag))
		if r.IntN(6) == 0 {
			c.Seal = 1 + r.IntN(40)
		}
	}
	return api.Carry(c)
}

// someLog is a random log of which nothing is refused. What is refused at its end is left out, and told to whoever asks.
func someLog(r *rand.Rand, s api.Strong, tell func(l []api.Carry, e api.Errno)) []api.Carry {
	var l []api.Carry
	for range r.IntN(50) {
		more := append(slices.Clone(l), someCarry(r, s, l))
		e := slowError(s, l, more[len(l)])
		if tell != nil {
			tell(more, e)
		}
		if e == api.OK {
			l = more
		}
	}
	return l
}
