package vault_test

import (
	"slices"
	"testing"

	"lombard/api"
	"lombard/vault"
)

// wrong checks that a strongroom is not valid, and that all functions say so, whatever else they are given.
func wrong(t *testing.T, name string, s api.Strong) {
	t.Helper()
	errs(t, name, vault.Check(s), api.ErrStrong)
	for _, n := range []int{0, 1, -1, 1 << 20} {
		rooms, e := vault.Enter(s, n)
		closed, e2 := vault.Closed(s, n, n)
		way, e3 := vault.Way(s, n, n)
		after, e4 := vault.Opens(s, n, []int{n})
		l, e5 := vault.Groups(s, n)
		l2, e6 := vault.Guards(s, n)
		if rooms != 0 || closed || len(way) > 0 || after != 0 || len(l) > 0 || len(l2) > 0 {
			t.Errorf("%s: results %d, %v, %v, %d, %v, %v", name, rooms, closed, way, after, l, l2)
		}
		for i, e := range []api.Errno{e, e2, e3, e4, e5, e6} {
			if e != api.ErrStrong {
				t.Errorf("%s: function %d: error %d", name, i, e)
			}
		}
	}
	refused(t, s, log(), 0, api.ErrStrong)
	refused(t, s, carries(out(-1, -1)), 0, api.ErrStrong)
}

func right(t *testing.T, name string, s api.Strong) {
	t.Helper()
	errs(t, name, vault.Check(s), api.OK)
	if _, e := vault.Enter(s, 0); e != api.OK {
		t.Errorf("%s: Enter has the error %d", name, e)
	}
	if bags, at, e := vault.Play(s, nil); bags != ([api.MaxBags]api.Bag{}) || at != 0 || e != api.OK {
		t.Errorf("%s: Play of nothing: %v, %d, error %d", name, bags, at, e)
	}
}

// P4.1: what each number of a strongroom may be
func TestCheckNumbers(t *testing.T) {
	for _, x := range []struct {
		name        string
		least, most int
		change      func(s *api.Strong, n int)
	}{
		{"Hold", 0, 16, func(s *api.Strong, n int) { s.Rooms[1].Hold = n }},
		{"Hold of the hall", 0, 16, func(s *api.Strong, n int) { s.Rooms[0].Hold = n }},
		{"Hold of the last room", 0, 16, func(s *api.Strong, n int) { s.Rooms[2].Hold = n }},
		{"Climate", 0, 3, func(s *api.Strong, n int) { s.Rooms[1].Climate = n }},
		{"Climate of the hall", 0, 3, func(s *api.Strong, n int) { s.Rooms[0].Climate = n }},
		{"keys of a room", 0, 255, func(s *api.Strong, n int) { s.Rooms[2].Keys = n }},
		{"keys of the hall", 0, 255, func(s *api.Strong, n int) { s.Rooms[0].Keys = n }},
		{"A", 0, 2, func(s *api.Strong, n int) { s.Gates[1] = gate(n, (n+1)&1, 1, 1) }},
		{"B", 0, 2, func(s *api.Strong, n int) { s.Gates[2] = gate((n+1)&1, n, 1, 1) }},
		{"Need", 1, 3, func(s *api.Strong, n int) { s.Gates[2].Need = n }},
		{"a way", 0, 255, func(s *api.Strong, n int) { s.Gates[0].Ways = []int{n} }},
		{"the second way", 0, 255, func(s *api.Strong, n int) { s.Gates[2].Ways = []int{1, n} }},
		{"the third way", 0, 255, func(s *api.Strong, n int) { s.Gates[1].Ways = []int{1, 2, n} }},
		{"keys of a person", 0, 255, func(s *api.Strong, n int) { s.Staff[0] = n }},
		{"keys of the last person", 0, 255, func(s *api.Strong, n int) { s.Staff[2] = n }},
	} {
		for n := x.least; n <= x.most; n++ {
			s := strong()
			x.change(&s, n)
			right(t, x.name, s)
		}
		for _, n := range beyond(x.least, x.most) {
			s := strong()
			x.change(&s, n)
			wrong(t, x.name, s)
		}
	}
}

// P4.1: how many rooms, gates, ways and people there may be
func TestCheckLists(t *testing.T) {
	for _, x := range []struct {
		name        string
		least, most int
		change      func(s *api.Strong, n int)
	}{
		{"rooms", 1, 6, func(s *api.Strong, n int) { s.Rooms, s.Gates = make([]api.Chamber, n), nil }},
		{"gates", 0, 10, func(s *api.Strong, n int) { s.Gates = slices.Repeat([]api.Gate{gate(0, 1, 1, 0)}, n) }},
		{"ways", 1, 3, func(s *api.Strong, n int) { s.Gates[1].Ways = make([]int, n) }},
		{"staff", 2, 6, func(s *api.Strong, n int) { s.Staff = make([]int, n) }},
	} {
		for n := range 15 {
			s := strong()
			x.change(&s, n)
			if n < x.least || n > x.most {
				wrong(t, x.name, s)
				continue
			}
			right(t, x.name, s)
		}
	}
	wrong(t, "nothing", api.Strong{})
	wrong(t, "gates without rooms", api.Strong{Gates: strong().Gates, Staff: strong().Staff})
}

// P4.1: a gate is between two different rooms
func TestCheckGates(t *testing.T) {
	for a := range 3 {
		for b := range 3 {
			s := strong()
			s.Gates[1].A, s.Gates[1].B = a, b
			if a == b {
				wrong(t, "a gate of one room", s)
				continue
			}
			right(t, "a gate", s)
		}
	}
	one := api.Strong{Rooms: []api.Chamber{{}}, Staff: []int{0, 0}}
	right(t, "the hall alone", one)
	one.Gates = []api.Gate{gate(0, 1, 1, 0)}
	wrong(t, "a gate to no room", one)
}

// P4.1: groups are sets of the people of the strongroom; that error comes before those of rooms and gates
func TestPeople(t *testing.T) {
	for staff := 2; staff <= api.MaxStaff; staff++ {
		s := strong()
		s.Staff = make([]int, staff)
		for group := range 1 << staff {
			enters(t, s, group)
		}
		for _, group := range beyond(0, 1<<staff-1) {
			rooms, e := vault.Enter(s, group)
			if rooms != 0 || e != api.ErrPeople {
				t.Errorf("Enter by %d: %d, error %d", group, rooms, e)
			}
			for _, n := range []int{0, 1, -1, 3, 8} {
				closed, e := vault.Closed(s, group, n)
				way, e2 := vault.Way(s, group, n)
				after, e3 := vault.Opens(s, group, []int{n})
				if closed || len(way) > 0 || after != 0 || e != api.ErrPeople || e2 != api.ErrPeople || e3 != api.ErrPeople {
					t.Errorf("by %d: %v, %v, %d, errors %d, %d, %d", group, closed, way, after, e, e2, e3)
				}
			}
		}
	}
}

// P4.1, P4.2: rooms are those of the strongroom
func TestNoRooms(t *testing.T) {
	for rooms := 1; rooms <= api.MaxRooms; rooms++ {
		s := api.Strong{Rooms: make([]api.Chamber, rooms), Staff: []int{0, 0}}
		for _, n := range beyond(0, rooms-1) {
			way, e := vault.Way(s, 1, n)
			l, e2 := vault.Groups(s, n)
			l2, e3 := vault.Guards(s, n)
			if len(way) > 0 || len(l) > 0 || len(l2) > 0 || e != api.ErrRange || e2 != api.ErrRange || e3 != api.ErrRange {
				t.Errorf("room %d of %d: %v, %v, %v, errors %d, %d, %d", n, rooms, way, l, l2, e, e2, e3)
			}
		}
		for n := range rooms {
			if _, e := vault.Way(s, 1, n); e != api.ErrNone && n > 0 || e != api.OK && n == 0 {
				t.Errorf("Way to %d of %d: error %d", n, rooms, e)
			}
		}
		for _, n := range beyond(0, 1<<rooms-1) {
			if is, e := vault.Closed(s, 1, n); is || e != api.ErrRange {
				t.Errorf("Closed of %d: %v, error %d", n, is, e)
			}
		}
		for n := range 1 << rooms {
			if is, e := vault.Closed(s, 1, n); is != (n&1 == 1) || e != api.OK {
				t.Errorf("Closed of %d: %v, error %d", n, is, e)
			}
		}
	}
}
