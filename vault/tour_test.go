package vault_test

import (
	"slices"
	"testing"

	"lombard/api"
	"lombard/vault"
)

// wayTo checks what Way returns, and that Opens says so.
func wayTo(t *testing.T, s api.Strong, group, room int, want []int, e api.Errno) {
	t.Helper()
	way, got := vault.Way(s, group, room)
	if !slices.Equal(way, want) || got != e {
		t.Errorf("Way(%v, %d, %d): %v, error %d, want %v, error %d", s, group, room, way, got, want, e)
	}
	if e == api.OK {
		if set, e := vault.Opens(s, group, way); set>>room&1 == 0 || e != api.OK {
			t.Errorf("Opens(%v, %d, %v): %d, error %d", s, group, way, set, e)
		}
	}
}

// opens checks what Opens returns.
func opens(t *testing.T, s api.Strong, group int, way []int, want int) {
	t.Helper()
	e := api.OK
	if want == 0 {
		e = api.ErrGates
	}
	if set, got := vault.Opens(s, group, way); set != want || got != e {
		t.Errorf("Opens(%v, %d, %v): %d, error %d, want %d", s, group, way, set, got, want)
	}
}

// P4.2: the examples of the document
func TestEnterExamples(t *testing.T) {
	for group, want := range []int{1, 3, 1, 7, 3, 7, 7, 7} {
		if set := enters(t, strong(), group); set != want {
			t.Errorf("Enter by %d: %d, want %d", group, set, want)
		}
	}
	for _, x := range []struct {
		rooms int
		want  bool
	}{{3, true}, {1, false}, {7, true}, {5, false}, {0, false}, {2, false}, {4, false}, {6, false}} {
		if is, e := vault.Closed(strong(), 1, x.rooms); is != x.want || e != api.OK {
			t.Errorf("Closed of %d: %v, error %d", x.rooms, is, e)
		}
	}
	wayTo(t, strong(), 3, 2, []int{0, 1}, api.OK)
	opens(t, strong(), 3, []int{0, 1}, 7)
}

// line is rooms one after the other, with a gate between two each, for one person without a key.
func line(rooms int) api.Strong {
	s := api.Strong{Rooms: make([]api.Chamber, rooms), Staff: []int{0, 0, 0}}
	for room := 1; room < rooms; room++ {
		s.Gates = append(s.Gates, gate(room, room-1, 1, 0))
	}
	return s
}

// P4.2: as many people as a gate needs; nobody opens none
func TestNeed(t *testing.T) {
	for need := 1; need <= api.MaxNeed; need++ {
		s := line(2)
		s.Gates[0].Need = need
		for group, people := range []int{0, 1, 1, 2, 1, 2, 2, 3} {
			want := 1
			if people >= need {
				want = 3
			}
			if set := enters(t, s, group); set != want {
				t.Errorf("Enter of %d by %d: %d, want %d", need, people, set, want)
			}
			if is, e := vault.Closed(s, group, 1); is != (want == 1) || e != api.OK {
				t.Errorf("Closed of %d by %d: %v, error %d", need, people, is, e)
			}
		}
	}
}

// P4.2: all keys of one way, whichever it is, of whichever person
func TestKeys(t *testing.T) {
	for _, ways := range [][]int{{3}, {128, 3}, {128, 64 + 1, 3}, {3, 128}, {7, 3, 8}} {
		s := line(2)
		s.Gates[0].Ways = ways
		s.Staff = []int{1, 2, 4, 16}
		for group := range 16 {
			want := 1
			if group&3 == 3 {
				want = 3
			}
			if set := enters(t, s, group); set != want {
				t.Errorf("Enter with the ways %v by %d: %d, want %d", ways, group, set, want)
			}
		}
	}
	for k := range api.MaxKeys { // each key is another one
		for have := range api.MaxKeys {
			s := line(2)
			s.Gates[0].Ways, s.Staff[0] = []int{1 << k}, 1<<have
			if set := enters(t, s, 1); (set == 3) != (k == have) {
				t.Errorf("Enter of a gate for the key %d with the key %d: %d", k, have, set)
			}
		}
	}
}

// P4.2: keys that lie in rooms, in the hall too, but not in rooms that are not reached; gates lead both ways
func TestKeysInRooms(t *testing.T) {
	s := line(4)
	for i := range s.Gates {
		s.Gates[i].Ways = []int{1 << i}
	}
	for _, x := range []struct {
		room, keys, want int
	}{{0, 0, 1}, {0, 1, 3}, {0, 3, 7}, {0, 7, 15}, {0, 6, 1}, {1, 1, 1}, {3, 7, 1}} {
		y := line(4)
		copy(y.Gates, s.Gates)
		y.Rooms[x.room].Keys = x.keys
		if set := enters(t, y, 1); set != x.want {
			t.Errorf("Enter with the keys %d in the room %d: %d, want %d", x.keys, x.room, set, x.want)
		}
	}
	s.Rooms[0].Keys, s.Rooms[1].Keys, s.Rooms[2].Keys = 1, 2, 4 // each room has the key of the next one
	if set := enters(t, s, 1); set != 15 {
		t.Errorf("Enter from room to room: %d", set)
	}
	slices.Reverse(s.Gates)
	if set := enters(t, s, 1); set != 15 {
		t.Errorf("Enter with the gates backwards: %d", set)
	}
	wayTo(t, s, 2, 3, []int{2, 1, 0}, api.OK)
	for i := range s.Gates {
		s.Gates[i].A, s.Gates[i].B = s.Gates[i].B, s.Gates[i].A
	}
	if set := enters(t, s, 1); set != 15 {
		t.Errorf("Enter through gates the other way: %d", set)
	}
}

// P4.2: a key of the first room opens a gate of the hall that was shut before
func TestBack(t *testing.T) {
	s := line(3)
	s.Gates = []api.Gate{gate(0, 2, 1, 1), gate(0, 1, 1, 0)}
	s.Rooms[1].Keys = 1
	if set := enters(t, s, 1); set != 7 {
		t.Errorf("Enter: %d", set)
	}
	wayTo(t, s, 1, 2, []int{1, 0}, api.OK)
	opens(t, s, 1, []int{0}, 0)
	opens(t, s, 1, []int{0, 1}, 0)
	for set, want := range []bool{false, false, false, false, false, false, false, true} {
		if is, e := vault.Closed(s, 1, set); is != want || e != api.OK {
			t.Errorf("Closed of %d: %v, error %d", set, is, e)
		}
	}
}

// P4.3: the shortest way, though longer ones begin with lower gates; of several the first one
func TestWay(t *testing.T) {
	s := line(4) // gates 0, 1 and 2 go from room to room
	s.Gates = append(s.Gates, gate(0, 3, 2, 0), gate(3, 0, 2, 0), gate(0, 2, 3, 0), gate(1, 3, 3, 0))
	wayTo(t, s, 1, 0, nil, api.OK)
	wayTo(t, s, 0, 0, nil, api.OK)
	wayTo(t, s, 0, 1, nil, api.ErrNone)
	wayTo(t, s, 0, 3, nil, api.ErrNone)
	wayTo(t, s, 1, 1, []int{0}, api.OK)
	wayTo(t, s, 1, 3, []int{0, 1, 2}, api.OK)
	wayTo(t, s, 3, 3, []int{3}, api.OK)
	wayTo(t, s, 3, 2, []int{0, 1}, api.OK)
	wayTo(t, s, 7, 2, []int{5}, api.OK)
	slices.Reverse(s.Gates) // 0: 1-3 by 3; 1: 0-2 by 3; 2 and 3: 0-3 by 2; 4: 2-3; 5: 1-2; 6: 0-1
	wayTo(t, s, 1, 3, []int{6, 5, 4}, api.OK)
	wayTo(t, s, 3, 3, []int{2}, api.OK)
	wayTo(t, s, 3, 2, []int{2, 4}, api.OK)
	wayTo(t, s, 7, 1, []int{6}, api.OK)
	s.Gates = []api.Gate{gate(2, 3, 1, 0), gate(1, 3, 1, 0), gate(0, 2, 1, 0), gate(0, 1, 1, 0)}
	wayTo(t, s, 1, 3, []int{2, 0}, api.OK)
	s.Gates = []api.Gate{gate(2, 3, 1, 0), gate(1, 3, 1, 0), gate(0, 1, 1, 0), gate(0, 2, 1, 0)}
	wayTo(t, s, 1, 3, []int{2, 1}, api.OK)
	s.Gates = []api.Gate{gate(0, 1, 1, 0), gate(0, 2, 1, 0), gate(1, 3, 1, 0), gate(2, 3, 1, 0)}
	wayTo(t, s, 1, 3, []int{0, 2}, api.OK)
}

// P4.3: a way by rooms that only have a key; two orders of them lead to the same rooms
func TestWayForKeys(t *testing.T) {
	s := api.Strong{Rooms: []api.Chamber{{}, {Keys: 1}, {Keys: 2}, {}, {}}, Staff: []int{0, 0}}
	s.Gates = []api.Gate{gate(3, 0, 1, 3), gate(3, 4, 1, 0), gate(0, 2, 1, 0), gate(0, 1, 1, 0)}
	wayTo(t, s, 1, 3, []int{2, 3, 0}, api.OK)
	wayTo(t, s, 1, 4, []int{2, 3, 0, 1}, api.OK)
	opens(t, s, 1, []int{3, 2, 0, 1}, 31)
	opens(t, s, 1, []int{3, 2}, 7)
	opens(t, s, 1, []int{3, 0}, 0)
	opens(t, s, 1, []int{3, 2, 1}, 0)
}

// P4.3: Opens refuses gates that are not in their order, lead nowhere new, or are none
func TestOpens(t *testing.T) {
	s := line(6)
	opens(t, s, 1, nil, 1)
	opens(t, s, 0, nil, 1)
	opens(t, s, 0, []int{0}, 0)
	all := []int{0, 1, 2, 3, 4}
	for i := range all {
		opens(t, s, 1, all[:i+1], 1<<(i+2)-1)
		opens(t, s, 1, all[i:], []int{63, 0, 0, 0, 0}[i])
		opens(t, s, 1, append(slices.Clone(all[:i+1]), i), 0)
		opens(t, s, 1, append(slices.Clone(all[:i+1]), 0), 0)
		for _, n := range beyond(0, len(all)-1) {
			opens(t, s, 1, []int{n}, 0)
			opens(t, s, 1, append(slices.Clone(all[:i]), n), 0)
		}
	}
	opens(t, s, 1, make([]int, 1000), 0)
	s.Gates = append(s.Gates, gate(2, 0, 1, 0))
	opens(t, s, 1, []int{0, 1, 5}, 0) // it is between two rooms that are reached
	opens(t, s, 1, []int{5, 1}, 7)
	opens(t, s, 1, []int{5, 1, 0}, 0)
	wayTo(t, s, 1, 5, []int{5, 2, 3, 4}, api.OK)
}

// P4.2, P4.3, P4.8, P4.9: against the definitions, of any strongroom
func TestTours(t *testing.T) {
	r := random(1)
	lengths := map[int]int{}
	for range 1500 {
		s := someStrong(r)
		errs(t, "Check", vault.Check(s), api.OK)
		group := r.IntN(1 << len(s.Staff))
		set := enters(t, s, group)
		if want := slowEnter(s, group); set != want {
			t.Fatalf("Enter(%v, %d): %d, want %d", s, group, set, want)
		}
		least := 1<<len(s.Rooms) - 1 // the rooms that are in all closed sets
		for rooms := range 1 << len(s.Rooms) {
			is, e := vault.Closed(s, group, rooms)
			if is != slowClosed(s, group, rooms) || e != api.OK {
				t.Fatalf("Closed(%v, %d, %d): %v, error %d", s, group, rooms, is, e)
			}
			if is {
				least &= rooms
			}
		}
		if is, _ := vault.Closed(s, group, set); set != least || !is {
			t.Fatalf("Enter(%v, %d): %d, but %d is the least closed set", s, group, set, least)
		}
		best := slowShortest(s, group)
		for room := range s.Rooms {
			if want, ok := best[room]; ok {
				wayTo(t, s, group, room, want, api.OK)
				lengths[len(want)]++
				continue
			}
			wayTo(t, s, group, room, nil, api.ErrNone)
		}
		wayOrNot(t, s, group, func() int { return r.IntN(len(s.Gates) + 1) })
	}
	for n := range api.MaxRooms {
		if lengths[n] < 5 {
			t.Errorf("only %d ways have the length %d", lengths[n], n)
		}
	}
}

// wayOrNot checks what Opens says of all ways, and of some lists, of which few are ways.
func wayOrNot(t *testing.T, s api.Strong, group int, some func() int) {
	t.Helper()
	var ways [][]int
	slowWays(s, group, nil, 1, func(way []int, rooms int) {
		if len(ways) < 200 {
			ways = append(ways, way)
			opens(t, s, group, way, rooms)
		}
	})
	for range 20 {
		list := append(slices.Clone(ways[some()%len(ways)]), some())
		want := 0
		slowWays(s, group, nil, 1, func(way []int, rooms int) {
			if slices.Equal(way, list) {
				want = rooms
			}
		})
		opens(t, s, group, list, want)
	}
}

// P4.8: more people, or more keys, of people or in rooms, never reach less
func TestMore(t *testing.T) {
	r := random(2)
	for range 1500 {
		s := someStrong(r)
		group := r.IntN(1 << len(s.Staff))
		set := enters(t, s, group)
		for person := range s.Staff {
			if more := enters(t, s, group|1<<person); more&set != set {
				t.Fatalf("Enter(%v, %d): %d, but with %d too: %d", s, group, set, person, more)
			}
		}
		for k := range api.MaxKeys {
			x := api.Strong{Rooms: slices.Clone(s.Rooms), Gates: s.Gates, Staff: slices.Clone(s.Staff)}
			x.Staff[r.IntN(len(s.Staff))] |= 1 << k
			if r.IntN(2) == 0 {
				x.Rooms[r.IntN(len(s.Rooms))].Keys |= 1 << k
			}
			if more := enters(t, x, group); more&set != set {
				t.Fatalf("Enter by %d: %d of %v, but %d of %v", group, set, s, more, x)
			}
		}
	}
}
