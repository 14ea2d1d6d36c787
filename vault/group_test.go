package vault_test

import (
	"math/bits"
	"slices"
	"testing"

	"lombard/api"
)

// least checks what Groups and Guards return.
func least(t *testing.T, s api.Strong, room int, wantGroups, wantGuards []int) {
	t.Helper()
	if l := groups(t, s, room); !slices.Equal(l, wantGroups) {
		t.Errorf("Groups(%v, %d): %v, want %v", s, room, l, wantGroups)
	}
	if l := guards(t, s, room); !slices.Equal(l, wantGuards) {
		t.Errorf("Guards(%v, %d): %v, want %v", s, room, l, wantGuards)
	}
}

// P4.4: the examples of the document
func TestGroupExamples(t *testing.T) {
	least(t, strong(), 0, []int{0}, nil)
	least(t, strong(), 1, []int{1, 4}, []int{5})
	least(t, strong(), 2, []int{3, 5, 6}, []int{3, 5, 6})
}

// P4.4: the hall needs nobody, also where it has no gate; a room that nobody reaches has no group, and is guarded by nobody
func TestGroupEdges(t *testing.T) {
	s := line(1)
	least(t, s, 0, []int{0}, nil)
	s = line(3)
	least(t, s, 2, []int{1, 2, 4}, []int{7})
	s.Gates[0].Ways = []int{1}
	least(t, s, 0, []int{0}, nil)
	least(t, s, 1, nil, []int{0})
	least(t, s, 2, nil, []int{0})
	s.Gates = nil
	least(t, s, 1, nil, []int{0})
	s = line(2)
	s.Gates[0].Need, s.Staff = 3, []int{0, 0} // more than there are
	least(t, s, 1, nil, []int{0})
}

// combinations are the sets of so many of some people, increasing.
func combinations(people, many int) []int {
	var l []int
	for set := range 1 << people {
		if bits.OnesCount(uint(set)) == many {
			l = append(l, set)
		}
	}
	return l
}

// P4.4: any so many people: without one less than the others there is always a group
func TestAnyPeople(t *testing.T) {
	for staff := 2; staff <= api.MaxStaff; staff++ {
		for need := 1; need <= min(staff, api.MaxNeed); need++ {
			s := line(2)
			s.Staff = make([]int, staff)
			s.Gates[0].Need = need
			least(t, s, 1, combinations(staff, need), combinations(staff, staff-need+1))
		}
	}
}

// P4.4: small groups come first, though their numbers may be greater
func TestGroupOrder(t *testing.T) {
	s := line(2)
	s.Staff = []int{1, 2, 4, 8, 3}
	s.Gates[0].Ways = []int{7, 12}
	least(t, s, 1, []int{12, 20, 7}, []int{4, 25, 26})
	s.Gates[0].Ways = []int{8, 3}
	least(t, s, 1, []int{8, 16, 3}, []int{25, 26})
	s.Gates[0].Ways = []int{7, 11, 12}
	least(t, s, 1, []int{12, 20, 24, 7, 11}, []int{12, 21, 22, 25, 26})
}

// P4.4: against the definitions, of any strongroom
func TestGroupsOfAny(t *testing.T) {
	r := random(3)
	sizes := map[int]int{}
	for range 1500 {
		s := someStrong(r)
		for room := range s.Rooms {
			l := slowGroups(s, room)
			least(t, s, room, l, slowGuards(s, room))
			sizes[len(l)]++
		}
	}
	for n := range 6 {
		if sizes[n] < 5 {
			t.Errorf("only %d times there were %d least groups", sizes[n], n)
		}
	}
}

// P4.10: a group reaches a room exactly if it contains a least group, and exactly if it has one of each least guard
func TestReachByGroups(t *testing.T) {
	r := random(4)
	for range 800 {
		s := someStrong(r)
		for group := range 1 << len(s.Staff) {
			set := enters(t, s, group)
			for room := range s.Rooms {
				reaches := set>>room&1 == 1
				contains := slices.ContainsFunc(groups(t, s, room), func(x int) bool { return group&x == x })
				misses := slices.ContainsFunc(guards(t, s, room), func(x int) bool { return group&x == 0 })
				if contains != reaches || misses == reaches {
					t.Fatalf("%v: %d reaches %d: %v; it contains a least group: %v; it misses a guard: %v", s, group, room, reaches, contains, misses)
				}
			}
		}
	}
}

// P4.10: without all people of a guard the others do not reach the room; without all but one of a least guard they do
func TestGuardsNeeded(t *testing.T) {
	r := random(5)
	for range 800 {
		s := someStrong(r)
		all := 1<<len(s.Staff) - 1
		for room := range s.Rooms {
			for _, guard := range guards(t, s, room) {
				if enters(t, s, all&^guard)>>room&1 == 1 {
					t.Fatalf("%v: without %d the others reach %d", s, guard, room)
				}
				for person := range s.Staff {
					if guard>>person&1 == 1 && enters(t, s, all&^guard|1<<person)>>room&1 == 0 {
						t.Fatalf("%v: without %d but %d the others do not reach %d", s, guard, person, room)
					}
				}
			}
		}
	}
}
