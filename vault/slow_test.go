package vault_test

import (
	"math/bits"
	"slices"
	"sort"

	"lombard/api"
)

// The functions here are written anew from the definitions of the document, each as it is said there.

func isIn(set, k int) bool { return set&(1<<k) != 0 }

// slowKeys are the keys that a group has with rooms.
func slowKeys(s api.Strong, group, rooms int) []bool {
	has := make([]bool, 8)
	for k := range has {
		for i, x := range s.Staff {
			has[k] = has[k] || isIn(group, i) && isIn(x, k)
		}
		for i, x := range s.Rooms {
			has[k] = has[k] || isIn(rooms, i) && isIn(x.Keys, k)
		}
	}
	return has
}

func slowOpen(s api.Strong, group, rooms int, g api.Gate) bool {
	has := slowKeys(s, group, rooms)
	for _, way := range g.Ways {
		all := true
		for k := range has {
			all = all && (has[k] || !isIn(way, k))
		}
		if all {
			return bits.OnesCount(uint(group)) >= g.Need
		}
	}
	return false
}

func slowClosed(s api.Strong, group, rooms int) bool {
	for _, g := range s.Gates {
		if isIn(rooms, g.A) != isIn(rooms, g.B) && slowOpen(s, group, rooms, g) {
			return false
		}
	}
	return isIn(rooms, 0)
}

func slowEnter(s api.Strong, group int) int {
	rooms := 1
	for range s.Rooms {
		before := rooms
		for _, g := range s.Gates {
			if (isIn(before, g.A) || isIn(before, g.B)) && slowOpen(s, group, before, g) {
				rooms |= 1 << g.A
				rooms |= 1 << g.B
			}
		}
	}
	return rooms
}

// slowWays calls visit with each way of a group, in the order of lists, and the rooms after it.
func slowWays(s api.Strong, group int, way []int, rooms int, visit func(way []int, rooms int)) {
	visit(way, rooms)
	for i, g := range s.Gates {
		if isIn(rooms, g.A) != isIn(rooms, g.B) && slowOpen(s, group, rooms, g) {
			slowWays(s, group, append(slices.Clone(way), i), rooms|1<<g.A|1<<g.B, visit)
		}
	}
}

// slowShortest is the first of the shortest ways to each room that a group reaches.
func slowShortest(s api.Strong, group int) map[int][]int {
	best := map[int][]int{}
	slowWays(s, group, nil, 1, func(way []int, rooms int) {
		for room := range s.Rooms {
			known, ok := best[room]
			if isIn(rooms, room) && (!ok || len(way) < len(known) || len(way) == len(known) && slices.Compare(way, known) < 0) {
				best[room] = way
			}
		}
	})
	return best
}

// slowLeast are the sets that contain no other one, in the order of the document.
func slowLeast(l []int) []int {
	var out []int
	for _, x := range l {
		least := !slices.Contains(out, x)
		for _, y := range l {
			least = least && (x == y || x|y != x)
		}
		if least {
			out = append(out, x)
		}
	}
	sort.Slice(out, func(i, j int) bool {
		a, b := bits.OnesCount(uint(out[i])), bits.OnesCount(uint(out[j]))
		return a < b || a == b && out[i] < out[j]
	})
	return out
}

// slowReach are all groups that reach a room.
func slowReach(s api.Strong, room int) []int {
	var l []int
	for group := range 1 << len(s.Staff) {
		if isIn(slowEnter(s, group), room) {
			l = append(l, group)
		}
	}
	return l
}

func slowGroups(s api.Strong, room int) []int { return slowLeast(slowReach(s, room)) }

func slowGuards(s api.Strong, room int) []int {
	reach := slowReach(s, room)
	var l []int
	for set := range 1 << len(s.Staff) {
		if !slices.ContainsFunc(reach, func(group int) bool { return set&group == 0 }) {
			l = append(l, set)
		}
	}
	return slowLeast(l)
}

// slowRoom is where a bag is after carries.
func slowRoom(l []api.Carry, bag int) int {
	for _, c := range slices.Backward(l) {
		if c.Bag == bag && (c.Kind == api.CarryIn || c.Kind == api.CarryMove || c.Kind == api.CarryOut) {
			return c.To
		}
	}
	return 0
}

// slowSeal is the seal of a bag after carries.
func slowSeal(l []api.Carry, bag int) int {
	for _, c := range slices.Backward(l) {
		if c.Bag == bag && (c.Kind == api.CarryIn || c.Kind == api.CarryOpen || c.Kind == api.CarryOut) {
			return c.Seal
		}
	}
	return 0
}

func slowBag(l []api.Carry, bag int) api.Bag {
	b := api.Bag{Room: slowRoom(l, bag), Seal: slowSeal(l, bag)}
	for _, c := range l {
		if c.Bag == bag {
			b.By, b.With = c.By, c.With
			b.Suits |= c.Suits // only one carry has them
		}
	}
	return b
}

// slowError is the error with which a carry is refused after others.
func slowError(s api.Strong, l []api.Carry, c api.Carry) api.Errno {
	was := slices.ContainsFunc(l, func(x api.Carry) bool { return x.Bag == c.Bag })
	b := slowBag(l, c.Bag)
	enters := c.Kind == api.CarryIn
	carried := enters || c.Kind == api.CarryMove
	if enters && was || !enters && b.Room == 0 {
		return api.ErrBag
	}
	reached := slowEnter(s, 1<<c.By|1<<c.With)
	if !enters && !isIn(reached, b.Room) || carried && !isIn(reached, c.To) {
		return api.ErrReach
	}
	there := 0
	for bag := range 32 {
		if carried && slowRoom(l, bag) == c.To {
			there++
		}
	}
	if carried && (b.Room == c.To || there >= s.Rooms[c.To].Hold) {
		return api.ErrRoom
	}
	if enters && !isIn(c.Suits, s.Rooms[c.To].Climate) || carried && !enters && !isIn(b.Suits, s.Rooms[c.To].Climate) {
		return api.ErrClimate
	}
	used := slices.ContainsFunc(l, func(x api.Carry) bool {
		return (x.Kind == api.CarryIn || x.Kind == api.CarryOpen) && x.Seal == c.Seal
	})
	if c.Kind == api.CarryCheck && c.Seal != b.Seal || (enters || c.Kind == api.CarryOpen) && used {
		return api.ErrSeal
	}
	return api.OK
}

// slowRooms are all rooms in which a bag was since its seal was right.
func slowRooms(l []api.Carry, bag int) []int {
	var rooms []int
	for i, c := range l {
		if c.Bag != bag {
			continue
		}
		switch c.Kind {
		case api.CarryIn, api.CarryCheck, api.CarryOpen:
			rooms = []int{slowRoom(l[:i+1], bag)}
		case api.CarryMove:
			rooms = append(rooms, c.To)
		}
	}
	return rooms
}

func slowSuspects(s api.Strong, l []api.Carry, bag int) []int {
	var all []int
	for _, room := range slowRooms(l, bag) {
		all = append(all, slowGroups(s, room)...)
	}
	return slowLeast(all)
}
