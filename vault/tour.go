package vault

import (
	"iter"
	"slices"

	"lombard/api"
)

// tour is a group in a strongroom, with the rooms that it has reached so far.
type tour struct {
	api.Strong
	group   peopleSet
	reached roomSet
}

// begin returns the tour of a group that has reached the hall alone.
func begin(s api.Strong, group peopleSet) tour { return tour{s, group, 1 << hall} }

// open checks a strongroom and a group, and begins its tour.
func open(s api.Strong, group int) (tour, api.Errno) {
	if e := Check(s); e != api.OK {
		return tour{}, e
	}
	if !isSet(group, len(s.Staff)) {
		return tour{}, api.ErrPeople
	}
	return begin(s, peopleSet(group)), api.OK
}

// held returns all keys that the group has.
func (t tour) held() keySet {
	var held keySet
	for person := range members(t.group) {
		held |= keySet(t.Staff[person])
	}
	for room := range members(t.reached) {
		held |= keySet(t.Rooms[room].Keys)
	}
	return held
}

func (t tour) canOpen(g api.Gate) bool {
	held := t.held()
	fits := func(way int) bool { return contains(held, keySet(way)) }
	return size(t.group) >= g.Need && slices.ContainsFunc(g.Ways, fits)
}

// leadsOn reports whether a gate is between a room that is reached and one that is not.
func (t tour) leadsOn(g api.Gate) bool { return has(t.reached, g.A) != has(t.reached, g.B) }

// steps yields each gate by which the group can go on, and its tour behind it.
func (t tour) steps() iter.Seq2[int, tour] {
	return func(yield func(int, tour) bool) {
		for i, g := range t.Gates {
			if !t.leadsOn(g) || !t.canOpen(g) {
				continue
			}
			next := t
			next.reached |= 1<<g.A | 1<<g.B
			if !yield(i, next) {
				return
			}
		}
	}
}

// step returns the tour behind a gate, if the group can go on by it.
func (t tour) step(gate int) (tour, bool) {
	for i, next := range t.steps() {
		if i == gate {
			return next, true
		}
	}
	return tour{}, false
}

func (t tour) isOver() bool {
	for range t.steps() {
		return false
	}
	return true
}

// end returns the tour when there is no more. Which gate comes first makes no difference: what a group can open it can open later, too.
func (t tour) end() tour {
	for _, next := range t.steps() {
		return next.end()
	}
	return t
}

// way returns the first of the shortest ways to a room, and whether there is one.
func (t tour) way(room int) (found []int, ok bool) {
	if has(t.reached, room) {
		return nil, true
	}
	type stop struct {
		tour
		way []int
	}
	var queue []stop
	seen := map[roomSet]bool{}
	// Ways come in order. So of those to the same rooms, the first one that comes is the one to go on from.
	visit := func(t tour, way []int) {
		if !seen[t.reached] {
			seen[t.reached] = true
			queue = append(queue, stop{t, way})
		}
	}
	visit(t, nil)
search:
	for len(queue) > 0 {
		at := queue[0]
		queue = queue[1:]
		for gate, next := range at.steps() {
			way := append(slices.Clone(at.way), gate)
			if has(next.reached, room) {
				found, ok = way, true
				break search
			}
			visit(next, way)
		}
	}
	return found, ok
}

// Enter returns all rooms that a group reaches.
func Enter(s api.Strong, group int) (int, api.Errno) {
	t, e := open(s, group)
	if e != api.OK {
		return 0, e
	}
	return int(t.end().reached), api.OK
}

// Closed reports whether a set of rooms is closed for a group.
func Closed(s api.Strong, group, rooms int) (bool, api.Errno) {
	t, e := open(s, group)
	if e != api.OK {
		return false, e
	}
	if !isSet(rooms, len(s.Rooms)) {
		return false, api.ErrRange
	}
	t.reached = roomSet(rooms)
	return has(t.reached, hall) && t.isOver(), api.OK
}

// Way returns the shortest way of a group to a room.
func Way(s api.Strong, group, room int) ([]int, api.Errno) {
	t, e := open(s, group)
	if e != api.OK {
		return nil, e
	}
	if e := checkRoom(s, room); e != api.OK {
		return nil, e
	}
	way, ok := t.way(room)
	if !ok {
		return nil, api.ErrNone
	}
	return way, api.OK
}

// Opens returns all rooms that are reached after a way.
func Opens(s api.Strong, group int, way []int) (int, api.Errno) {
	t, e := open(s, group)
	if e != api.OK {
		return 0, e
	}
	for _, gate := range way {
		next, ok := t.step(gate)
		if !ok {
			return 0, api.ErrGates
		}
		t = next
	}
	return int(t.reached), api.OK
}
