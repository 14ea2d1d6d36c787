package vault

import (
	"slices"

	"lombard/api"
)

// hall is the room in which all groups begin, and no bag is.
const hall = 0

// Check checks a strongroom.
func Check(s api.Strong) api.Errno {
	if !areRooms(s.Rooms) || !areGates(s.Gates, len(s.Rooms)) || !areStaff(s.Staff) {
		return api.ErrStrong
	}
	return api.OK
}

func areRooms(l []api.Chamber) bool {
	isWrong := func(x api.Chamber) bool {
		return !within(x.Hold, 0, api.MaxHold) || !within(x.Climate, 0, api.Climates-1) || !areKeys(x.Keys)
	}
	return within(len(l), 1, api.MaxRooms) && !slices.ContainsFunc(l, isWrong)
}

func areGates(l []api.Gate, many int) bool {
	isWrong := func(g api.Gate) bool {
		return !isIndex(g.A, many) || !isIndex(g.B, many) || g.A == g.B || !within(g.Need, 1, api.MaxNeed) || !areWays(g.Ways)
	}
	return len(l) <= api.MaxGates && !slices.ContainsFunc(l, isWrong)
}

func areWays(l []int) bool { return within(len(l), 1, api.MaxWays) && areAllKeys(l) }

func areStaff(l []int) bool { return within(len(l), 2, api.MaxStaff) && areAllKeys(l) }

func areAllKeys(l []int) bool {
	for _, x := range l {
		if !areKeys(x) {
			return false
		}
	}
	return true
}

func areKeys(x int) bool { return isSet(x, api.MaxKeys) }

func isIndex(n, many int) bool { return within(n, 0, many-1) }

// checkRoom checks a strongroom and a room of it.
func checkRoom(s api.Strong, room int) api.Errno {
	if e := Check(s); e != api.OK {
		return e
	}
	if !isIndex(room, len(s.Rooms)) {
		return api.ErrRange
	}
	return api.OK
}
