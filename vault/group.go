package vault

import "lombard/api"

// reaches reports whether a group reaches one of some rooms.
func reaches(s api.Strong, group peopleSet, goals roomSet) bool {
	return begin(s, group).end().reached&goals != 0
}

// groups returns the least groups that reach one of some rooms.
func groups(s api.Strong, goals roomSet) []int {
	return least(len(s.Staff), func(group peopleSet) bool { return reaches(s, group, goals) })
}

// Groups returns all least groups for a room.
func Groups(s api.Strong, room int) ([]int, api.Errno) {
	if e := checkRoom(s, room); e != api.OK {
		return nil, e
	}
	return groups(s, 1<<room), api.OK
}

// Guards returns all least guards of a room.
func Guards(s api.Strong, room int) ([]int, api.Errno) {
	if e := checkRoom(s, room); e != api.OK {
		return nil, e
	}
	n := len(s.Staff)
	// More people never reach less: if any group reaches the room without a guard, then all others together do.
	isGuard := func(guard peopleSet) bool { return !reaches(s, full[peopleSet](n)&^guard, 1<<room) }
	return least(n, isGuard), api.OK
}
