package census

import (
	"math"

	"lombard/api"
)

// ages is for each room how many days ago it was counted, and 0 for rooms that are not there.
type ages [api.MaxTurned]int

// forever is more than the number of any turns that end.
const forever = math.MaxInt

// wheel is periods in the calculation, and how many more turns keep them at most from the ages on that were looked at.
type wheel struct {
	periods []int
	more    map[ages]int
}

func wheelOf(periods []int) wheel { return wheel{periods, map[ages]int{}} }

func isPeriod(n int) bool { return within(n, 1, api.MaxPeriod) }

func arePeriods(l []int) bool { return within(len(l), 1, api.MaxTurned) && all(l, isPeriod) }

func (w wheel) isRoom(n int) bool { return within(n, 0, len(w.periods)-1) }

// after returns the ages at the end of a day on which a room is counted, and whether they keep the periods.
func (w wheel) after(a ages, room int) (ages, bool) {
	kept := true
	for i, period := range w.periods {
		a[i]++
		if i == room {
			a[i] = 0
		}
		kept = kept && a[i] < period
	}
	return a, kept
}

// Keeps reports whether turns keep periods.
func Keeps(periods, turns []int) (bool, api.Errno) {
	w := wheelOf(periods)
	if !arePeriods(periods) || len(turns) > api.MaxTurns || !all(turns, w.isRoom) {
		return false, api.ErrTurns
	}
	var now ages
	for _, room := range turns {
		next, kept := w.after(now, room)
		if !kept {
			return false, api.OK
		}
		now = next
	}
	return true, api.OK
}

// lasts returns how many more turns keep the periods at most from some ages on.
func (w wheel) lasts(a ages) int {
	if n, ok := w.more[a]; ok {
		return n
	}
	// As long as these ages are looked at they last for ever: turns that come back to them can go round.
	w.more[a] = forever
	most := 0
	for room := range w.periods {
		next, kept := w.after(a, room)
		if !kept {
			continue
		}
		n := w.lasts(next)
		if n == forever {
			return forever
		}
		most = max(most, n+1)
	}
	w.more[a] = most
	return most
}

// endless returns the ages at the end of a day on which a room is counted, and whether turns can go on for ever from then on.
func (w wheel) endless(a ages, room int) (ages, bool) {
	next, kept := w.after(a, room)
	return next, kept && w.lasts(next) == forever
}

// Turns returns the first turns that can go on for ever.
func Turns(periods []int, days int) ([]int, api.Errno) {
	if !arePeriods(periods) {
		return nil, api.ErrTurns
	}
	if !within(days, 0, api.MaxTurns) {
		return nil, api.ErrRange
	}
	w := wheelOf(periods)
	var now ages
	if w.lasts(now) != forever {
		return nil, api.ErrNone
	}
	count := w.endless
	var turns []int
day:
	for range days {
		for room := range periods {
			if next, ok := count(now, room); ok {
				turns, now = append(turns, room), next
				continue day
			}
		}
	}
	return turns, api.OK
}

// Lasts returns the greatest number of turns that keep periods.
func Lasts(periods []int) (int, api.Errno) {
	if !arePeriods(periods) {
		return 0, api.ErrTurns
	}
	n := wheelOf(periods).lasts(ages{})
	if n == forever {
		return 0, api.ErrNone
	}
	return n, api.OK
}
