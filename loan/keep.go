package loan

import "lombard/api"

// Keep returns the days on which a loan is renewed as seldom as possible.
func Keep(d api.Deal, until int) ([]int, api.Errno) {
	if e := Check(d); e != api.OK {
		return nil, e
	}
	if !within(until, d.Start, api.MaxDay) {
		return nil, api.ErrRange
	}
	var l []int
	// Whoever renews earlier must renew again no later: so each renewal waits for the last day.
	for last := lastDay(d, d.Start); last < until; last = lastDay(d, last) {
		if len(l) == api.MaxActs {
			return nil, api.ErrLimit
		}
		l = append(l, last)
	}
	return l, api.OK
}

// lastDay returns the last day on which a loan is not too old if its age is 0 on a day.
func lastDay(d api.Deal, from int) int {
	last := from + oldest(d.Tariff)
	for _, day := range d.Closed {
		// Also what is closed right behind the last day makes the loan no older.
		if from < day && day <= last+1 {
			last++
		}
	}
	return last
}
