package purse

import (
	"strings"

	"lombard/api"
)

// books are what a purse keeps.
type books struct {
	term      int
	surpluses []api.Surplus
	named     map[string]int // where in the list the surplus of a pledge is
	welfare   int
	notes     []api.Note
}

func isHeld(s api.Surplus) bool { return s.State == api.SurplusHeld }

func hasLeft(x api.Portion) bool { return x.Left > 0 }

// today returns the day of the purse.
func (b *books) today() int {
	if n := len(b.notes); n > 0 {
		return b.notes[n-1].Day
	}
	return 0
}

// isLate reports whether a surplus passes by a day.
func (b *books) isLate(s api.Surplus, day int) bool { return s.Day+b.term <= day }

// waits returns the sum of all surpluses that are held.
func (b *books) waits() int {
	return total(each(places(b.surpluses, isHeld), func(place int) int { return b.surpluses[place].Sum })...)
}

// add adds a surplus that is held. Of the pledge it keeps a text of its own, which may have been a part of a longer one.
func (b *books) add(pledge string, sum, day int) {
	pledge = strings.Clone(pledge)
	b.named[pledge] = len(b.surpluses)
	b.surpluses = append(b.surpluses, api.Surplus{Pledge: pledge, Sum: sum, Day: day, State: api.SurplusHeld})
}

// end ends the wait of a surplus, and returns its sum.
func (b *books) end(place, state, day int) int {
	s := &b.surpluses[place]
	s.State, s.Over = state, day
	return s.Sum
}

// What follows is what happens in calls. Each of them requires all that it needs before it changes anything.

func (b *books) sell(day, price int, parts []api.Part) []api.Portion {
	portions, e := Portions(price, parts)
	require(e == api.OK, e)
	for _, x := range parts {
		_, there := b.named[x.Pledge]
		require(!there, api.ErrPledge)
	}
	over := places(portions, hasLeft)
	require(len(b.surpluses)+len(over) <= api.MaxSurplus, api.ErrFull)
	for _, i := range over {
		b.add(parts[i].Pledge, portions[i].Left, day)
	}
	return portions
}

func (b *books) pay(day int, pledge string) int {
	place, there := b.named[pledge]
	require(there, api.ErrSurplus)
	s := b.surpluses[place]
	require(isHeld(s) && !b.isLate(s, day), api.ErrSurplus)
	return b.end(place, api.SurplusPaid, day)
}

func (b *books) pass(day int) int {
	late := places(b.surpluses, func(s api.Surplus) bool { return isHeld(s) && b.isLate(s, day) })
	sum := total(each(late, func(place int) int { return b.end(place, api.SurplusPassed, day) })...)
	b.welfare += sum
	return sum
}

func (b *books) give(weights []int) []int {
	given, e := Share(weights, b.welfare)
	require(e == api.OK, e)
	b.welfare = 0
	return given
}
