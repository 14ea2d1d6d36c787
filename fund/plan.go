package fund

import (
	"math"
	"slices"
	"sort"

	"lombard/api"
)

// isPlan reports whether a list is a plan.
func (b book) isPlan(plan []int) bool {
	if len(plan) != len(b.Sell) {
		return false
	}
	for day, bars := range plan {
		if !within(bars, 0, b.Sell[day]) {
			return false
		}
	}
	return total(plan, itself) <= b.Bars
}

// Sound reports whether a plan is sound.
func Sound(f api.Fund, plan []int) (bool, api.Errno) {
	if e := Check(f); e != api.OK {
		return false, e
	}
	l := ledgerOf(f)
	if !l.isPlan(plan) {
		return false, api.ErrSales
	}
	brought := 0
	for day := range l.days() {
		brought += plan[day] * l.Prices[day].Min
		if brought < l.need(day) {
			return false, api.OK
		}
	}
	return true, api.OK
}

// table is, for each day and each number of bars, how much the bars that were sold before the day must have brought at least, so that all needs from this day on are met with so many more bars at most.
type table [api.MaxHorizon + 1][api.MaxBars + 1]int

// must returns how much must be brought by the end of a day, with so many bars left for the days behind it.
func (l ledger) must(t *table, day, left int) int { return max(l.need(day), t[day+1][left]) }

func (l ledger) table() table {
	var t table
	for left := range t[len(l.In)] {
		t[len(l.In)][left] = math.MinInt
	}
	for day, most := range slices.Backward(l.Sell) {
		for left := range l.Bars + 1 {
			least := math.MaxInt
			for bars := range min(most, left) + 1 {
				least = min(least, l.must(&t, day, left-bars)-bars*l.Prices[day].Min)
			}
			t[day][left] = least
		}
	}
	return t
}

// isNothing reports whether nothing must be brought before a day: before the first one, nothing can be.
func isNothing(least int) bool { return least <= 0 }

// hasPlan reports whether some plan is sound.
func (l ledger) hasPlan() bool { return isNothing(l.table()[0][l.Bars]) }

// Least returns the sound plan with which the fewest bars are sold.
func Least(f api.Fund) (plan []int, bars int, e api.Errno) {
	if e := Check(f); e != api.OK {
		return nil, 0, e
	}
	l := ledgerOf(f)
	t := l.table()
	bars = slices.IndexFunc(t[0][:l.Bars+1], isNothing)
	if bars < 0 {
		return nil, 0, api.ErrNone
	}
	left, brought := bars, 0
	for day := range l.days() {
		sold, price := 0, l.Prices[day].Min
		for brought+sold*price < l.must(&t, day, left-sold) {
			sold++
		}
		plan = append(plan, sold)
		left -= sold
		brought += sold * price
	}
	return plan, bars, api.OK
}

// Plan returns a sound plan.
func Plan(f api.Fund) ([]int, api.Errno) {
	plan, _, e := Least(f)
	return plan, e
}

// isEnough reports whether some plan is sound with so much more cash.
func (l ledger) isEnough(more int) bool {
	l.Cash += more
	return l.hasPlan()
}

// mostCapital is enough cash for all bonds and all groups.
const mostCapital = (api.MaxHorizon + api.MaxGroups) * api.MaxFlow

// Capital returns by how much the cash must be greater.
func Capital(f api.Fund) (int, api.Errno) {
	if e := Check(f); e != api.OK {
		return 0, e
	}
	return sort.Search(mostCapital, ledgerOf(f).isEnough), api.OK
}

// Bears returns with how many groups a run may begin.
func Bears(f api.Fund) (int, api.Errno) {
	if e := Check(f); e != api.OK {
		return 0, e
	}
	for begin := len(f.Groups); begin >= 0; begin-- {
		f.Begin = begin
		if ledgerOf(f).hasPlan() {
			return begin, api.OK
		}
	}
	return 0, api.ErrNone
}
