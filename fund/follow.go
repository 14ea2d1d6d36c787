package fund

import "lombard/api"

// areIn reports whether a list has a number for each span, within it.
func areIn(l []int, spans []api.Span) bool {
	if len(l) != len(spans) {
		return false
	}
	for day, s := range spans {
		if !within(l[day], s.Min, s.Max) {
			return false
		}
	}
	return true
}

// Follow returns the cash at the end of each day.
func Follow(f api.Fund, plan []int, r api.Run, in, prices []int) ([]int, api.Errno) {
	b := book{f}
	if e := Check(f); e != api.OK {
		return nil, e
	}
	if !b.isPlan(plan) {
		return nil, api.ErrSales
	}
	if !b.isAllowed(r) {
		return nil, api.ErrRun
	}
	if !areIn(in, f.In) || !areIn(prices, f.Prices) {
		return nil, api.ErrFlows
	}
	cash := b.Cash
	var out []int
	for day := range b.days() {
		takenOn := func(row []int) int { return row[day] }
		cash += in[day] + plan[day]*prices[day] - b.Bonds[day] - total(r.Out, takenOn)
		out = append(out, cash)
	}
	return out, api.OK
}
