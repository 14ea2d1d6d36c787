package fund_test

import (
	"slices"

	"lombard/api"
)

// The functions here are written anew from the definitions of the document, each as it is said there.

// slowLists calls visit with each list of numbers from 0 to those that are given.
func slowLists(most []int, visit func(l []int)) {
	l := make([]int, len(most))
	for {
		visit(l)
		i := 0
		for i < len(l) && l[i] == most[i] {
			l[i] = 0
			i++
		}
		if i == len(l) {
			return
		}
		l[i]++
	}
}

// slowStarts follows all ways, one after the other, that come to no group twice.
func slowStarts(f api.Fund, begins []int) []int {
	starts := row(len(f.Groups), -1)
	var been [8]bool
	var come func(group, day int)
	come = func(group, day int) {
		if been[group] {
			return
		}
		been[group] = true
		if starts[group] < 0 || day < starts[group] {
			starts[group] = day
		}
		for _, w := range f.Ways {
			if w.From == group {
				come(w.To, day+w.Delay)
			}
		}
		been[group] = false
	}
	for _, group := range begins {
		come(group, 0)
	}
	return starts
}

// slowBeginnings are all lists with which a run may begin, the first ones first.
func slowBeginnings(f api.Fund) [][]int {
	var all [][]int
	for set := range 1 << len(f.Groups) {
		var l []int
		for group := range f.Groups {
			if set>>group&1 == 1 {
				l = append(l, group)
			}
		}
		if len(l) <= f.Begin {
			all = append(all, l)
		}
	}
	slices.SortFunc(all, slices.Compare)
	return all
}

func slowAllowed(f api.Fund, r api.Run) bool {
	isBeginning := func(l []int) bool { return slices.Equal(l, r.Begins) }
	if !slices.ContainsFunc(slowBeginnings(f), isBeginning) || len(r.Out) != len(f.Groups) {
		return false
	}
	starts := slowStarts(f, r.Begins)
	for i, g := range f.Groups {
		if len(r.Out[i]) != len(f.In) {
			return false
		}
		left := g.Sum
		for day, n := range r.Out[i] {
			if n < 0 || n > g.Limit || n > left || n > 0 && (starts[i] == -1 || day < starts[i]+g.Notice) {
				return false
			}
			left -= n
		}
	}
	return true
}

// slowRuns calls visit with each allowed run.
func slowRuns(f api.Fund, visit func(r api.Run)) {
	var most []int
	for _, g := range f.Groups {
		most = append(most, row(len(f.In), g.Limit)...)
	}
	slowLists(most, func(l []int) {
		var out [][]int
		for row := range slices.Chunk(l, len(f.In)) {
			out = append(out, row)
		}
		for _, begins := range slowBeginnings(f) {
			if r := run(begins, out...); slowAllowed(f, r) {
				visit(r)
			}
		}
	})
}

// slowTaken is what groups with these starts take by a day if each takes as much as it can, as soon as it can.
func slowTaken(f api.Fund, starts []int, day int) int {
	sum := 0
	for i, g := range f.Groups {
		left := g.Sum
		for d := 0; d <= day; d++ {
			if starts[i] >= 0 && d >= starts[i]+g.Notice {
				n := min(left, g.Limit)
				left -= n
				sum += n
			}
		}
	}
	return sum
}

func slowWorst(f api.Fund, day int) (begins []int, sum int) {
	sum = -1
	for _, l := range slowBeginnings(f) {
		if n := slowTaken(f, slowStarts(f, l), day); n > sum {
			begins, sum = l, n
		}
	}
	return begins, sum
}

// slowNeeds are the needs of all days.
func slowNeeds(f api.Fund) []int {
	taken := make([]int, len(f.In))
	for _, l := range slowBeginnings(f) {
		starts := slowStarts(f, l)
		for day := range taken {
			taken[day] = max(taken[day], slowTaken(f, starts, day))
		}
	}
	var needs []int
	for day := range f.In {
		n := taken[day] - f.Cash
		for d := 0; d <= day; d++ {
			n += f.Bonds[d] - f.In[d].Min
		}
		needs = append(needs, n)
	}
	return needs
}

// slowBrings is how much all bars that can be sold bring at least.
func slowBrings(f api.Fund) int {
	var prices []int
	for day, n := range f.Sell {
		prices = append(prices, row(n, f.Prices[day].Min)...)
	}
	slices.Sort(prices)
	return sumOf(prices[max(0, len(prices)-f.Bars):])
}

func slowFollow(f api.Fund, plan []int, r api.Run, in, prices []int) []int {
	var l []int
	cash := f.Cash
	for day := range f.In {
		cash += in[day]
		cash += plan[day] * prices[day]
		cash -= f.Bonds[day]
		for i := range f.Groups {
			cash -= r.Out[i][day]
		}
		l = append(l, cash)
	}
	return l
}

// slowWithin calls visit with each list of numbers within spans.
func slowWithin(l []api.Span, visit func(l []int)) {
	var most []int
	for _, s := range l {
		most = append(most, s.Max-s.Min)
	}
	slowLists(most, func(over []int) {
		var out []int
		for i, s := range l {
			out = append(out, s.Min+over[i])
		}
		visit(out)
	})
}

// slowSoundInAll tries all allowed runs, with all inflows and prices.
func slowSoundInAll(f api.Fund, plan []int) bool {
	is := true
	slowRuns(f, func(r api.Run) {
		slowWithin(f.In, func(in []int) {
			slowWithin(f.Prices, func(prices []int) {
				is = is && slices.Min(slowFollow(f, plan, r, in, prices)) >= 0
			})
		})
	})
	return is
}

// slowLack is by how much a plan fails to meet one of the needs at most (0: it meets them).
func slowLack(f api.Fund, needs, plan []int) int {
	lack, brought := 0, 0
	for day, need := range needs {
		brought += plan[day] * f.Prices[day].Min
		lack = max(lack, need-brought)
	}
	return lack
}

// slowPlans are all plans: those with few bars first, and of several the first one.
func slowPlans(f api.Fund) [][]int {
	var all [][]int
	slowLists(f.Sell, func(l []int) {
		if sumOf(l) <= f.Bars {
			all = append(all, slices.Clone(l))
		}
	})
	slices.SortFunc(all, func(a, b []int) int {
		if sumOf(a) != sumOf(b) {
			return sumOf(a) - sumOf(b)
		}
		return slices.Compare(a, b)
	})
	return all
}

func slowLeast(f api.Fund) ([]int, bool) {
	needs := slowNeeds(f)
	for _, plan := range slowPlans(f) {
		if slowLack(f, needs, plan) == 0 {
			return plan, true
		}
	}
	return nil, false
}

func slowCapital(f api.Fund) int {
	needs, least := slowNeeds(f), 1<<60
	for _, plan := range slowPlans(f) {
		least = min(least, slowLack(f, needs, plan))
	}
	return least
}

// slowFewest is the fewest bars with which the needs are met, found by how much so many bars can have brought by each day; -1, if there are none.
func slowFewest(f api.Fund, needs []int) int {
	const nothing = -1
	brought := append([]int{0}, row(f.Bars, nothing)...) // by how many bars were sold
	for day, need := range needs {
		next := row(f.Bars+1, nothing)
		for bars, sum := range brought {
			for n := 0; sum != nothing && n <= f.Sell[day] && bars+n <= f.Bars; n++ {
				if now := sum + n*f.Prices[day].Min; now >= need {
					next[bars+n] = max(next[bars+n], now)
				}
			}
		}
		brought = next
	}
	return slices.IndexFunc(brought, func(sum int) bool { return sum != nothing })
}

// slowBears tries how many groups may begin, from 0 on; -1, if there is no sound plan even if nobody runs.
func slowBears(f api.Fund) int {
	bears := -1
	for n := 0; n <= len(f.Groups); n++ {
		f.Begin = n
		if slowFewest(f, slowNeeds(f)) >= 0 {
			bears = n
		}
	}
	return bears
}
