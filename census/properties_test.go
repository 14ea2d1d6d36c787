package census_test

import (
	"slices"
	"testing"
)

// P10.8: no loss of as many pledges is missed by more choices than the worst one, which is itself missed by so many
func TestWorstIsWorst(t *testing.T) {
	r := random(11)
	less := 0
	for i := range 3000 {
		a := someAudit(r, []size{small, great}[i%2])
		sample := someCounts(r, a)
		lost, most, of := worst(t, a, sample)
		if ways, all := missed(t, a, sample, lost); sumOf(lost) != a.Lost || ways != most || all != of {
			t.Fatalf("Worst(%v, %v): %v, %d of %d, but Miss says %d of %d", a, sample, lost, most, of, ways, all)
		}
		for range 20 {
			l := someLoss(r, a)
			ways, all := missed(t, a, sample, l)
			if ways > most || all != of || ways == most && slices.Compare(l, lost) < 0 {
				t.Fatalf("Worst(%v, %v): %v, %d of %d, but %v is missed by %d of %d", a, sample, lost, most, of, l, ways, all)
			}
			if ways < most {
				less++
			}
		}
	}
	if less < 10000 {
		t.Errorf("only %d losses are missed by less", less)
	}
}

// P10.8: if more pledges are looked at, or are lost, no greater part of all choices misses them
func TestMoreIsMissedLess(t *testing.T) {
	r := random(12)
	less := 0
	for i := range 10000 {
		a := someAudit(r, []size{small, great}[i%2])
		sample, lost := someCounts(r, a), someCounts(r, a)
		ways, all := missed(t, a, sample, lost)
		_, worstWays, worstAll := worst(t, a, sample)
		room := r.IntN(len(sample))
		if sample[room] < a.Stock[room] {
			more := replaced(sample, room, sample[room]+1)
			n, m := missed(t, a, more, lost)
			_, k, of := worst(t, a, more)
			if n*all > ways*m || k*worstAll > worstWays*of || found(t, a, sample) && !found(t, a, more) {
				t.Fatalf("%v: of the sample %v more choices miss than of %v", a, more, sample)
			}
			if n*all < ways*m {
				less++
			}
		}
		if lost[room] < a.Stock[room] {
			if n, m := missed(t, a, sample, replaced(lost, room, lost[room]+1)); n > ways || m != all {
				t.Fatalf("%v, %v: more choices miss %v with one more of room %d", a, sample, lost, room)
			}
		}
		if a.Lost < sumOf(a.Stock) {
			was := found(t, a, sample)
			a.Lost++
			if _, k, of := worst(t, a, sample); k > worstWays || of != worstAll || was && !found(t, a, sample) {
				t.Fatalf("%v: of the sample %v more choices miss the worst loss", a, sample)
			}
		}
	}
	if less < 1000 {
		t.Errorf("only %d times fewer choices missed", less)
	}
}

// P10.9: the sample of Least finds each loss of the stated size as surely as is asked for; no cheaper one does, nor an earlier one that costs as much
func TestLeastIsLeast(t *testing.T) {
	r := random(13)
	cheaper := 0
	for i := range 300 {
		a := someAudit(r, []size{tiny, small, small}[i%3])
		l, cost := least(t, a)
		if !found(t, a, l) || slowCost(a, l) != cost {
			t.Fatalf("Least(%v): %v, %d", a, l, cost)
		}
		for range 10 {
			if ways, all := missed(t, a, l, someLoss(r, a)); 1000*(all-ways) < a.Sure*all {
				t.Fatalf("Least(%v): %v, but a loss is missed by %d of %d", a, l, ways, all)
			}
		}
		slowLists(a.Stock, func(other []int) {
			n := slowCost(a, other)
			if n > cost || n == cost && slices.Compare(other, l) >= 0 {
				return
			}
			cheaper++
			if found(t, a, other) {
				t.Fatalf("Least(%v): %v, %d, but %v finds for %d", a, l, cost, other, n)
			}
		})
	}
	if cheaper < 1000 {
		t.Errorf("only %d samples were cheaper", cheaper)
	}
}

// P10.9: what must be found more surely, or is less, costs no less
func TestSurerCostsMore(t *testing.T) {
	r := random(14)
	for i := range 300 {
		a := someAudit(r, []size{tiny, small, small}[i%3])
		_, before := least(t, a)
		x := a
		x.Sure = min(1000, a.Sure+r.IntN(200))
		if _, n := least(t, x); n < before {
			t.Fatalf("Least(%v): %d, of %v: %d", a, before, x, n)
		}
		x = a
		x.Lost = 1 + r.IntN(a.Lost)
		if _, n := least(t, x); n < before {
			t.Fatalf("Least(%v): %d, of %v: %d", a, before, x, n)
		}
	}
}

// P10.10: with the weights of Patrol nobody gains more than the risk in any room; with others there is a room in which they gain at least as much; what a lesser risk needs is more than there is
func TestLeastRisk(t *testing.T) {
	r := random(15)
	same := 0
	for range 3000 {
		losses := someLosses(r, 6)
		weights, risk := patrolled(t, losses)
		if sumOf(weights) != 64 || slices.Min(weights) < 0 || risked(t, losses, weights) != risk {
			t.Fatalf("Patrol(%v): %v, %d", losses, weights, risk)
		}
		for room, loss := range losses {
			if loss*(64-weights[room]) > risk {
				t.Fatalf("Patrol(%v): %v, %d, but room %d", losses, weights, risk, room)
			}
		}
		if n := needed(t, losses, risk); n > 64 {
			t.Fatalf("Need(%v, %d): %d", losses, risk, n)
		}
		for _, n := range []int{risk - 1, risk / 2, 0} {
			if n >= 0 && n < risk && needed(t, losses, n) <= 64 {
				t.Fatalf("Need(%v, %d): %d, but the least risk is %d", losses, n, needed(t, losses, n), risk)
			}
		}
		for range 10 {
			others := someWeights(r, len(losses))
			if len(losses) > 1 && r.IntN(2) == 0 {
				others = shifted(weights, r.IntN(len(losses)), r.IntN(len(losses)))
			}
			n := risked(t, losses, others)
			if n < risk {
				t.Fatalf("Patrol(%v): %v, %d, but %v has %d", losses, weights, risk, others, n)
			}
			if n == risk && !slices.Equal(others, weights) {
				same++
			}
		}
	}
	if same < 100 {
		t.Errorf("only %d other weights had the same risk", same)
	}
}

// shifted is weights with one night less in a room, and one more in another one.
func shifted(weights []int, from, to int) []int {
	l := slices.Clone(weights)
	if l[from] > 0 {
		l[from]--
		l[to]++
	}
	return l
}

// P10.10: a greater risk needs no more, and where more is lost no less is risked
func TestMoreIsLost(t *testing.T) {
	r := random(16)
	for range 3000 {
		losses := someLosses(r, 6)
		risk := r.IntN(64*slices.Max(losses) + 1)
		if needed(t, losses, risk+1) > needed(t, losses, risk) {
			t.Fatalf("Need(%v, %d): more than for %d", losses, risk+1, risk)
		}
		room := r.IntN(len(losses))
		more := replaced(losses, room, min(10000, losses[room]+1+r.IntN(10)))
		_, before := patrolled(t, losses)
		if _, after := patrolled(t, more); after < before {
			t.Fatalf("Patrol(%v): %d, of %v: %d", losses, before, more, after)
		}
	}
}

// P10.11: as one of the numbers goes through all values, each order is drawn just once
func TestEachOrderOnce(t *testing.T) {
	r := random(17)
	for i := range 60 {
		n := 1 + i%6
		if i >= 58 {
			n = 7
		}
		var numbers []int
		for range 1 + r.IntN(16) {
			numbers = append(numbers, r.IntN(factorials()[n]))
		}
		who := r.IntN(len(numbers))
		many := map[int]int{}
		for x := range factorials()[n] {
			many[ranked(t, drawn(t, n, n, replaced(numbers, who, x)))]++
		}
		if len(many) != factorials()[n] {
			t.Fatalf("%d of %d orders are drawn with %v as number %d goes through all values", len(many), factorials()[n], numbers, who)
		}
	}
}

// P10.11: it does not matter in which order the numbers come
func TestNumbersInAnyOrder(t *testing.T) {
	r := random(18)
	for range 1000 {
		n := 1 + r.IntN(8)
		var numbers []int
		for range 1 + r.IntN(16) {
			numbers = append(numbers, r.IntN(factorials()[n]))
		}
		l := drawn(t, n, n, numbers)
		r.Shuffle(len(numbers), func(i, j int) { numbers[i], numbers[j] = numbers[j], numbers[i] })
		if own := drawn(t, n, n, numbers); !slices.Equal(own, l) {
			t.Fatalf("Draw(%d, %v): %v, then %v", n, numbers, l, own)
		}
		for many := range n {
			if own := drawn(t, n, many, numbers); !slices.Equal(own, l[:many]) {
				t.Fatalf("Draw(%d, %d, %v): %v, want %v", n, many, numbers, own, l[:many])
			}
		}
	}
}

// P10.12: turns that are returned keep the periods, and so does what they begin with; they begin with the turns of fewer days
func TestTurnsKeep(t *testing.T) {
	r := random(19)
	ever, never := 0, 0
	for range 2000 {
		periods := somePeriods(r, 5, 8)
		last := lasting(t, periods)
		long, ok := turned(t, periods, 64)
		if ok != (last == -1) {
			t.Fatalf("Turns(%v): %v, but Lasts is %d", periods, ok, last)
		}
		for _, days := range []int{0, 1, r.IntN(65), 64} {
			l, own := turned(t, periods, days)
			if own != ok || ok && !slices.Equal(l, long[:days]) {
				t.Fatalf("Turns(%v, %d): %v, %v, of 64 days: %v", periods, days, l, own, long)
			}
			if ok && !kept(t, periods, l) {
				t.Fatalf("Turns(%v, %d): %v", periods, days, l)
			}
		}
		if !ok {
			never++
			continue
		}
		ever++
		for n := range 64 {
			if !kept(t, periods, long[:n]) {
				t.Fatalf("Turns(%v): %v, of which %d do not keep them", periods, long, n)
			}
		}
	}
	if ever < 300 || never < 300 {
		t.Errorf("only %d periods can be kept for ever, and %d cannot", ever, never)
	}
}

// P10.12: no turns keep the periods longer than Lasts says, and some do so long
func TestNoLonger(t *testing.T) {
	r := random(20)
	longest := 0
	for range 2000 {
		periods := somePeriods(r, 5, 8)
		last := lasting(t, periods)
		if last < 0 {
			continue
		}
		longest = max(longest, last)
		if n := slowReach(t, periods, last+1); n != last {
			t.Fatalf("Lasts(%v): %d, but turns of %d days keep them", periods, last, n)
		}
	}
	if longest < 10 {
		t.Errorf("only periods that last %d days", longest)
	}
}

// slowReach is how many turns Keeps allows, up to so many: those that leave each room as long ago are tried once.
func slowReach(t *testing.T, periods []int, most int) int {
	now := [][]int{nil}
	for days := range most {
		been := map[[5]int]bool{}
		var next [][]int
		for _, l := range now {
			for room := range periods {
				longer := append(slices.Clone(l), room)
				var last [5]int
				for day, x := range longer {
					last[x] = day + 1
				}
				if !been[last] && kept(t, periods, longer) {
					been[last] = true
					next = append(next, longer)
				}
			}
		}
		if len(next) == 0 {
			return days
		}
		now = next
	}
	return most
}

// P10.12: longer periods never make it worse, nor does a room less
func TestLongerPeriods(t *testing.T) {
	r := random(23)
	better := 0
	lastOrEver := func(periods []int) int {
		if n := lasting(t, periods); n >= 0 {
			return n
		}
		return 1 << 30
	}
	for range 3000 {
		periods := somePeriods(r, 5, 7)
		room := r.IntN(len(periods))
		longer := replaced(periods, room, periods[room]+1)
		before, after := lastOrEver(periods), lastOrEver(longer)
		if after < before {
			t.Fatalf("Lasts(%v): %d, of %v: %d", periods, before, longer, after)
		}
		if after > before {
			better++
		}
		if fewer := slices.Delete(slices.Clone(periods), room, room+1); len(fewer) > 0 && lastOrEver(fewer) < before {
			t.Fatalf("Lasts(%v): %d, of %v: %d", periods, before, fewer, lastOrEver(fewer))
		}
	}
	if better < 300 {
		t.Errorf("only %d times it was better", better)
	}
}
