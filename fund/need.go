package fund

import (
	"iter"
	"slices"

	"lombard/api"
)

// takenBy returns how much a group with a start can have taken by a day.
func takenBy(g api.Group, start, day int) int {
	return min(g.Sum, g.Limit*max(0, day+1-start-g.Notice))
}

// taken returns how much all groups together can have taken by a day if a run begins with some of them.
func (b book) taken(begins []int, day int) int {
	s := b.starts(begins)
	sum := 0
	for group := range len(b.Groups) {
		sum += takenBy(b.Groups[group], s[group], day)
	}
	return sum
}

// beginnings yields all lists of groups with which a run may begin, the first ones first. The lists share memory.
func (b book) beginnings() iter.Seq[[]int] {
	return func(yield func([]int) bool) {
		var l []int
		var visit func(next int) bool
		visit = func(next int) bool {
			if !yield(l) {
				return false
			}
			if len(l) == b.Begin {
				return true
			}
			for group := next; group < len(b.Groups); group++ {
				l = append(l, group)
				if !visit(group + 1) {
					return false
				}
				l = l[:len(l)-1]
			}
			return true
		}
		visit(0)
	}
}

// worst returns with which groups a run begins in which most is taken by a day, and how much that is.
func (b book) worst(day int) (begins []int, sum int) {
	for l := range b.beginnings() {
		// Of several lists the first one counts, and without any group nothing is taken.
		if n := b.taken(l, day); n > sum {
			begins, sum = slices.Clone(l), n
		}
	}
	return begins, sum
}

// Worst returns with which groups a run begins in which most is taken by a day.
func Worst(f api.Fund, day int) (begins []int, sum int, e api.Errno) {
	if e := checkDay(f, day); e != api.OK {
		return nil, 0, e
	}
	begins, sum = book{f}.worst(day)
	return begins, sum, api.OK
}

// takes returns what a group with a start takes on each day if it takes all that it can, as soon as it can.
func (b book) takes(g api.Group, start int) []int {
	var out []int
	for day := range b.days() {
		out = append(out, takenBy(g, start, day)-takenBy(g, start, day-1))
	}
	return out
}

// Example returns a run in which most is taken by a day.
func Example(f api.Fund, day int) (api.Run, api.Errno) {
	if e := checkDay(f, day); e != api.OK {
		return api.Run{}, e
	}
	b := book{f}
	var r api.Run
	r.Begins, _ = b.worst(day)
	s := b.starts(r.Begins)
	for group := range len(b.Groups) {
		r.Out = append(r.Out, b.takes(b.Groups[group], s[group]))
	}
	return r, api.OK
}

// ledger is a book, and how much more is paid by each day at most than comes in at least: what the cash and the bars must cover.
type ledger struct {
	book
	pays [api.MaxHorizon]int
}

func ledgerOf(f api.Fund) ledger {
	l := ledger{book: book{f}}
	for day := range l.days() {
		_, taken := l.worst(day)
		l.pays[day] = taken + total(l.Bonds[:day+1], itself) - total(l.In[:day+1], leastOf)
	}
	return l
}

func (l ledger) need(day int) int { return l.pays[day] - l.Cash }

// Needs returns the need of each day.
func Needs(f api.Fund) ([]int, api.Errno) {
	if e := Check(f); e != api.OK {
		return nil, e
	}
	l := ledgerOf(f)
	var needs []int
	for day := range l.days() {
		needs = append(needs, l.need(day))
	}
	return needs, api.OK
}
