package fund

import "lombard/api"

// starts are those of the groups in a run, and never for groups that it does not reach.
type starts [api.MaxGroups]int

// never is later than any start of a group that a run reaches, and than any day.
const never = 1 << 20

// areBegins reports whether a list is strictly increasing indices of groups.
func (b book) areBegins(l []int) bool {
	for i, group := range l {
		if !b.isIndex(group) || i > 0 && group <= l[i-1] {
			return false
		}
	}
	return true
}

// starts returns the starts if a run begins with some groups.
func (b book) starts(begins []int) starts {
	var s starts
	for group := range s {
		s[group] = never
	}
	for _, group := range begins {
		s[group] = 0
	}
spreading:
	for {
		before := s
		for _, w := range b.Ways {
			s[w.To] = min(s[w.To], s[w.From]+w.Delay)
		}
		if s == before {
			break spreading
		}
	}
	return s
}

// Starts returns the start of each group in a run.
func Starts(f api.Fund, begins []int) ([]int, api.Errno) {
	if e := Check(f); e != api.OK {
		return nil, e
	}
	b := book{f}
	if !b.areBegins(begins) {
		return nil, api.ErrBegins
	}
	s := b.starts(begins)
	var out []int
	for group := range len(f.Groups) {
		start := s[group]
		if start == never {
			start = -1
		}
		out = append(out, start)
	}
	return out, api.OK
}

// mayTake reports whether a group with a start may take these numbers, one for each day.
func (b book) mayTake(g api.Group, start int, out []int) bool {
	if len(out) != len(b.In) {
		return false
	}
	for day, n := range out {
		most := g.Limit
		if day < start+g.Notice {
			most = 0
		}
		if !within(n, 0, most) {
			return false
		}
	}
	return total(out, itself) <= g.Sum
}

func (b book) isAllowed(r api.Run) bool {
	if len(r.Begins) > b.Begin || !b.areBegins(r.Begins) || len(r.Out) != len(b.Groups) {
		return false
	}
	s := b.starts(r.Begins)
	for group := range len(b.Groups) {
		if !b.mayTake(b.Groups[group], s[group], r.Out[group]) {
			return false
		}
	}
	return true
}

// Allowed reports whether a run is allowed.
func Allowed(f api.Fund, r api.Run) (bool, api.Errno) {
	if e := Check(f); e != api.OK {
		return false, e
	}
	return book{f}.isAllowed(r), api.OK
}
