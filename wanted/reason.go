package wanted

import "lombard/api"

// explained reports whether no completion meets all of some clauses.
func (c completions) explained(clauses []int) bool {
	asked := 0
	for _, i := range clauses {
		asked |= 1 << i
	}
	for set, how := range c {
		if how != nil && set&asked == asked {
			return false
		}
	}
	return true
}

// isSelection reports whether a list is strictly increasing indices below a number.
func isSelection(l []int, many int) bool {
	least := 0
	for _, i := range l {
		if !within(i, least, many-1) {
			return false
		}
		least = i + 1
	}
	return true
}

// Explains reports whether clauses explain that a description does not match.
func Explains(g []api.Class, l []api.Pair, d api.Item, x api.Entry, clauses []int) (bool, api.Errno) {
	p, y, e := open(g, l, d, x)
	if e != api.OK {
		return false, e
	}
	if !isSelection(clauses, len(x.Clauses)) {
		return false, api.ErrClauses
	}
	return p.completions(y).explained(clauses), api.OK
}

// Reason returns the fewest clauses that explain that a description does not match.
func Reason(g []api.Class, l []api.Pair, d api.Item, x api.Entry) ([]int, api.Errno) {
	p, y, e := open(g, l, d, x)
	if e != api.OK {
		return nil, e
	}
	c := p.completions(y)
	for many := range len(x.Clauses) + 1 {
		if clauses, ok := c.reason(many, len(x.Clauses)); ok {
			return clauses, api.OK
		}
	}
	return nil, api.ErrNone // not even all clauses explain it: it may match
}

// reason returns the first list of so many of some clauses that explains that there is no match, and whether there is one.
func (c completions) reason(many, of int) ([]int, bool) {
	var clauses []int
	var search func(from int) bool
	search = func(from int) bool {
		if len(clauses) == many {
			return c.explained(clauses)
		}
		found := false
	next:
		for i := from; i < of; i++ {
			clauses = append(clauses, i)
			if search(i + 1) {
				found = true
				break next
			}
			clauses = clauses[:len(clauses)-1]
		}
		return found
	}
	ok := search(0)
	return clauses, ok
}
