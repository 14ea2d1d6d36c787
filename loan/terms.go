package loan

import (
	"lombard/api"
	"lombard/pledge"
)

// maxValue is the greatest value on which something is lent.
const maxValue = 1 << 31

// CheckTerms checks terms.
func CheckTerms(t api.Terms) api.Errno {
	if !within(t.Fraction, 0, api.Shares) || !within(t.Cap, 0, api.MaxPrice) || !within(t.Floor, 0, t.Cap) {
		return api.ErrTerms
	}
	return api.OK
}

// Most returns the most that is lent on a value.
func Most(t api.Terms, v api.Span) (int, api.Errno) {
	if e := CheckTerms(t); e != api.OK {
		return 0, e
	}
	if !isSpan(v, maxValue) {
		return 0, api.ErrRange
	}
	return most(t, v), api.OK
}

func most(t api.Terms, v api.Span) int {
	m := v.Min * t.Fraction / api.Shares
	if m < t.Floor {
		m = min(t.Floor, v.Min)
	}
	return min(m, t.Cap)
}

// Lend returns what must be lent on a value.
func Lend(t api.Terms, v api.Span, wish int) (int, api.Errno) {
	if e := CheckTerms(t); e != api.OK {
		return 0, e
	}
	if !isSpan(v, maxValue) || !within(wish, 1, api.MaxPrice) {
		return 0, api.ErrRange
	}
	m := most(t, v)
	if m == 0 {
		return 0, api.ErrNone
	}
	return min(wish, m), api.OK
}

// For returns the terms for pledges of a class.
func For(l []api.Rule, class string) (api.Terms, api.Errno) {
	if !areRules(l) {
		return api.Terms{}, api.ErrTerms
	}
	for _, r := range l {
		if r.Class == class {
			return r.Terms, api.OK
		}
	}
	return api.Terms{}, api.ErrNone
}

func areRules(l []api.Rule) bool {
	if len(l) > api.MaxRules {
		return false
	}
	seen := map[string]bool{}
	for _, r := range l {
		if seen[r.Class] || !pledge.IsWord(r.Class) || CheckTerms(r.Terms) != api.OK {
			return false
		}
		seen[r.Class] = true
	}
	return true
}
