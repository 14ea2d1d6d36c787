package pledge

import "lombard/api"

// unread is a reading that there is not.
const unread = -1

// CheckMeasures checks measures.
func CheckMeasures(m []api.Measure) api.Errno {
	if len(m) < 1 || len(m) > api.MaxMeasures {
		return api.ErrMeasures
	}
	for _, x := range m {
		if !within(x.Tol, 0, api.MaxTol) || !within(x.Labour, 1, api.MaxLabour) {
			return api.ErrMeasures
		}
	}
	return api.OK
}

func within(n, least, most int) bool { return least <= n && n <= most }

// check returns the first error of measures, fakes and lists of readings.
func check(m []api.Measure, l []api.Fake, lists ...[]int) api.Errno {
	if e := CheckMeasures(m); e != api.OK {
		return e
	}
	for _, reads := range lists {
		if !areReadings(m, reads) {
			return api.ErrReadings
		}
	}
	if !areFakes(m, l) {
		return api.ErrFakes
	}
	return api.OK
}

func areReadings(m []api.Measure, reads []int) bool {
	if len(reads) != len(m) {
		return false
	}
	for _, r := range reads {
		if r != unread && !within(r, 0, api.MaxSize) {
			return false
		}
	}
	return true
}

// around returns the sizes that differ from one by at most so much.
func around(size, by int) api.Span { return api.Span{Min: size - by, Max: size + by} }

// meet returns what lies in both spans; Min is greater than Max if nothing does.
func meet(a, b api.Span) api.Span {
	return api.Span{Min: max(a.Min, b.Min), Max: min(a.Max, b.Max)}
}

func isEmpty(s api.Span) bool { return s.Min > s.Max }

// Narrow returns between what sizes lie of which all readings are true.
func Narrow(m []api.Measure, reads [][]int) ([]api.Span, api.Errno) {
	if e := CheckMeasures(m); e != api.OK {
		return nil, e
	}
	if len(reads) > api.MaxSessions {
		return nil, api.ErrLimit
	}
	if e := check(m, nil, reads...); e != api.OK {
		return nil, e
	}
	spans := make([]api.Span, len(m))
	for i, x := range m {
		spans[i] = api.Span{Min: 0, Max: api.MaxSize}
		for _, session := range reads {
			if session[i] != unread {
				spans[i] = meet(spans[i], around(session[i], x.Tol))
			}
		}
		if isEmpty(spans[i]) {
			return nil, api.ErrClash
		}
	}
	return spans, api.OK
}

// Agree reports whether readings agree with others.
func Agree(m []api.Measure, taken, returned []int) (bool, api.Errno) {
	if e := check(m, nil, taken, returned); e != api.OK {
		return false, e
	}
	for i, x := range m {
		a, b := taken[i], returned[i]
		if a != unread && b != unread && max(a-b, b-a) > 2*x.Tol {
			return false, api.OK
		}
	}
	return true, api.OK
}
