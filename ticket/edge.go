package ticket

import "lombard/api"

const unread = -1 // a number of a half that cannot be read any more

func isEdge(l []int) bool { return isCut(l, 0) }

func isHalf(l []int) bool { return isCut(l, unread) }

// isCut reports whether a list is as long as an edge, and its numbers are from a least one to 9.
func isCut(l []int, least int) bool {
	if !within(len(l), api.MinEdge, api.MaxEdge) {
		return false
	}
	for _, n := range l {
		if !within(n, least, 9) {
			return false
		}
	}
	return true
}

// fit returns whether a half fits an edge, and their agreement if it does.
func fit(edge, half []int) (known int, fits bool) {
	fits = alike(edge, half, func(full, torn int) bool {
		if torn == unread {
			return true
		}
		known++
		return full == torn
	})
	if !fits || known < api.MinKnown {
		return 0, false
	}
	return known, true
}

// Fit returns the agreement of an edge and a half.
func Fit(edge, half []int) (int, api.Errno) {
	if !isEdge(edge) || !isHalf(half) {
		return 0, api.ErrEdge
	}
	known, fits := fit(edge, half)
	if !fits {
		return 0, api.ErrFit
	}
	return known, api.OK
}

// Best returns which half fits an edge best.
func Best(edge []int, halves [][]int) (int, api.Errno) {
	if !isEdge(edge) || len(halves) > api.MaxHalves {
		return 0, api.ErrEdge
	}
	for _, half := range halves {
		if !isHalf(half) {
			return 0, api.ErrEdge
		}
	}
	best, most, alone := 0, 0, false
	for i, half := range halves {
		known, fits := fit(edge, half)
		switch {
		case !fits || known < most:
		case known == most:
			alone = false
		default:
			best, most, alone = i, known, true
		}
	}
	if !alone {
		return 0, api.ErrNone
	}
	return best, api.OK
}
