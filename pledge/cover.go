package pledge

import (
	"slices"
	"strings"

	"lombard/api"
)

// Covers reports whether a description covers another one.
func Covers(g []api.Class, a, b api.Item) (bool, api.Errno) {
	if _, e := open(g, a, b); e != api.OK {
		return false, e
	}
	return covers(a, b), api.OK
}

func covers(a, b api.Item) bool {
	if a.Class != b.Class {
		return false
	}
	for i, said := range a.Says {
		if said != "" && said != b.Says[i] {
			return false
		}
	}
	return assign(a.Parts, b.Parts)
}

// assign reports whether each of the parts gets another one of these that it covers.
func assign(parts, others []api.Item) bool {
	const nobody = -1
	holders := make([]int, len(others)) // which part has each of the others
	for i := range holders {
		holders[i] = nobody
	}
	tried := make([]bool, len(others))
	var place func(part int) bool
	// The first one that fits may be needed elsewhere: whoever holds it is placed anew, as long as that is possible.
	place = func(part int) bool {
		found := false
	search:
		for i, other := range others {
			if tried[i] || !covers(parts[part], other) {
				continue search
			}
			tried[i] = true
			if holders[i] == nobody || place(holders[i]) {
				holders[i], found = part, true
				break search
			}
		}
		return found
	}
	for part := range parts {
		clear(tried)
		if !place(part) {
			return false
		}
	}
	return true
}

// Sort returns the sorted form of a description.
func Sort(g []api.Class, x api.Item) (api.Item, api.Errno) {
	k, e := open(g, x)
	if e != api.OK {
		return api.Item{}, e
	}
	return k.sorted(x), api.OK
}

func (k classes) sorted(x api.Item) api.Item {
	parts := make([]api.Item, len(x.Parts))
	for i, part := range x.Parts {
		parts[i] = k.sorted(part)
	}
	slices.SortFunc(parts, func(a, b api.Item) int { return strings.Compare(k.text(a), k.text(b)) })
	return api.Item{Class: x.Class, Says: slices.Clone(x.Says), Parts: parts}
}
