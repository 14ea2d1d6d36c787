package pledge

import (
	"iter"
	"slices"

	"lombard/api"
)

// items yields an item and the parts in it, each behind the item of which it is a part, with how deep it lies.
// It yields without end what contains itself: who ranges over an item that was not checked must stop.
func items(x api.Item) iter.Seq2[int, api.Item] {
	return func(yield func(int, api.Item) bool) { visit(1, x, yield) }
}

// visit reports whether the visit goes on.
func visit(deep int, x api.Item, yield func(int, api.Item) bool) bool {
	if !yield(deep, x) {
		return false
	}
	for _, part := range x.Parts {
		if !visit(deep+1, part, yield) {
			return false
		}
	}
	return true
}

// Check checks a description.
func Check(g []api.Class, x api.Item) api.Errno {
	_, e := open(g, x)
	return e
}

// allow reports whether a description is valid.
func (k classes) allow(x api.Item) bool {
	n := 0
	for deep, y := range items(x) {
		n++
		if n > api.MaxItems || deep > api.MaxDeep || !k.fit(y) {
			return false
		}
	}
	return true
}

// fit reports whether an item is one of its class, whatever its parts are like but for their classes.
func (k classes) fit(x api.Item) bool {
	c, ok := k[x.Class]
	if !ok || len(x.Says) != len(c.Traits) || len(x.Parts) > c.Most {
		return false
	}
	for i, t := range c.Traits {
		if !maySay(t, x.Says[i]) {
			return false
		}
	}
	for _, part := range x.Parts {
		if !slices.Contains(c.Parts, part.Class) {
			return false
		}
	}
	return true
}

func maySay(t api.Trait, said string) bool {
	if said == "" {
		return !t.Must
	}
	return slices.Contains(t.Values, said)
}

// Count returns how many items a description has, and of how many traits something is said.
func Count(g []api.Class, x api.Item) (items, said int, e api.Errno) {
	if _, e := open(g, x); e != api.OK {
		return 0, 0, e
	}
	return size(x), sayings(x), api.OK
}

// size returns how many items a description has.
func size(x api.Item) int { return 1 + sum(x.Parts, size) }

// sayings returns of how many traits of all items something is said.
func sayings(x api.Item) int {
	n := 0
	for _, y := range items(x) {
		n += sum(y.Says, func(word string) int { return min(len(word), 1) })
	}
	return n
}
