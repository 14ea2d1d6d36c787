package wanted_test

import (
	"slices"
	"testing"

	"lombard/api"
	"lombard/wanted"
)

// wrongEntry checks that an entry is not valid, and that all functions say so, wherever it is in a list.
func wrongEntry(t *testing.T, x api.Entry) {
	t.Helper()
	errs(t, "CheckEntry", wanted.CheckEntry(x), api.ErrEntry)
	for name, call := range withEntry() {
		q := fine()
		q.x = x
		errs(t, name, call(q), api.ErrEntry)
	}
	for name, call := range withList() {
		for i := range list() {
			q := fine()
			q.list[i] = x
			errs(t, name, call(q), api.ErrEntry)
		}
	}
}

func rightEntry(t *testing.T, x api.Entry) {
	t.Helper()
	errs(t, "CheckEntry", wanted.CheckEntry(x), api.OK)
	for name, call := range withPairs() {
		q := fine()
		q.x, q.list = x, []api.Entry{x}
		if e := call(q); e != api.OK && e != api.ErrNone {
			t.Errorf("%s with %v: error %d", name, x, e)
		}
	}
}

// P5.1: how many clauses and words there may be; the same ones may be there twice
func TestEntryLists(t *testing.T) {
	for n := range 12 {
		words := slices.Repeat([]string{"jewel"}, n)
		for _, x := range []struct {
			least, most int
			entry       api.Entry
		}{
			{1, 6, since(1, slices.Repeat([][]string{clause("jewel")}, n)...)},
			{1, 4, since(1, words)},
			{1, 4, since(1, clause("jewel"), words)},
			{1, 4, since(1, words, clause("jewel", "a", "b", "c"))},
			{0, 4, not(since(1, clause("jewel")), words...)},
		} {
			if n < x.least || n > x.most {
				wrongEntry(t, x.entry)
				continue
			}
			rightEntry(t, x.entry)
		}
	}
	full := numbers(4)
	rightEntry(t, not(since(1, slices.Repeat([][]string{full}, 6)...), full...))
	wrongEntry(t, api.Entry{})
	wrongEntry(t, not(since(1), "gold"))
}

// P5.1: only words
func TestEntryWords(t *testing.T) {
	for _, s := range notWords() {
		wrongEntry(t, since(1, clause(s)))
		wrongEntry(t, since(1, clause("jewel", "a", "b", s)))
		wrongEntry(t, since(1, clause("jewel"), clause(s, "a")))
		wrongEntry(t, not(since(1, clause("jewel")), s))
		wrongEntry(t, not(since(1, clause("jewel")), "a", "b", "c", s))
	}
	rightEntry(t, not(since(1, clause("abcdefghijklmnop", "a-", "z9")), "b--0"))
}

// P5.1: Day is a day, and Until is 0, or a day after it
func TestEntryDays(t *testing.T) {
	x := since(0, clause("jewel"))
	for _, day := range []int{0, 1, 2, 100, 36499, 36500} {
		x.Day = day
		for _, end := range append(beyond(1, api.MaxDay), 1, 2, 3, 99, 100, 101, 36499, 36500) {
			x.Until = end
			if end == 0 || end > day && end <= 36500 {
				rightEntry(t, x)
				continue
			}
			wrongEntry(t, x)
		}
	}
	for _, day := range beyond(0, api.MaxDay) {
		for _, end := range []int{0, 1, 36500, 36501, 36502} {
			wrongEntry(t, until(since(day, clause("jewel")), end))
		}
	}
}
