package wanted

import (
	"maps"
	"slices"

	"lombard/api"
	"lombard/pledge"
)

// meanings are words that a word means, by that word.
type meanings map[string]map[string]bool

// CheckPairs checks pairs of words.
func CheckPairs(l []api.Pair) api.Errno {
	isWrong := func(p api.Pair) bool { return !pledge.IsWord(p.Said) || !pledge.IsWord(p.Listed) }
	if len(l) > api.MaxPairs || slices.ContainsFunc(l, isWrong) {
		return api.ErrPairs
	}
	return api.OK
}

// Means returns all words that a word means.
func Means(l []api.Pair, word string) ([]string, api.Errno) {
	if e := CheckPairs(l); e != api.OK {
		return nil, e
	}
	return slices.Sorted(maps.Keys(listed(l).from(word))), api.OK
}

// listed returns what each word Said means by a single pair.
func listed(l []api.Pair) meanings {
	m := meanings{}
	for _, p := range l {
		if m[p.Said] == nil {
			m[p.Said] = map[string]bool{}
		}
		m[p.Said][p.Listed] = true
	}
	return m
}

// from returns a word, and all that it means by one of these meanings after the other.
func (m meanings) from(word string) map[string]bool {
	found := map[string]bool{}
	var visit func(word string)
	visit = func(word string) {
		if found[word] {
			return
		}
		found[word] = true
		for next := range m[word] {
			visit(next)
		}
	}
	visit(word)
	return found
}

// meaningsOf returns all that each word Said means. Any other word means itself alone, and is left out.
func meaningsOf(l []api.Pair) meanings {
	direct, m := listed(l), meanings{}
	for said := range direct {
		m[said] = direct.from(said)
	}
	return m
}

// has reports whether a word means one of others.
func (m meanings) has(word string, others []string) bool {
	return slices.ContainsFunc(others, func(other string) bool { return word == other || m[word][other] })
}
