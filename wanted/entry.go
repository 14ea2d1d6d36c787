package wanted

import (
	"slices"

	"lombard/api"
)

// CheckEntry checks an entry.
func CheckEntry(x api.Entry) api.Errno {
	if !areClauses(x.Clauses) || len(x.Not) > api.MaxNot || !areWords(x.Not) || !isDay(x.Day) {
		return api.ErrEntry
	}
	if x.Until != 0 && !within(x.Until, x.Day+1, api.MaxDay) {
		return api.ErrEntry
	}
	return api.OK
}

func areClauses(l [][]string) bool {
	isWrong := func(clause []string) bool { return !within(len(clause), 1, api.MaxChoice) || !areWords(clause) }
	return within(len(l), 1, api.MaxClauses) && !slices.ContainsFunc(l, isWrong)
}

// sought is an entry that is looked for, with its number in the list, among goods that are described in other words.
type sought struct {
	api.Entry
	number   int
	meanings meanings
}

// seek returns the entries of a list as what is looked for.
func seek(l []api.Pair, list []api.Entry) []sought {
	m := meaningsOf(l)
	var out []sought
	for i, x := range list {
		out = append(out, sought{x, i, m})
	}
	return out
}

// all is the set of all clauses: its bits are their indices, as in every set of clauses.
func (x sought) all() int { return 1<<len(x.Clauses) - 1 }

// meets returns the set of the clauses of which a word means a word.
func (x sought) meets(word string) int {
	set := 0
	for i, clause := range x.Clauses {
		if x.meanings.has(word, clause) {
			set |= 1 << i
		}
	}
	return set
}

// allows reports whether a word means none of those that must not be meant.
func (x sought) allows(word string) bool { return !x.meanings.has(word, x.Not) }

func (x sought) isOpen(day int) bool { return x.Day <= day && (x.Until == 0 || day < x.Until) }
