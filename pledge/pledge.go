// Package pledge is layer 1: see shared/doc/01-pledge.md.
//
// Descriptions are in grammar.go, item.go, text.go and cover.go, measures in measure.go and fake.go.
package pledge

import "lombard/api"

// IsWord reports whether a text is a word.
func IsWord(s string) bool {
	if len(s) == 0 || len(s) > api.MaxWord || !isLetter(s[0]) {
		return false
	}
	for i := range len(s) {
		if c := s[i]; !isLetter(c) && !isDigit(c) && c != '-' {
			return false
		}
	}
	return true
}

func isLetter(c byte) bool { return 'a' <= c && c <= 'z' }

func isDigit(c byte) bool { return '0' <= c && c <= '9' }

// areWords reports whether the elements of a list are words, all different.
func areWords(l []string) bool {
	seen := map[string]bool{}
	for _, s := range l {
		if seen[s] || !IsWord(s) {
			return false
		}
		seen[s] = true
	}
	return true
}

// sum adds up what each element of a list counts.
func sum[T any](l []T, count func(T) int) int {
	n := 0
	for _, x := range l {
		n += count(x)
	}
	return n
}
