package ticket

import (
	"iter"

	"lombard/api"
)

const (
	codeBytes = 10
	checkUnit = 100 // what the number in a code is multiplied by
	blank     = '?'
)

// Code returns the code of a number.
func Code(n int) (string, api.Errno) {
	if !within(n, 1, api.MaxNumber) {
		return "", api.ErrRange
	}
	return codeOf(n), api.OK
}

func codeOf(n int) string {
	code := make([]byte, 0, codeBytes)
	for digit := range digits(whole(n)) {
		code = append(code, '0'+byte(digit))
	}
	return string(code)
}

// whole returns the code of a number as a number.
func whole(n int) int { return checkUnit*n + 98 - checkUnit*n%97 }

// digits yields the digits of the code that is this number, from the first one on.
func digits(w int) iter.Seq[int] {
	return func(yield func(int) bool) {
		unit := 1
		for range codeBytes - 1 {
			unit *= 10
		}
		for ; unit > 0; unit /= 10 {
			if !yield(w / unit % 10) {
				return
			}
		}
	}
}

// meant yields the digits that a byte of a code may be, increasing.
func meant(c byte) iter.Seq[int] {
	return func(yield func(int) bool) {
		for digit := range 10 {
			if (c == blank || c == '0'+byte(digit)) && !yield(digit) {
				return
			}
		}
	}
}

// isForm reports whether a text has the form of a code of which at most so many digits cannot be read.
func isForm(code string, blanks int) bool {
	if len(code) != codeBytes {
		return false
	}
	for i := range len(code) {
		switch c := code[i]; {
		case c == blank:
			blanks--
		case c < '0' || c > '9':
			return false
		}
	}
	return blanks >= 0
}

// Number returns the number of a code.
func Number(code string) (int, api.Errno) {
	if !isForm(code, 0) {
		return 0, api.ErrForm
	}
	for _, n := range numbers(code) {
		return n, api.OK
	}
	return 0, api.ErrCheck
}

// Reads returns all numbers with whose code one agrees that cannot be read everywhere.
func Reads(code string) ([]int, api.Errno) {
	if !isForm(code, api.MaxBlanks) {
		return nil, api.ErrForm
	}
	return numbers(code), api.OK
}

// numbers returns all numbers with whose code one agrees that has the form of a code, increasing.
func numbers(code string) []int {
	wholes := []int{0} // that begin like the code
	for i := range len(code) {
		var longer []int
		for _, w := range wholes {
			for digit := range meant(code[i]) {
				longer = append(longer, 10*w+digit)
			}
		}
		wholes = longer
	}
	var l []int
	for _, w := range wholes {
		// The code is compared as a whole: 00, 01 and 99 as check digits have the right rest, too, but are those of no number.
		if n := w / checkUnit; n > 0 && whole(n) == w {
			l = append(l, n)
		}
	}
	return l
}
