package ticket_test

import (
	"slices"
	"strconv"
	"testing"

	"lombard/api"
	"lombard/ticket"
)

// someNumbers are the ends of the range, and random numbers of all lengths.
func someNumbers(n int) []int {
	r := random(2)
	l := []int{1, 2, 96, 97, 98, 99, 100, 9999999, 10000000, 12345678, 99999998, 99999999}
	for range n {
		most := 10
		for range r.IntN(8) {
			most *= 10
		}
		l = append(l, 1+r.IntN(most-1))
	}
	return l
}

// coded is what Code returns without an error.
func coded(t *testing.T, n int) string {
	t.Helper()
	s, e := ticket.Code(n)
	if e != api.OK {
		t.Fatalf("Code(%d): error %d", n, e)
	}
	return s
}

// P3.1: the code of each number, and its number again
func TestCode(t *testing.T) {
	for n, want := range map[int]string{1: first, 2: second, 3: third, 12345678: far, 99999999: "9999999952"} {
		if s := coded(t, n); s != want {
			t.Errorf("Code(%d): %s", n, s)
		}
	}
	checks := map[string]bool{}
	for _, n := range someNumbers(20000) {
		s := coded(t, n)
		k, e := ticket.Number(s)
		if s != slowCode(n) || k != n || e != api.OK {
			t.Fatalf("Code(%d): %s; its number is %d, error %d", n, s, k, e)
		}
		checks[s[8:]] = true
	}
	for check := range 100 {
		s := strconv.Itoa(100 + check)[1:]
		if checks[s] != (check >= 2 && check <= 98) {
			t.Errorf("check digits %s: %v", s, checks[s])
		}
	}
	for _, n := range append(beyond(1, api.MaxNumber), -12345678) {
		if s, e := ticket.Code(n); s != "" || e != api.ErrRange {
			t.Errorf("Code(%d): %q, error %d", n, s, e)
		}
	}
}

// wrongForms are texts that have not the form of a code, wherever a byte is wrong.
func wrongForms() []string {
	l := []string{"", "1", "000000019", "00000000195", "000000195", " 0000000195", "0000000195 ", "+000000195", "-000000195", "0000000195\n", "00000001９5", "0x00000195", "0_00000195"}
	for i := range 10 {
		for _, c := range []string{"/", ":", " ", "x", "\x00", "\xff", "!", "@", "*"} {
			l = append(l, first[:i]+c+first[i+1:])
		}
	}
	return l
}

// P3.1: what is no code has no number
func TestNumber(t *testing.T) {
	refuse := func(s string, want api.Errno) {
		t.Helper()
		if n, e := ticket.Number(s); n != 0 || e != want {
			t.Errorf("Number(%q): %d, error %d, want %d", s, n, e, want)
		}
	}
	for _, s := range append(wrongForms(), "00000001?5", "?000000195", "??????????") {
		refuse(s, api.ErrForm)
	}
	for check := range 100 { // there is no number 0
		refuse("00000000"+strconv.Itoa(100 + check)[1:], api.ErrCheck)
	}
	refuse("0000000196", api.ErrCheck)
	refuse("0000001095", api.ErrCheck)
	for _, n := range someNumbers(2000) {
		s := coded(t, n)
		for check := range 100 {
			if x := s[:8] + strconv.Itoa(100 + check)[1:]; x != s { // also the ones with the right rest
				refuse(x, api.ErrCheck)
			}
		}
	}
}

// slowReads tries all digits, from the last number to the first one.
func slowReads(code string) []int {
	for i := range len(code) {
		if code[i] != '?' {
			continue
		}
		var l []int
		for d := range 10 {
			l = append(l, slowReads(code[:i]+strconv.Itoa(d)+code[i+1:])...)
		}
		return l
	}
	if n, _ := strconv.Atoi(code[:8]); n > 0 && slowCode(n) == code {
		return []int{n}
	}
	return nil
}

// P3.1: all numbers that may have been read, in order
func TestReads(t *testing.T) {
	check := func(s string, want []int) {
		t.Helper()
		if l, e := ticket.Reads(s); !slices.Equal(l, want) || e != api.OK {
			t.Errorf("Reads(%s): %v, error %d, want %v", s, l, e, want)
		}
	}
	check("00000001??", []int{1})
	check("?000000195", []int{1})
	check(first, []int{1})
	check("0000000196", nil)
	check("00000000??", nil)
	check("0000000098", nil)
	check("???0019595", slowReads("???0019595"))
	check("000000???5", []int{1, 11, 21, 31, 40, 50, 60, 69, 79, 89, 98})
	r := random(3)
	for range 3000 {
		s := []byte(coded(t, 1+r.IntN(api.MaxNumber)))
		if r.IntN(3) == 0 {
			s[r.IntN(10)] = '0' + byte(r.IntN(10))
		}
		for range r.IntN(4) {
			s[r.IntN(10)] = '?'
		}
		check(string(s), slowReads(string(s)))
	}
}

// P3.1: at most 3 digits are unknown, and all other bytes are digits
func TestReadsForm(t *testing.T) {
	for _, s := range append(wrongForms(), "????000195", "000000????", "0?0?0?0?95", "??????????", "?????????", "0000000x??", "???00001x5", "0000000?9?5") {
		if l, e := ticket.Reads(s); len(l) > 0 || e != api.ErrForm {
			t.Errorf("Reads(%q): %v, error %d", s, l, e)
		}
	}
}

// P3.8: a wrong digit, and two exchanged ones, are noticed
func TestMistakes(t *testing.T) {
	for _, n := range someNumbers(3000) {
		s := coded(t, n)
		wrong := func(x []byte) {
			if k, e := ticket.Number(string(x)); x != nil && (k != 0 || e != api.ErrCheck) {
				t.Errorf("Number(%s) instead of %s: %d, error %d", x, s, k, e)
			}
		}
		for i := range s {
			for d := range 10 {
				x := []byte(s)
				x[i] = '0' + byte(d)
				if string(x) != s {
					wrong(x)
				}
			}
			x := []byte(s)
			if i > 0 && x[i-1] != x[i] {
				x[i-1], x[i] = x[i], x[i-1]
				wrong(x)
			}
		}
	}
}

// P3.8: what was read is among the numbers of Reads, whatever cannot be read
func TestReadable(t *testing.T) {
	for _, n := range someNumbers(8) {
		s := coded(t, n)
		for k := range 1000 { // each of three places, also the same one more than once
			x := []byte(s)
			x[k%10], x[k/10%10], x[k/100] = '?', '?', '?'
			if l, e := ticket.Reads(string(x)); !slices.Contains(l, n) || e != api.OK {
				t.Fatalf("Reads(%s): %v, error %d, without %d", x, l, e, n)
			}
		}
	}
}
