package clerk_test

import (
	"fmt"
	"slices"
	"strings"
	"testing"

	"lombard/api"
)

// rightLines are lines that are not wrong, with an error or without one, for a clerk who took a ring from ada.
func rightLines() []string {
	return []string{
		"day 9999999999", "day 0", "metal 9999999999", "metal 50",
		"take A 9999999999 9999999999 0 0 0 0 0 0 00000000 : x",
		"take : 0 0 0 0 0 0 0 0 9999999999999999 : : : ; ( ) = \x00 é \xff",
		"pay 0 0", "pay ada 9999999999", "renew ?", "rest : 0", "redeem ! ???????? 0 0", "redeem 1 0123456789?????? 9999999999 9999999999",
		"block \t", "free 1 ????????????????", "replace é 0123456789",
		"list 0 : a", "list 9999999999 : a b c d e ; f ; g ! h i", "list 0 : : :: ;; !! ; :", "list 0 : x ! : ?",
		"sell 0 0 0 a :", "sell 9999999999 0 0 a b c d e f g h : 0 0 0", "sell 0 0 0 : :", "sell 0 0 0 : : 1 2 3", "sell 0 0 0 a : : 9999999999 9999999999 9999999999", "sell 0 0 0 a : 1 2 3 : 4 5 6",
		"claim 0", "claim :", "pass", "give 0", "give 0 0 9999999999" + strings.Repeat(" 1", 30),
		"move a 0 0 0", "check ; 9999999999 0 0", "open ! 0 0 9999999999",
		"owe 0", "owe :", "where A", "holds \xff", "cash",
	}
}

// P11.2: what is no wrong line
func TestRightLines(t *testing.T) {
	for _, line := range rightLines() {
		c := begin(t, shop())
		does(t, c, ring("ada", 1))
		if _, e := c.Do(line); e == api.ErrLine {
			t.Errorf("%q is a wrong line", line)
		}
	}
}

// P11.2: wrong lines, also such that are right ones but for blanks, and none of which comes into the journal
func TestWrongLines(t *testing.T) {
	c := begin(t, shop())
	does(t, c, ring("ada", 1))
	refuses(t, c, api.ErrLine,
		"", " ", "  ", "\n", "day", "day ", "day x", "day 1 2", "day -1", "day +1", "day 01", "day 00", "day 1.", "day 1e3", "day 0x1", "day 1_0", "day ٣", "day 10000000000", "day 99999999999999999999", "Day 800", "days 800", "day\t800", "day 800\n", "800",
		"metal", "metal 0 0", "metal -0", "metal x",
		"take", "take a 1 2 3 4 5 6 7 8 12345678", "take a 1 2 3 4 5 6 7 8 12345678 :", "take a 1 2 3 4 5 6 7 8 12345678 ring", "take a 1 2 3 4 5 6 7 12345678 : ring", "take a 1 2 3 4 5 6 7 8 9 12345678 : ring", "take a 1 2 3 4 5 6 7 8 1234567 : ring", "take a 1 2 3 4 5 6 7 8 12345678123456781 : ring", "take a 1 2 3 4 5 6 7 8 1234567? : ring", "take a 1 2 3 4 5 6 7 8 1234567x : ring", "take a 1 2 3 4 5 6 7 8 : ring", "take 1 2 3 4 5 6 7 8 12345678 : ring",
		"pay", "pay "+first, "pay "+first+" x", "pay "+first+" 1 1", "pay "+first+" -1", "pay 1",
		"renew", "renew "+first+" 1", "rest "+first, "rest "+first+" 1 1", "rest 1", "rest "+first+" 1.",
		"redeem", "redeem "+first, "redeem "+first+" 12345678", "redeem "+first+" 12345678 0", "redeem "+first+" 1234567 0 1", "redeem "+first+" 12345678123456781 0 1", "redeem "+first+" 1234567- 0 1", "redeem "+first+" 12345678 0 1 2", "redeem "+first+" 12345678 0 x", "redeem 12345678 0 1",
		"block", "block "+first+" 1", "free", "free "+first, "free "+first+" 1234567", "free "+first+" 1234567/", "free "+first+" 1234567:", "free "+first+" 12345678 1", "free 12345678", "replace", "replace "+first, "replace "+first+" ????????", "replace "+first+" 1234567?", "replace "+first+" 1234567", "replace "+first+" 12345678 0", "replace 12345678",
		"list", "list 0", "list 0 :", "list : a", "list x : a", "list 0 a", "list 0 a : b", "list 0 : ;", "list 0 : a ;", "list 0 : ; a", "list 0 : a ; ; b", "list 0 : !", "list 0 : a !", "list 0 : ! a", "list 0 : a ; ! b", "list 0 : a ! b ; c", "list 0 : a ! b ! c", "list 0 : a ! ; b", "list 0 : a ! b ;", "list 0 : a ! b !", "list -1 : a", "list 0 0 : a",
		"sell", "sell 0 0 0", "sell 0 0 0 :", "sell 0 0 0 a", "sell 0 0 : a", "sell 0 0 a :", "sell 0 0 0 : 1 2 3", "sell 0 0 0 a : 1", "sell 0 0 0 a : 1 2", "sell 0 0 0 a : 1 2 3 4", "sell 0 0 0 a : 1 2 x", "sell 0 0 0 a : 1 2 03", "sell x 0 0 a :", "sell 0 0 0 a b c d e f g h i :", "sell 0 0 0 a 1 2 3", "sell 0 0 0 a 1 2 3 : 4",
		"claim", "claim ada 1", "pass 1", "give", "give x", "give 1 x", "give 1 -1", "give 1 : 2",
		"move", "move ada", "move ada 1", "move ada 1 0", "move ada 1 0 1 1", "move 1 0 1", "move ada 1 0 x", "check ada 1 0", "check ada 1 0 1 1", "check ada x 0 1", "open ada 1 0", "open ada 1 0 1 1", "open ada 1 x 1",
		"owe", "owe "+first+" 1", "where", "where ada ada", "holds", "holds ada ada", "cash 1", "pledge", "?",
	)
	for _, line := range rightLines() {
		refuses(t, c, api.ErrLine, " "+line, line+" ", line+" \t \n ", strings.Replace(line+" ", " ", "  ", 1))
	}
}

// P11.2: lines in which a token is missing, or is another one, or there is one more
func TestTokens(t *testing.T) {
	r := random(2)
	counts := map[bool]int{}
	kinds := []string{"", "0", "7", "00", "10000000000", "ada", ":", ";", "!", "?", "12345678", "1234567?", "é", "\xff", "\x00", "\n", "((", "-1", first}
	l := append(rightLines(), ring("bob", 2), "redeem "+first+" "+fits+" 0 1", "sell 1 0 1 "+first+" : 1 1 500")
	c := begin(t, shop())
	does(t, c, ring("ada", 1))
	for range 40000 {
		tokens := strings.Split(l[r.IntN(len(l))], " ")
		for range 1 + r.IntN(2) {
			i := r.IntN(len(tokens) + 1)
			tokens = slices.Insert(tokens[:i:i], i, append([]string{kinds[r.IntN(len(kinds))]}[:r.IntN(2)], tokens[min(i+r.IntN(2), len(tokens)):]...)...)
		}
		line := strings.Join(tokens, " ")
		_, _, right := read(line)
		if _, e := c.Do(line); (e != api.ErrLine) != right && e != api.ErrFull {
			t.Fatalf("%q: error %d", line, e)
		} else if e == api.OK && len(c.Journal()) > 100 {
			c = begin(t, shop())
			does(t, c, ring("ada", 1))
		}
		counts[right]++
	}
	if counts[true] < 5000 || counts[false] < 5000 {
		t.Errorf("only %v", counts)
	}
}

// long is a shop whose rings are told of in long words, and a line of as many bytes that takes one.
func long(bytes int) (s api.Shop, line string) {
	s = wide()
	value := strings.Repeat("v", 16)
	name := func(i int) string { return strings.Repeat("t", 15) + fmt.Sprint(i) }
	s.Grammar[0] = api.Class{Name: "ring", Parts: []string{"ring"}, Most: 6}
	for i := range 8 {
		s.Grammar[0].Traits = append(s.Grammar[0].Traits, api.Trait{Name: name(i), Values: []string{value}})
	}
	// said is of how many traits something is said.
	taking := func(said int, pawn, edge, seal string) string {
		item := func() string {
			text := "ring"
			for i := range min(said, 8) {
				text += " " + name(i) + "=" + value
			}
			said -= min(said, 8)
			return text
		}
		part := func() string {
			text := item() + " ( " + item()
			for range 5 {
				text += " ; " + item()
			}
			return text + " )"
		}
		return fmt.Sprint("take ", pawn, " 100 10 12 1 ", seal, " 3 0 1 ", edge, " : ", item(), " ( ", part(), " ; ", part(), " )")
	}
	missing := bytes - len(taking(0, "", "", ""))
	said := (missing - 10) / len(" "+name(0)+"="+value)
	missing -= len(taking(said, "", "", "")) - len(taking(0, "", "", ""))
	seal := strings.Repeat("1", min(6, missing-9))
	edge := strings.Repeat("1", 8+min(8, missing-len(seal)-9))
	return s, taking(said, strings.Repeat("a", missing-len(seal)-len(edge)), edge, seal)
}

// P11.2: a line has at most 4096 bytes
func TestLongLines(t *testing.T) {
	for bytes := 4090; bytes < 4100; bytes++ {
		s, line := long(bytes)
		c := begin(t, s)
		switch {
		case len(line) != bytes:
			t.Fatalf("%d bytes, not %d", len(line), bytes)
		case bytes <= 4096:
			says(t, c, line, first+" 100")
			says(t, c, "cash", fmt.Sprint(s.Cash-100, " 0 0"))
		default:
			refuses(t, c, api.ErrLine, line)
		}
	}
	c := begin(t, shop())
	does(t, c, ring("ada", 1))
	for _, start := range []string{"give 0", "list 0 : a", "take a 1 1 1 1 1 1 1 1 12345678 : x", "owe", "claim"} {
		for _, n := range []int{4096, 4097, 70000} {
			line := start + " " + strings.Repeat("7 ", n)
			line = line[:n-1] + "7"
			_, e := c.Do(line)
			if right := n == 4096 && start != "owe" && start != "claim"; (e != api.ErrLine) != right || e == api.OK {
				t.Errorf("%s and %d bytes: error %d", start, n, e)
			}
			if line = start + strings.Repeat("\x00", n-len(start)); start == "owe" || start == "claim" {
				line = start + " " + line[len(start)+1:]
				if _, e := c.Do(line); (e != api.ErrLine) != (n == 4096) || e == api.OK {
					t.Errorf("%s and %d bytes: error %d", start, n, e)
				}
			}
		}
	}
}

// P11.2: a journal has at most 256 lines; then no line but a wrong one has another error, and questions are answered
func TestManyLines(t *testing.T) {
	c := begin(t, shop())
	does(t, c, ring("ada", 1))
	for range 255 {
		does(t, c, "day 800")
	}
	if len(c.Journal()) != 256 {
		t.Fatalf("%d lines", len(c.Journal()))
	}
	for _, line := range rightLines() {
		if !isQuestion(line) {
			refuses(t, c, api.ErrFull, line)
		}
	}
	refuses(t, c, api.ErrFull, "pass", "pay "+first+" 1", "redeem "+first+" 12345678 0 1", "move ada 2 0 1", "day 1")
	refuses(t, c, api.ErrLine, "day", "day 800 1", "passed", "pass 1", "renew "+first+" 1", "pay "+first, "pass ", "")
	says(t, c, "cash", "900 0 0")
	says(t, c, "where ada", "1")
	says(t, c, "owe "+first, "100 0 0")
	says(t, c, "holds ada", "")
	refuses(t, c, api.ErrName, "where bob")
}
