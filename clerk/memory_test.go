package clerk_test

import (
	"fmt"
	"math/rand/v2"
	"reflect"
	"slices"
	"strings"
	"sync"
	"testing"
	"unsafe"

	"lombard/api"
	"lombard/clerk"
)

// eachList calls a function for all lists within a value, also for those within lists, up to their capacity.
func eachList(v reflect.Value, do func(list reflect.Value)) {
	switch v.Kind() {
	case reflect.Pointer:
		eachList(v.Elem(), do)
	case reflect.Struct:
		for i := range v.NumField() {
			eachList(v.Field(i), do)
		}
	case reflect.Slice:
		do(v)
		for i := range v.Len() {
			eachList(v.Index(i), do)
		}
	}
}

// overwrite writes over all numbers and texts of a value, but not into its lists.
func overwrite(v reflect.Value) {
	switch v.Kind() {
	case reflect.Int:
		v.SetInt(-77)
	case reflect.String:
		v.SetString("over")
	case reflect.Struct:
		for i := range v.NumField() {
			overwrite(v.Field(i))
		}
	}
}

// scribble writes over the memory of all lists of values.
func scribble(values ...any) {
	for _, x := range values {
		eachList(reflect.ValueOf(x), func(list reflect.Value) {
			all := list.Slice(0, list.Cap())
			for i := range all.Len() {
				overwrite(all.Index(i))
			}
		})
	}
}

// spare gives all lists of a value memory behind them.
func spare(x any) {
	eachList(reflect.ValueOf(x), func(list reflect.Value) {
		next := reflect.MakeSlice(list.Type(), list.Len(), list.Len()+3)
		reflect.Copy(next, list)
		list.Set(next)
	})
}

// isBare reports whether the memory behind all lists of a value is zero.
func isBare(x any) bool {
	bare := true
	eachList(reflect.ValueOf(x), func(list reflect.Value) {
		all := list.Slice(0, list.Cap())
		for i := list.Len(); i < all.Len(); i++ {
			bare = bare && all.Index(i).IsZero()
		}
	})
	return bare
}

// full is a shop of which all lists have something in them.
func full() api.Shop {
	return changed(two, func(s *api.Shop) {
		s.Closed = []int{803, 804}
		s.Rules = append(s.Rules, api.Rule{Class: "gem", Terms: api.Terms{Fraction: 1, Cap: 80}})
		s.Market.Sales = append(s.Market.Sales, api.Sale{Kind: 1, Day: 799, Price: 6400}, api.Sale{Kind: 1, Day: 799, Price: 9600})
	})
}

// busy are lines that have no error in this shop, one for each command and more.
func busy() []string {
	return []string{
		"take ada 100 10 12 1 1 3 0 1 12345678 : ring metal=gold ( gem cut=oval ; gem )",
		"take bob 200 10 12 1 2 3 0 1 12345678 : ring metal=silver",
		"metal 60", "day 802", "pay " + first + " 10", "renew " + first, "rest " + second + " 2", "list 804 : jewel ; oval gold ! silver", "list 0 : coat ; hat",
		"move bob 2 0 1", "check bob 2 0 1", "open ada 3 1 2", "block " + first, "free " + first + " 1234??78", "block " + first, "day 807", "replace " + first + " 87654321", "pay " + third + " 5",
		"redeem " + third + " 876?4321 0 1", "take cyd 100 0 0 1 9 3 0 2 11111111 : gem cut=round", "day 840", "sell 1 0 1 " + second + " 0000000486 : 4 0 900 5 1 900",
		"claim bob", "pass", "give 1 2", "day 1000", "pass", "give 1 2 3",
	}
}

// P11.5: arguments are not changed, nor the memory behind them
func TestArguments(t *testing.T) {
	s := full()
	spare(&s)
	c := begin(t, s)
	errs(t, "Check", clerk.Check(s), api.OK)
	does(t, c, busy()...)
	journal := append(make([]string, 0, 100), busy()...)
	if d, n, e := clerk.Replay(s, journal); n != len(journal) || e != api.OK || told(d) != told(c) {
		t.Errorf("Replay: %d, error %d", n, e)
	}
	clerk.Replay(s, append(journal, "cash"))
	journal[:len(journal)+1][len(journal)] = ""
	if fmt.Sprint(s) != fmt.Sprint(full()) || !isBare(&s) || !slices.Equal(journal, busy()) || !isBare(&journal) {
		t.Errorf("arguments are changed: %v, %q", s, journal)
	}
}

// P11.5: shops and journals are not retained
func TestNotRetained(t *testing.T) {
	for n := range len(busy()) {
		s, journal := full(), busy()
		spare(&s)
		c, want := begin(t, s), begin(t, full())
		does(t, want, busy()[:n]...)
		if n%2 == 0 {
			does(t, c, journal[:n]...)
		} else {
			c, _, _ = clerk.Replay(s, journal[:n])
		}
		scribble(&s, journal)
		if told(c) != told(want) {
			t.Fatalf("shop or journal are retained: %s, want %s", told(c), told(want))
		}
		for _, line := range busy()[n:] {
			if got, x := does(t, c, line), does(t, want, line); got != x || told(c) != told(want) {
				t.Fatalf("%s: %q, want %q", line, got, x)
			}
			for _, question := range []string{"holds ada", "holds bob", "where bob", "owe " + first, "owe " + second} {
				got, e := c.Do(question)
				if x, e2 := want.Do(question); got != x || e != e2 {
					t.Fatalf("%s: %q, want %q", question, got, x)
				}
			}
		}
	}
}

// results are all lists that a clerk returns.
func results(c *clerk.Clerk) []any {
	return []any{c.Journal(), c.Pawns(), c.Tickets(), c.Carries(), c.Entries(), c.Surpluses()}
}

// P11.5: results share no memory with what the clerk keeps, nor with other results
func TestResults(t *testing.T) {
	c, want := begin(t, full()), begin(t, full())
	for _, line := range busy() {
		old, was := results(c), told(c)
		other := results(c)
		scribble(results(c)...)
		if got := told(c); got != was || !reflect.DeepEqual(old, other) {
			t.Fatalf("before %s: results share memory: %s, want %s", line, got, was)
		}
		if got, x := does(t, c, line), does(t, want, line); got != x || told(c) != told(want) {
			t.Fatalf("%s: %q, want %q", line, got, x)
		}
		if !reflect.DeepEqual(old, other) {
			t.Fatalf("%s: earlier results are changed", line)
		}
		scribble(old...)
	}
}

// P11.5: no two lists of a result share memory
func TestApart(t *testing.T) {
	c := begin(t, full())
	does(t, c, busy()...)
	for k, x := range results(c) {
		seen := map[uintptr]bool{}
		eachList(reflect.ValueOf(x), func(list reflect.Value) {
			// Each element lies at a place of its own.
			for i := range list.Cap() {
				at := list.Slice(0, list.Cap()).Index(i).Addr().Pointer()
				if i < list.Len() && list.Type().Elem().Kind() == reflect.Struct {
					continue
				}
				if seen[at] {
					t.Errorf("lists of the result %d share memory", k)
				}
				seen[at] = true
			}
		})
	}
}

// lies reports whether a text lies within the memory of another one.
func lies(s, within string) bool {
	at, from := uintptr(unsafe.Pointer(unsafe.StringData(s))), uintptr(unsafe.Pointer(unsafe.StringData(within)))
	return len(s) > 0 && from <= at && at < from+uintptr(len(within))
}

// eachText calls a function for all texts within a value.
func eachText(v reflect.Value, do func(s string)) {
	switch v.Kind() {
	case reflect.String:
		do(v.String())
	case reflect.Interface:
		eachText(v.Elem(), do)
	case reflect.Struct:
		for i := range v.NumField() {
			eachText(v.Field(i), do)
		}
	case reflect.Slice:
		for i := range v.Len() {
			eachText(v.Index(i), do)
		}
	}
}

// P11.5: a clerk keeps nothing of the memory of a line, nor of the words of a shop, which may be parts of long texts
func TestTexts(t *testing.T) {
	s := full()
	var texts []string
	eachText(reflect.ValueOf(s), func(x string) { texts = append(texts, x) })
	c := begin(t, s)
	for _, line := range busy() {
		line = strings.Clone(line)
		texts = append(texts, line)
		does(t, c, line)
	}
	eachText(reflect.ValueOf(results(c)), func(x string) {
		for _, y := range texts {
			if lies(x, y) {
				t.Errorf("%q lies in an argument", x)
			}
		}
	})
}

// P2: clerks do not know of each other; the same lines have the same answers, also at the same time
func TestSameResults(t *testing.T) {
	r := random(9)
	s := someShop(r)
	x := newSlow(s)
	var lines, want []string
	answer := func(s string, e api.Errno) string { return fmt.Sprint(s, "!", e) }
	for range 150 {
		line := writer{r, x, false}.line()
		lines, want = append(lines, line), append(want, answer(x.do(line)))
	}
	c, d := begin(t, s), begin(t, s)
	for i, line := range lines {
		if got := answer(c.Do(line)); got != want[i] {
			t.Fatalf("%s: %s, want %s", line, got, want[i])
		}
		if i >= 40 {
			if got := answer(d.Do(lines[i-40])); got != want[i-40] {
				t.Fatalf("%s of the other clerk: %s, want %s", lines[i-40], got, want[i-40])
			}
		}
	}
	var group sync.WaitGroup
	for range 4 {
		group.Go(func() {
			z, _ := clerk.New(s)
			for i, line := range lines {
				if got := answer(z.Do(line)); got != want[i] {
					t.Errorf("%s at the same time: %s, want %s", line, got, want[i])
				}
			}
		})
	}
	group.Wait()
}

// R3: a nil list and an empty one are the same
func TestNilAndEmpty(t *testing.T) {
	bare := func(s *api.Shop) {
		s.Pairs, s.Rules, s.Closed, s.Grammar[1].Traits, s.Grammar[1].Parts, s.Strong.Gates = nil, nil, nil, nil, nil, nil
	}
	empty := func(s *api.Shop) {
		s.Pairs, s.Rules, s.Closed, s.Grammar[1].Traits, s.Grammar[1].Parts, s.Strong.Gates = []api.Pair{}, []api.Rule{}, []int{}, []api.Trait{}, []string{}, []api.Gate{}
	}
	none := func(s *api.Shop) { s.Market.Sales = nil }
	nothing := func(s *api.Shop) { s.Market.Sales = []api.Sale{} }
	for _, l := range [][2]change{{bare, empty}, {none, nothing}} {
		c, d := begin(t, changed(l[0])), begin(t, changed(l[1]))
		for _, line := range append(rightLines(), busy()...) {
			a, e := c.Do(line)
			if b, e2 := d.Do(line); a != b || e != e2 || told(c) != told(d) {
				t.Errorf("%s: %q, error %d, and %q, error %d", line, a, e, b, e2)
			}
		}
	}
	for _, x := range [][2]change{
		{func(s *api.Shop) { s.Kinds = nil }, func(s *api.Shop) { s.Kinds = []string{} }},
		{func(s *api.Shop) { s.Grammar = nil }, func(s *api.Shop) { s.Grammar = []api.Class{} }},
		{func(s *api.Shop) { s.Ladder = nil }, func(s *api.Shop) { s.Ladder = []api.Rise{} }},
		{func(s *api.Shop) { s.Market.Fade = nil }, func(s *api.Shop) { s.Market.Fade = []int{} }},
		{func(s *api.Shop) { s.Strong.Rooms = nil }, func(s *api.Shop) { s.Strong.Rooms = []api.Chamber{} }},
	} {
		errs(t, "nil", clerk.Check(changed(x[0])), api.ErrShop)
		errs(t, "empty", clerk.Check(changed(x[1])), api.ErrShop)
	}
	for _, l := range [][]string{nil, {}} {
		if c, n, e := clerk.Replay(shop(), l); c == nil || n != 0 || e != api.OK || told(c) != told(begin(t, shop())) {
			t.Errorf("Replay of nothing: %d, error %d", n, e)
		}
	}
}

// spoil changes numbers, texts and lists of a value at random.
func spoil(r *rand.Rand, v reflect.Value) {
	numbers := append(extremes(), -1, 0, 1, 2, 64, 65, 1000, 1001, 12000, 12001, 36500, 36501, 1<<26, 1<<40, 1<<40+1)
	rare := r.IntN(60) == 0
	switch v.Kind() {
	case reflect.Int:
		if rare {
			v.SetInt(int64(numbers[r.IntN(len(numbers))]))
		}
	case reflect.String:
		if rare {
			v.SetString([]string{"", "gem", "ring", "A", "a b", "\xff", "coat"}[r.IntN(7)])
		}
	case reflect.Struct:
		for i := range v.NumField() {
			spoil(r, v.Field(i))
		}
	case reflect.Slice:
		if rare && v.Len() > 0 {
			v.Set(v.Slice(0, v.Len()-1))
		} else if rare {
			v.Set(reflect.MakeSlice(v.Type(), r.IntN(3)*r.IntN(60), 120))
		}
		for i := range v.Len() {
			spoil(r, v.Index(i))
		}
	}
}

// P1: whatever the shops and lines are, no function panics, and with an error all else is zero
func TestAnyArguments(t *testing.T) {
	r := random(10)
	counts := map[string]int{}
	for range 4000 {
		s := full()
		spoil(r, reflect.ValueOf(&s).Elem())
		e := clerk.Check(s)
		c, e2 := clerk.New(s)
		if e2 != e || (c == nil) != (e != api.OK) || e != api.OK && e != api.ErrShop {
			t.Fatalf("Check: error %d, New: error %d", e, e2)
		}
		counts[fmt.Sprint("shop ", e)]++
		l := busy()
		for range r.IntN(3) {
			i := r.IntN(len(l))
			b := []byte(l[i])
			b[r.IntN(len(b))] = byte(r.IntN(256))
			l[i] = string(b[:len(b)-r.IntN(2)*r.IntN(len(b))])
		}
		d, n, e := clerk.Replay(s, l)
		if (d == nil) != (e != api.OK) || n < 0 || n > len(l) || (n == len(l)) != (e == api.OK) {
			t.Fatalf("Replay: %d, error %d", n, e)
		}
		counts[fmt.Sprint("replay ", e == api.OK)]++
		for _, line := range l {
			answer, e := c.Do(line)
			if answer != "" && e != api.OK {
				t.Fatalf("%q: %q, error %d", line, answer, e)
			}
			counts[fmt.Sprint("line ", e == api.OK)]++
		}
	}
	for _, name := range []string{"shop 0", "shop 110", "replay true", "replay false", "line true", "line false"} {
		if counts[name] < 300 {
			t.Errorf("only %v", counts)
		}
	}
}

// P1: lines of any bytes
func TestAnyBytes(t *testing.T) {
	r := random(11)
	c := begin(t, shop())
	before := told(c)
	for range 20000 {
		b := make([]byte, r.IntN(40)*r.IntN(2)*r.IntN(200))
		for i := range b {
			b[i] = byte(r.IntN(256))
		}
		refused := string(b)
		if answer, e := c.Do(refused); answer != "" || e != api.ErrLine {
			t.Fatalf("%q: %q, error %d", refused, answer, e)
		}
	}
	if told(c) != before {
		t.Errorf("changed: %s", told(c))
	}
}
