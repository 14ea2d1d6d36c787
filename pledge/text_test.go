package pledge_test

import (
	"strings"
	"testing"

	"lombard/api"
	"lombard/pledge"
)

// rings are all descriptions of the grammar shop.
func rings() []api.Item {
	gems := []api.Item{gem(""), gem("round"), gem("oval")}
	lists := [][]api.Item{nil}
	for _, a := range gems {
		lists = append(lists, []api.Item{a})
		for _, b := range gems {
			lists = append(lists, []api.Item{a, b})
		}
	}
	l := gems
	for _, metal := range []string{"gold", "silver"} {
		for _, size := range []string{"", "small", "large"} {
			for _, parts := range lists {
				l = append(l, api.Item{Class: "ring", Says: []string{metal, size}, Parts: parts})
			}
		}
	}
	return l
}

// P1.2: the examples, and what is said or not, with parts or without
func TestPrint(t *testing.T) {
	bag := api.Item{Class: "bag"}
	for _, y := range []struct {
		g           []api.Class
		x           api.Item
		s           string
		items, said int
	}{
		{shop(), ring("", gem("round"), gem("")), "ring metal=gold ( gem cut=round ; gem )", 3, 2},
		{shop(), ring("small"), "ring metal=gold size=small", 1, 2},
		{shop(), ring(""), "ring metal=gold", 1, 1},
		{shop(), gem(""), "gem", 1, 0},
		{shop(), gem("oval"), "gem cut=oval", 1, 1},
		{shop(), ring("large", gem("oval")), "ring metal=gold size=large ( gem cut=oval )", 2, 3},
		{nest(), bag, "bag", 1, 0},
		{nest(), box("b", box("c", bag, box("")), bag, box("", box("b"))), "box hue=b ( box hue=c ( bag ; box ) ; bag ; box ( box hue=b ) )", 7, 3},
	} {
		if s, e := pledge.Print(y.g, y.x); s != y.s || e != api.OK {
			t.Errorf("Print: %q, %d, want %q", s, e, y.s)
		}
		if x, e := pledge.Parse(y.g, y.s); !same(x, y.x) || e != api.OK {
			t.Errorf("Parse(%q): %v, %d", y.s, x, e)
		}
		if items, said, e := pledge.Count(y.g, y.x); items != y.items || said != y.said || e != api.OK {
			t.Errorf("Count of %q: %d, %d, %d", y.s, items, said, e)
		}
	}
}

// P1.2: a grammar of which all is as great as it may be
func TestGreatest(t *testing.T) {
	word := func(c string, i int) string { return strings.Repeat(c, 15) + string(rune('a'+i)) }
	var values, says []string
	for i := range 8 {
		values = append(values, word("v", i))
		says = append(says, word("v", 7))
	}
	var ts []api.Trait
	for i := range 8 {
		ts = append(ts, api.Trait{Name: word("t", i), Values: values, Must: true})
	}
	g := []api.Class{{Name: word("c", 0), Traits: ts, Parts: []string{word("c", 0)}, Most: 6}}
	item := func(l ...api.Item) api.Item { return api.Item{Class: word("c", 0), Says: says, Parts: l} }
	four := item(item(), item(), item(), item())
	x := item(four, four, four, four, item(item(), item()))
	if s := printed(t, g, x); s != spelt(g, x) {
		t.Errorf("Print of the greatest description: %q", s)
	}
	if y, e := pledge.Parse(g, spelt(g, x)); !same(x, y) || e != api.OK {
		t.Errorf("Parse of the greatest description: error %d", e)
	}
	if items, said, e := pledge.Count(g, x); items != 24 || said != 192 || e != api.OK {
		t.Errorf("Count of the greatest description: %d, %d, %d", items, said, e)
	}
}

// P1.2: what is no text of a description
func TestParseForm(t *testing.T) {
	for _, s := range []string{
		"", " ", "(", ")", ";", "=", "coat", "Gem", "ring", "ring size=small", "ring ( gem )", "ring metal=iron", "ring metal=small", "ring metal= size=small", "ring metal", "ring gold", "ring metal=gold size=",
		"ring size=small metal=gold", "ring metal=gold metal=gold", "ring metal=gold metal=silver", "ring metal=gold cut=round", "ring metal=gold size=small size=small", "ring size=gold",
		"ring metal=gold ()", "ring metal=gold ( )", "ring metal=gold (", "ring metal=gold ( gem", "ring metal=gold ( gem ;", "ring metal=gold ( gem ; )", "ring metal=gold ( ; gem )", "ring metal=gold ( gem gem )", "ring metal=gold ( gem ; ; gem )",
		"ring metal=gold )", "ring metal=gold ( gem ) )", "ring metal=gold ( gem ) gem", "ring metal=gold ( gem ) ( gem )", "ring metal=gold ( gem ) size=small", "ring metal=gold (gem)", "ring metal=gold ( gem; gem )", "gem ; gem", "gem gem", "gem ( gem )", "gem )",
		"ring metal=gold ( gem ; gem ; gem )", "ring metal=gold ( ring metal=gold )", "ring metal=gold ( gem cut=small )", "ring metal=gold ( gem cut=round cut=round )", "( gem )",
		" gem", "gem ", "gem  ", "gem  cut=round", "gem\tcut=round", "gem\ncut=round", "gem cut=round\n", "gem cut =round", "gem cut= round", "gem\x00", "gem cut=round\x00", "gem cut=rOund", "gem cut=round-", "gem cut==round", "\xffgem", "gem\u00a0cut=round",
	} {
		if x, e := pledge.Parse(shop(), s); e != api.ErrForm || !isZero(x) {
			t.Errorf("Parse(%q): %v, %d", s, x, e)
		}
	}
	bags := "bag" + strings.Repeat(" ; bag", 5)
	seven := "box ( " + bags + " )"                                  // items
	most := "box ( " + seven + " ; " + seven + " ; " + seven + " ; " // 22 items, and what follows
	for s, want := range map[string]api.Errno{
		"box ( box ( box ) )":         api.OK,
		"box ( box ( box ( box ) ) )": api.ErrForm,
		"box ( box ( box ( bag ) ) )": api.ErrForm,
		"box ( " + bags + " )":        api.OK,
		"box ( " + bags + " ; bag )":  api.ErrForm,
		most + "bag ; bag )":          api.OK,
		most + "bag ; bag ; bag )":    api.ErrForm,
		most + "box ( bag ; bag ) )":  api.ErrForm,
		strings.Repeat("box ( ", 10000) + "box" + strings.Repeat(" )", 2): api.ErrForm,
		"box ( box" + strings.Repeat(" ; box", 9000) + " )":               api.ErrForm,
		strings.Repeat("( ", 30000):                                       api.ErrForm,
		strings.Repeat(" ", 65536):                                        api.ErrForm,
	} {
		x, e := pledge.Parse(nest(), s)
		errs(t, "Parse of boxes "+s[:min(len(s), 80)], e, want)
		if e != api.OK && !isZero(x) {
			t.Errorf("Parse of boxes: %v with error %d", x, e)
		}
	}
}

// P1.2: the limit is before the form, and behind the grammar
func TestParseLimit(t *testing.T) {
	for n, want := range map[int]api.Errno{65535: api.ErrForm, 65536: api.ErrForm, 65537: api.ErrLimit, 1 << 20: api.ErrLimit} {
		for _, s := range []string{strings.Repeat("a", n), "gem" + strings.Repeat(" ", n-3)} {
			x, e := pledge.Parse(shop(), s)
			errs(t, "Parse of a long text", e, want)
			if !isZero(x) {
				t.Errorf("Parse of a long text: %v", x)
			}
		}
	}
	_, e := pledge.Parse(nil, strings.Repeat("a", 65537))
	errs(t, "Parse of a long text without a grammar", e, api.ErrGrammar)
}

// P1.9: all descriptions of a grammar are parsed as they were
func TestPrintedIsParsed(t *testing.T) {
	check := func(g []api.Class, l []api.Item) {
		for _, x := range l {
			s := printed(t, g, x)
			if s != spelt(g, x) {
				t.Errorf("Print: %q, want %q", s, spelt(g, x))
			}
			if y, e := pledge.Parse(g, s); !same(x, y) || e != api.OK {
				t.Errorf("Parse(%q): %v, %d", s, y, e)
			}
		}
	}
	check(shop(), rings())
	check(nest(), someItems(random(1), 500, 24))
}

// P1.9, P1.2: whatever is changed in a text, it is parsed exactly if it is the text of a description
func TestParsedIsPrinted(t *testing.T) {
	texts := map[string]bool{}
	for _, x := range rings() {
		texts[spelt(shop(), x)] = true
	}
	check := func(s string) {
		x, e := pledge.Parse(shop(), s)
		if texts[s] != (e == api.OK) {
			t.Fatalf("Parse(%q): error %d", s, e)
		}
		if e == api.OK && printed(t, shop(), x) != s {
			t.Fatalf("Parse(%q) is printed otherwise", s)
		}
	}
	for s := range texts {
		for i := range len(s) + 1 {
			check(s[:i])
			check(s[i:])
			for _, c := range []byte(" ;()=-aglr\x00") {
				check(s[:i] + string(c) + s[i:])
				if i < len(s) {
					check(s[:i] + string(c) + s[i+1:])
					check(s[:i] + s[i+1:])
				}
			}
		}
	}
	// tokens in any order
	tokens := []string{"ring", "gem", "metal=gold", "size=small", "cut=oval", "(", ";", ")", "metal=", ""}
	r := random(2)
	for range 200000 {
		var l []string
		for range 1 + r.IntN(7) {
			l = append(l, tokens[r.IntN(len(tokens))])
		}
		check(strings.Join(l, " "))
	}
}
