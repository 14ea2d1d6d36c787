package pledge_test

import (
	"math"
	"strings"
	"testing"

	"lombard/api"
	"lombard/pledge"
)

// P1.1: words
func TestIsWord(t *testing.T) {
	for s, want := range map[string]bool{
		"a": true, "z": true, "a-": true, "a1-z": true, "a--": true, "": false, "-": false, "0": false, "-a": false, "9a": false,
		"a b": false, "a=b": false, "a;": false, "aA": false, "a_": false, "a\x00": false, "a\n": false, "ä": false, "aä": false, "a\xff": false,
		strings.Repeat("z", 15): true, strings.Repeat("z", 16): true, strings.Repeat("z", 17): false, "a" + strings.Repeat("é", 8): false, strings.Repeat("a", 1<<20): false,
	} {
		if pledge.IsWord(s) != want {
			t.Errorf("IsWord(%.20q): want %v", s, want)
		}
	}
	for i := range 256 {
		c := string([]byte{byte(i)})
		letter := strings.Contains("abcdefghijklmnopqrstuvwxyz", c)
		rest := letter || strings.Contains("0123456789-", c)
		if pledge.IsWord(c) != letter || pledge.IsWord("a"+c) != rest || pledge.IsWord("a"+c+"a") != rest {
			t.Errorf("IsWord with the byte %d", i)
		}
	}
}

func traits(names ...string) []api.Trait {
	var l []api.Trait
	for _, name := range names {
		l = append(l, api.Trait{Name: name, Values: []string{"v"}})
	}
	return l
}

func grammarOf(names ...string) []api.Class {
	var l []api.Class
	for _, name := range names {
		l = append(l, api.Class{Name: name})
	}
	return l
}

func withValues(values ...string) []api.Class {
	return []api.Class{{Name: "a", Traits: []api.Trait{{Name: "t", Values: values}}}}
}

// P1.1: grammars, at the limits and one beyond
func TestCheckGrammar(t *testing.T) {
	long, longer := strings.Repeat("l", 16), strings.Repeat("l", 17)
	both := grammarOf("a", "b")
	both[0].Parts, both[0].Most = []string{"a", "b"}, 6
	unknown := grammarOf("a", "b")
	unknown[1].Parts, unknown[1].Most = []string{"a", "c"}, 1
	all := grammarOf(numbers(12)...)
	all[11].Parts, all[11].Most = numbers(12), 6
	laterWrong := append(shop(), api.Class{Name: "-"})
	for name, x := range map[string]struct {
		g  []api.Class
		ok bool
	}{
		"nil":                          {nil, false},
		"empty":                        {[]api.Class{}, false},
		"shop":                         {shop(), true},
		"nest":                         {nest(), true},
		"12 classes":                   {grammarOf(numbers(12)...), true},
		"13 classes":                   {grammarOf(numbers(13)...), false},
		"two classes of one name":      {grammarOf("a", "b", "a"), false},
		"a class without name":         {grammarOf("a", ""), false},
		"a name of 16 bytes":           {grammarOf(long), true},
		"a name of 17 bytes":           {grammarOf(longer), false},
		"the last class wrong":         {laterWrong, false},
		"8 traits":                     {[]api.Class{{Name: "a", Traits: traits(numbers(8)...)}}, true},
		"9 traits":                     {[]api.Class{{Name: "a", Traits: traits(numbers(9)...)}}, false},
		"two traits of one name":       {[]api.Class{{Name: "a", Traits: traits("t", "t")}}, false},
		"a trait without name":         {[]api.Class{{Name: "a", Traits: traits("")}}, false},
		"a trait with a wrong name":    {[]api.Class{{Name: "a", Traits: traits("t", "T")}}, false},
		"a trait named as the class":   {[]api.Class{{Name: "a", Traits: traits("a")}}, true},
		"traits of two classes":        {[]api.Class{{Name: "a", Traits: traits("t")}, {Name: "b", Traits: traits("t")}}, true},
		"no values":                    {withValues(), false},
		"1 value":                      {withValues("v"), true},
		"8 values":                     {withValues(numbers(8)...), true},
		"9 values":                     {withValues(numbers(9)...), false},
		"two values the same":          {withValues("v", "w", "v"), false},
		"an empty value":               {withValues("v", ""), false},
		"a value of 17 bytes":          {withValues(longer), false},
		"a value of 16 bytes":          {withValues(long), true},
		"a value named as the trait":   {withValues("t", "a"), true},
		"parts of both classes":        {both, true},
		"a part that is no class":      {unknown, false},
		"parts of 12 classes":          {all, true},
		"two parts of one name":        {[]api.Class{{Name: "a", Parts: []string{"a", "a"}, Most: 1}}, false},
		"an empty part":                {[]api.Class{{Name: "a", Parts: []string{""}, Most: 1}}, false},
		"own parts, Most 0":            {[]api.Class{{Name: "a", Parts: []string{"a"}}}, true},
		"own parts, Most 6":            {[]api.Class{{Name: "a", Parts: []string{"a"}, Most: 6}}, true},
		"own parts, Most 7":            {[]api.Class{{Name: "a", Parts: []string{"a"}, Most: 7}}, false},
		"own parts, Most -1":           {[]api.Class{{Name: "a", Parts: []string{"a"}, Most: -1}}, false},
		"own parts, Most far too much": {[]api.Class{{Name: "a", Parts: []string{"a"}, Most: math.MaxInt}}, false},
		"no parts, Most 1":             {[]api.Class{{Name: "a", Most: 1}}, false},
		"no parts, Most -1":            {[]api.Class{{Name: "a", Most: -1}}, false},
		"empty parts, Most 0":          {[]api.Class{{Name: "a", Parts: []string{}, Traits: []api.Trait{}}}, true},
		"empty parts, Most 1":          {[]api.Class{{Name: "a", Parts: []string{}, Most: 1}}, false},
		"far too many classes":         {make([]api.Class, 1<<16), false},
		"far too many parts":           {[]api.Class{{Name: "a", Parts: make([]string, 1<<16), Most: 1}}, false},
	} {
		want := api.OK
		if !x.ok {
			want = api.ErrGrammar
		}
		errs(t, name, pledge.CheckGrammar(x.g), want)
		if !x.ok { // before anything is said of the description
			errs(t, "Check, "+name, pledge.Check(x.g, api.Item{Class: "?"}), want)
		}
	}
}

// endless is a box that contains itself.
func endless() api.Item {
	x := box("", box(""))
	x.Parts[0].Parts = x.Parts
	return x
}

// wrongItem is a description, and whether it is valid for the grammar.
type wrongItem struct {
	name string
	g    []api.Class
	x    api.Item
	ok   bool
}

// P1.1: descriptions, at the limits and one beyond
func TestCheck(t *testing.T) {
	four := box("", box(""), box(""), box(""), box(""))
	few := append(nest(), api.Class{Name: "few", Parts: []string{"bag"}}, api.Class{Name: "one", Parts: []string{"bag", "box"}, Most: 1})
	for _, x := range []wrongItem{
		{"a ring", shop(), ring(""), true},
		{"a ring with all that may be", shop(), ring("large", gem("oval"), gem("")), true},
		{"a gem", shop(), gem(""), true},
		{"nothing", shop(), api.Item{}, false},
		{"no class of it", shop(), api.Item{Class: "coat"}, false},
		{"a class nearly of it", shop(), api.Item{Class: "Gem", Says: []string{""}}, false},
		{"too little said", shop(), api.Item{Class: "ring", Says: []string{"gold"}}, false},
		{"nothing said", shop(), api.Item{Class: "gem"}, false},
		{"too much said", shop(), api.Item{Class: "gem", Says: []string{"round", ""}}, false},
		{"something must be said", shop(), api.Item{Class: "ring", Says: []string{"", "small"}}, false},
		{"no value of it", shop(), api.Item{Class: "ring", Says: []string{"iron", "small"}}, false},
		{"no value of the last trait", shop(), ring("big"), false},
		{"a value of another trait", shop(), api.Item{Class: "ring", Says: []string{"small", "gold"}}, false},
		{"a value of another class", shop(), ring("round"), false},
		{"as many parts as Most", shop(), ring("", gem(""), gem("")), true},
		{"one part more", shop(), ring("", gem(""), gem(""), gem("")), false},
		{"a part of a wrong class", shop(), ring("", ring("")), false},
		{"a part where none may be", shop(), api.Item{Class: "gem", Says: []string{""}, Parts: []api.Item{gem("")}}, false},
		{"a wrong part", shop(), ring("", gem(""), gem("small")), false},
		{"a wrong part in a part", nest(), box("", box("", box(""), box("d"))), false},
		{"nil and empty lists", nest(), api.Item{Class: "bag", Says: []string{}, Parts: []api.Item{}}, true},
		{"parts, Most 0", few, api.Item{Class: "few", Parts: []api.Item{{Class: "bag"}}}, false},
		{"no parts, Most 0", few, api.Item{Class: "few"}, true},
		{"6 parts", nest(), box("", make6()...), true},
		{"7 parts", nest(), box("", append(make6(), box(""))...), false},
		{"3 deep", nest(), box("", box("", box(""))), true},
		{"4 deep", nest(), box("", box("", box("", box("")))), false},
		{"4 deep in the last part", nest(), box("", box(""), box("", box(""), box("", api.Item{Class: "bag"}))), false},
		{"24 items", nest(), box("", four, four, four, four, box("", box(""), box(""))), true},
		{"25 items", nest(), box("", four, four, four, four, box("", box(""), box(""), box(""))), false},
		{"43 items", nest(), box("", box("", make6()...), box("", make6()...), box("", make6()...), box("", make6()...), box("", make6()...), box("", make6()...)), false},
		{"endless", nest(), endless(), false},
		{"far too many parts", nest(), box("", make([]api.Item, 1<<16)...), false},
		{"far too much said", nest(), api.Item{Class: "box", Says: make([]string, 1<<16)}, false},
	} {
		checkItem(t, x)
	}
}

func make6() []api.Item {
	return []api.Item{box(""), box("b"), {Class: "bag"}, box("c"), box(""), {Class: "bag"}}
}

// checkItem checks that all functions with a description have the same opinion of it.
func checkItem(t *testing.T, x wrongItem) {
	t.Helper()
	want := api.OK
	if !x.ok {
		want = api.ErrItem
	}
	right := shopOrNest(x.g)
	errs(t, x.name+": Check", pledge.Check(x.g, x.x), want)
	s, e := pledge.Print(x.g, x.x)
	errs(t, x.name+": Print", e, want)
	n, said, e := pledge.Count(x.g, x.x)
	errs(t, x.name+": Count", e, want)
	is, e := pledge.Covers(x.g, x.x, right)
	errs(t, x.name+": Covers, the first one", e, want)
	is2, e := pledge.Covers(x.g, right, x.x)
	errs(t, x.name+": Covers, the second one", e, want)
	y, e := pledge.Sort(x.g, x.x)
	errs(t, x.name+": Sort", e, want)
	if !x.ok && (s != "" || n != 0 || said != 0 || is || is2 || !isZero(y)) {
		t.Errorf("%s: results with an error: %q, %d, %d, %v, %v, %v", x.name, s, n, said, is, is2, y)
	}
}

func shopOrNest(g []api.Class) api.Item {
	if g[0].Name == "ring" {
		return ring("")
	}
	return box("")
}

// P1.1, P1.2: of several errors that of the grammar is returned first
func TestGrammarFirst(t *testing.T) {
	for i, g := range [][]api.Class{nil, {}, {{Name: "a", Most: 1}}} {
		for _, x := range []api.Item{{}, {Class: "a"}, endless()} {
			s, e := pledge.Print(g, x)
			errs(t, "Print", e, api.ErrGrammar)
			n, said, e := pledge.Count(g, x)
			errs(t, "Count", e, api.ErrGrammar)
			is, e := pledge.Covers(g, x, x)
			errs(t, "Covers", e, api.ErrGrammar)
			y, e := pledge.Sort(g, x)
			errs(t, "Sort", e, api.ErrGrammar)
			if s != "" || n != 0 || said != 0 || is || !isZero(y) {
				t.Errorf("results with a wrong grammar %d: %q, %d, %d, %v, %v", i, s, n, said, is, y)
			}
		}
		for _, s := range []string{"", "a", strings.Repeat("a", 65537)} {
			x, e := pledge.Parse(g, s)
			errs(t, "Parse", e, api.ErrGrammar)
			if !isZero(x) {
				t.Errorf("Parse with a wrong grammar %d: %v", i, x)
			}
		}
	}
	// both descriptions are wrong, or one of them
	for _, l := range [][2]api.Item{{{}, {}}, {{}, ring("")}, {ring(""), {}}} {
		_, e := pledge.Covers(shop(), l[0], l[1])
		errs(t, "Covers", e, api.ErrItem)
	}
}
