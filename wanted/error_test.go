package wanted_test

import (
	"math/bits"
	"testing"

	"lombard/api"
	"lombard/wanted"
)

// question is all that a function can be asked with.
type question struct {
	g       []api.Class
	l       []api.Pair
	d, of   api.Item
	x       api.Entry
	clauses []int
	pledges []api.Item
	list    []api.Entry
	day     int
}

// fine is a question whose arguments are all valid, and with which no function has an error but Reason.
func fine() question {
	return question{shop(), pairs(), jewel(), jewel(), list()[0], []int{0}, []api.Item{jewel(), jewel()}, list(), 5}
}

// asked is the error of a function for a question, or mixed.
type asked func(q question) api.Errno

// mixed is no error of the program: it stands for one with which another result is not zero.
const mixed api.Errno = -1

func only(zero bool, e api.Errno) api.Errno {
	if e != api.OK && !zero {
		return mixed
	}
	return e
}

// withEntry are all functions with an entry.
func withEntry() map[string]asked {
	return map[string]asked{
		"Match": func(q question) api.Errno {
			sure, may, e := wanted.Match(q.g, q.l, q.d, q.x)
			return only(!sure && !may, e)
		},
		"Example": func(q question) api.Errno {
			x, e := wanted.Example(q.g, q.l, q.d, q.x)
			return only(isZero(x), e)
		},
		"Explains": func(q question) api.Errno {
			is, e := wanted.Explains(q.g, q.l, q.d, q.x, q.clauses)
			return only(!is, e)
		},
		"Reason": func(q question) api.Errno {
			l, e := wanted.Reason(q.g, q.l, q.d, q.x)
			return only(len(l) == 0, e)
		},
	}
}

// withList are all functions with a list of entries.
func withList() map[string]asked {
	return map[string]asked{
		"Held": func(q question) api.Errno {
			l, e := wanted.Held(q.g, q.l, q.d, q.list, q.day)
			return only(len(l) == 0, e)
		},
		"Screen": func(q question) api.Errno {
			l, e := wanted.Screen(q.g, q.l, q.pledges, q.list, q.day)
			return only(len(l) == 0, e)
		},
		"Since": func(q question) api.Errno {
			n, e := wanted.Since(q.g, q.l, q.d, q.list)
			return only(n == 0, e)
		},
	}
}

// withPairs are all functions with a grammar and pairs.
func withPairs() map[string]asked {
	l := withEntry()
	for name, x := range withList() {
		l[name] = x
	}
	return l
}

// functions are all functions with a grammar.
func functions() map[string]asked {
	l := withPairs()
	l["Words"] = func(q question) api.Errno {
		words, e := wanted.Words(q.g, q.d)
		return only(len(words) == 0, e)
	}
	l["Completes"] = func(q question) api.Errno {
		is, e := wanted.Completes(q.g, q.d, q.of)
		return only(!is, e)
	}
	return l
}

// mistake is a change of a question, and the error that it leads to.
type mistake struct {
	change func(q *question)
	e      api.Errno
}

// mistakes are changes by their names.
func mistakes() map[string]mistake {
	return map[string]mistake{
		"grammar":      {func(q *question) { q.g = q.g[:1] }, api.ErrGrammar},
		"description":  {func(q *question) { q.d.Class = "gem" }, api.ErrItem},
		"other":        {func(q *question) { q.of = endless() }, api.ErrItem},
		"pairs":        {func(q *question) { q.l[3].Listed = "" }, api.ErrPairs},
		"entry":        {func(q *question) { q.x.Until = q.x.Day }, api.ErrEntry},
		"none":         {func(q *question) { q.x = list()[2] }, api.ErrNone},
		"match":        {func(q *question) {}, api.ErrNone},
		"clauses":      {func(q *question) { q.clauses = []int{2} }, api.ErrClauses},
		"many pledges": {func(q *question) { q.pledges = make([]api.Item, 25) }, api.ErrLimit},
		"a pledge":     {func(q *question) { q.pledges[1].Says = nil }, api.ErrItem},
		"many entries": {func(q *question) { q.list = append(q.list, make([]api.Entry, 24)...) }, api.ErrLimit},
		"an entry":     {func(q *question) { x := &q.list[len(q.list)-1]; x.Until = x.Day }, api.ErrEntry},
		"day":          {func(q *question) { q.day = -1 }, api.ErrDay},
		"never":        {func(q *question) { q.list = q.list[1:3] }, api.ErrNone},
	}
}

// order are the mistakes that a function finds, in the order of the document. What would undo a mistake before it is left out.
func order() map[string][]string {
	return map[string][]string{
		"Words":     {"grammar", "description"},
		"Completes": {"grammar", "description", "other"},
		"Match":     {"grammar", "description", "pairs", "entry"},
		"Example":   {"grammar", "description", "pairs", "entry", "none"},
		"Explains":  {"grammar", "description", "pairs", "entry", "clauses"},
		"Reason":    {"grammar", "description", "pairs", "entry", "match"},
		"Held":      {"grammar", "description", "pairs", "many entries", "an entry", "day"},
		"Screen":    {"many pledges", "grammar", "a pledge", "pairs", "many entries", "an entry", "day"},
		"Since":     {"grammar", "description", "pairs", "many entries", "an entry", "never"},
	}
}

// P1, P5.2 to P5.5, R1, R2: of any mistakes that are made at once, the first one decides
func TestErrors(t *testing.T) {
	for name, call := range functions() {
		list := order()[name]
		for set := range 1 << len(list) {
			q := fine()
			// The last ones are made first, since they are changes of the whole argument.
			for i := len(list) - 1; i >= 0; i-- {
				if set>>i&1 == 1 {
					mistakes()[list[i]].change(&q)
				}
			}
			want := api.OK
			if set > 0 {
				want = mistakes()[list[bits.TrailingZeros(uint(set))]].e
			} else if name == "Reason" {
				want = api.ErrNone
			}
			if got := call(q); got != want {
				t.Errorf("%s with the mistakes %b of %v: error %d, want %d", name, set, list, got, want)
			}
		}
	}
}

// P5.2: no grammar, and wrong ones; what is no description of it
func TestWrongDescriptions(t *testing.T) {
	for name, call := range functions() {
		for _, g := range [][]api.Class{nil, {}, {{}}, shop()[:1], append(shop(), shop()[1]), make([]api.Class, 13)} {
			q := fine()
			q.g = g
			errs(t, name, call(q), api.ErrGrammar)
			q.d, q.of, q.pledges = endless(), endless(), []api.Item{endless()}
			errs(t, name, call(q), api.ErrGrammar)
		}
		for _, d := range []api.Item{{}, endless(), gem("big"), ring("big"), ring("", gem(""), gem(""), gem("")), ring("", ring("")), {Class: "ring", Says: []string{"", ""}}, {Class: "ring", Says: []string{"gold"}}, {Class: "bag"}} {
			q := fine()
			q.d, q.pledges = d, []api.Item{jewel(), d}
			errs(t, name, call(q), api.ErrItem)
			q.pledges = []api.Item{d, jewel()}
			errs(t, name, call(q), api.ErrItem)
			if name == "Completes" {
				q.d, q.of = jewel(), d
				errs(t, name, call(q), api.ErrItem)
			}
		}
	}
}

// P5.5: the errors of Screen are the same if there are no pledges
func TestScreenOfNone(t *testing.T) {
	for _, name := range []string{"grammar", "pairs", "many entries", "an entry", "day"} {
		q := fine()
		mistakes()[name].change(&q)
		for _, none := range [][]api.Item{nil, {}} {
			q.pledges = none
			errs(t, "Screen with a wrong "+name, functions()["Screen"](q), mistakes()[name].e)
		}
	}
	q := fine()
	if l, e := wanted.Screen(q.g, q.l, nil, q.list, q.day); len(l) > 0 || e != api.OK {
		t.Errorf("Screen of no pledges: %v, error %d", l, e)
	}
}
