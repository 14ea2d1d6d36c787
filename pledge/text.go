package pledge

import (
	"strings"

	"lombard/api"
)

// Print returns the text of a description.
func Print(g []api.Class, x api.Item) (string, api.Errno) {
	k, e := open(g, x)
	if e != api.OK {
		return "", e
	}
	return k.text(x), api.OK
}

func (k classes) text(x api.Item) string {
	tokens := []string{x.Class}
	for i, t := range k[x.Class].Traits {
		if x.Says[i] != "" {
			tokens = append(tokens, saying(t, x.Says[i]))
		}
	}
	mark := "("
	for _, part := range x.Parts {
		tokens = append(tokens, mark, k.text(part))
		mark = ";"
	}
	if len(x.Parts) > 0 {
		tokens = append(tokens, ")")
	}
	return join(tokens...)
}

func saying(t api.Trait, word string) string { return t.Name + "=" + word }

func join(tokens ...string) string { return strings.Join(tokens, " ") }

// Parse reads the text of a description.
func Parse(g []api.Class, s string) (api.Item, api.Errno) {
	k, e := open(g)
	if e != api.OK {
		return api.Item{}, e
	}
	if len(s) > api.MaxFile {
		return api.Item{}, api.ErrLimit
	}
	r := reader{k, strings.Split(s, " ")}
	x, ok := attempt(r.all)
	if !ok || !k.allow(x) {
		return api.Item{}, api.ErrForm
	}
	return x, api.OK
}

// attempt returns what is read, and whether it was not left by a panic.
func attempt(read func() api.Item) (x api.Item, ok bool) {
	defer func() {
		if recover() != nil {
			x, ok = api.Item{}, false
		}
	}()
	return read(), true
}

// reader reads tokens. Where they are no description it leaves by a panic, so that no caller in between has to look for an error.
type reader struct {
	classes classes
	tokens  []string
}

func (r *reader) all() api.Item {
	x := r.item(1)
	if len(r.tokens) > 0 {
		panic(api.ErrForm)
	}
	return x
}

func (r *reader) item(deep int) api.Item {
	if deep > api.MaxDeep || len(r.tokens) == 0 {
		panic(api.ErrForm)
	}
	c, ok := r.classes[r.tokens[0]]
	if !ok {
		panic(api.ErrForm)
	}
	r.tokens = r.tokens[1:]
	x := api.Item{Class: c.Name, Says: make([]string, len(c.Traits))}
	for i, t := range c.Traits {
		x.Says[i] = r.said(t)
	}
	if r.skip("(") {
		x.Parts = r.parts(deep + 1)
	}
	return x
}

// said returns what is said of a trait, if that comes next.
func (r *reader) said(t api.Trait) string {
	for _, word := range t.Values {
		if r.skip(saying(t, word)) {
			return word
		}
	}
	return ""
}

func (r *reader) parts(deep int) []api.Item {
	l := []api.Item{r.item(deep)}
	for r.skip(";") {
		l = append(l, r.item(deep))
	}
	if !r.skip(")") {
		panic(api.ErrForm)
	}
	return l
}

// skip reports whether a token comes next, and goes past it.
func (r *reader) skip(token string) bool {
	if len(r.tokens) == 0 || r.tokens[0] != token {
		return false
	}
	r.tokens = r.tokens[1:]
	return true
}
