package pledge

import "lombard/api"

// classes are the classes of a grammar by their names.
type classes map[string]api.Class

func byName(g []api.Class) classes {
	k := classes{}
	for _, c := range g {
		k[c.Name] = c
	}
	return k
}

// CheckGrammar checks a grammar.
func CheckGrammar(g []api.Class) api.Errno {
	if len(g) < 1 || len(g) > api.MaxClasses {
		return api.ErrGrammar
	}
	k := byName(g)
	if len(k) < len(g) { // two classes have the same name
		return api.ErrGrammar
	}
	for _, c := range g {
		if !IsWord(c.Name) || !areTraits(c.Traits) || !k.haveParts(c) {
			return api.ErrGrammar
		}
	}
	return api.OK
}

func areTraits(l []api.Trait) bool {
	if len(l) > api.MaxTraits {
		return false
	}
	var names []string
	for _, t := range l {
		if len(t.Values) < 1 || len(t.Values) > api.MaxValues || !areWords(t.Values) {
			return false
		}
		names = append(names, t.Name)
	}
	return areWords(names)
}

// haveParts reports whether the parts of a class are classes of these.
func (k classes) haveParts(c api.Class) bool {
	for _, name := range c.Parts {
		if _, ok := k[name]; !ok {
			return false
		}
	}
	if len(c.Parts) == 0 {
		return c.Most == 0
	}
	return areWords(c.Parts) && 0 <= c.Most && c.Most <= api.MaxParts
}

// open returns the classes of a grammar, or the first error of it and of descriptions.
func open(g []api.Class, l ...api.Item) (classes, api.Errno) {
	if e := CheckGrammar(g); e != api.OK {
		return nil, e
	}
	k := byName(g)
	for _, x := range l {
		if !k.allow(x) {
			return nil, api.ErrItem
		}
	}
	return k, api.OK
}
