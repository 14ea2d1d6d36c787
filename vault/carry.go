package vault

import "lombard/api"

// fields are which fields carries of a kind have. The others are 0.
type fields struct{ to, seal, suits bool }

// fieldsOf returns the fields of a kind, and whether there is that kind.
func fieldsOf(kind int) (f fields, listed bool) {
	switch kind {
	case api.CarryIn:
		return fields{to: true, seal: true, suits: true}, true
	case api.CarryMove:
		return fields{to: true}, true
	case api.CarryCheck, api.CarryOpen:
		return fields{seal: true}, true
	case api.CarryOut:
		return fields{}, true
	}
	return fields{}, false
}

// isField reports whether a number may be in a field, in which there is one from 1 to a greatest one, or none.
func isField(n int, there bool, most int) bool {
	if !there {
		return n == 0
	}
	return within(n, 1, most)
}

func isCarry(s api.Strong, c api.Carry) bool {
	f, listed := fieldsOf(c.Kind)
	staff := len(s.Staff)
	return listed && isIndex(c.Bag, api.MaxBags) && isIndex(c.By, staff) && isIndex(c.With, staff) && c.By != c.With &&
		isField(c.To, f.to, len(s.Rooms)-1) && isField(c.Seal, f.seal, api.MaxSeal) && isField(c.Suits, f.suits, full[int](api.Climates))
}

// areCarries reports whether a list is carries for a strongroom.
func areCarries(s api.Strong, l []api.Carry) bool {
	if len(l) > api.MaxCarries {
		return false
	}
	day := 0
	for _, c := range l {
		if !within(c.Day, day, api.MaxDay) || !isCarry(s, c) {
			return false
		}
		day = c.Day
	}
	return true
}

// upTo returns the carries of all days up to one.
func upTo(l []api.Carry, day int) []api.Carry {
	n := 0
	for n < len(l) && l[n].Day <= day {
		n++
	}
	return l[:n]
}
