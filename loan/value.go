package loan

import (
	"iter"
	"sort"

	"lombard/api"
)

// CheckMarket checks a market.
func CheckMarket(m api.Market) api.Errno {
	if !areFades(m.Fade) || !within(m.Metal, 0, api.MaxMetal) || !isDay(m.Day) || !within(m.Few, 1, api.MaxFew) || len(m.Sales) > api.MaxSales {
		return api.ErrMarket
	}
	for _, s := range m.Sales {
		if !isSale(m, s) {
			return api.ErrMarket
		}
	}
	return api.OK
}

func areFades(l []int) bool {
	if len(l) < 1 || len(l) > api.MaxKinds {
		return false
	}
	for _, share := range l {
		if !within(share, 0, api.Shares) {
			return false
		}
	}
	return true
}

func isKind(m api.Market, kind int) bool { return within(kind, 0, len(m.Fade)-1) }

func isSale(m api.Market, s api.Sale) bool {
	return isKind(m, s.Kind) && within(s.Day, 0, m.Day) && within(s.Weight, 0, api.MaxWeight) && within(s.Metal, 0, api.MaxMetal) && within(s.Price, 0, api.MaxPrice)
}

// sales yields the sales of a kind.
func sales(m api.Market, kind int) iter.Seq[api.Sale] {
	return func(yield func(api.Sale) bool) {
		for _, s := range m.Sales {
			if s.Kind == kind && !yield(s) {
				return
			}
		}
	}
}

// fading is which share of a craft is left after each year, and up to which day.
type fading struct{ share, day int }

// craft returns what is left of the craft of a sale.
func (f fading) craft(s api.Sale) int {
	craft := max(0, s.Price-s.Weight*s.Metal)
	// Each year is rounded down for itself: a power of the share would leave more.
	for range (f.day - s.Day) / api.YearDays {
		craft = craft * f.share / api.Shares
	}
	return craft
}

// Crafts returns the crafts of a kind.
func Crafts(m api.Market, kind int) ([]int, api.Errno) {
	if e := CheckMarket(m); e != api.OK {
		return nil, e
	}
	if !isKind(m, kind) {
		return nil, api.ErrRange
	}
	return crafts(m, kind), api.OK
}

func crafts(m api.Market, kind int) []int {
	left := fading{m.Fade[kind], m.Day}.craft
	var l []int
	for s := range sales(m, kind) {
		l = append(l, left(s))
	}
	sort.Slice(l, func(i, j int) bool { return l[i] < l[j] })
	return l
}

// Value returns the value of a ware.
func Value(m api.Market, w api.Ware) (api.Span, api.Errno) {
	if e := CheckMarket(m); e != api.OK {
		return api.Span{}, e
	}
	if !isKind(m, w.Kind) || !isSpan(w.Weight, api.MaxWeight) {
		return api.Span{}, api.ErrWare
	}
	l := crafts(m, w.Kind)
	if len(l) < m.Few {
		return api.Span{}, api.ErrNone
	}
	last := len(l) - 1
	q := last / 4
	return api.Span{Min: l[q] + m.Metal*w.Weight.Min, Max: l[last-q] + m.Metal*w.Weight.Max}, api.OK
}
