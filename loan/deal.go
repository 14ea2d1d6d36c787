package loan

import "lombard/api"

// Check checks a deal.
func Check(d api.Deal) api.Errno {
	if !isLaw(d.Law) || !isTariff(d.Tariff) || !areClosed(d.Closed) || !isDay(d.Start) || !within(d.Sum, 1, api.MaxPrice) {
		return api.ErrDeal
	}
	return api.OK
}

func isLaw(x api.Law) bool { return within(x.Rate, 0, api.MaxRate) && within(x.Cap, 0, api.Shares) }

func isTariff(x api.Tariff) bool {
	return within(x.Rate, 0, api.MaxRate) && within(x.Free, 0, api.MaxFree) && within(x.Fee, 0, api.MaxFee) && within(x.Term, 1, api.MaxTerm) && within(x.Grace, 0, api.MaxGrace)
}

// oldest returns the greatest age at which an act is still done.
func oldest(x api.Tariff) int { return x.Term + x.Grace }

func areClosed(l []int) bool {
	if len(l) > api.MaxClosed {
		return false
	}
	next := 0
	for _, day := range l {
		if !within(day, next, api.MaxDay) {
			return false
		}
		next = day + 1
	}
	return true
}

// openDays returns how many days after one, up to another one, are not closed.
func openDays(closed []int, from, to int) int {
	n := max(0, to-from)
	for _, day := range closed {
		if from < day && day <= to {
			n--
		}
	}
	return n
}

// act is an act of a kind that there is. Each kind is a type of its own, which knows what its N may be.
type act interface{ fits() bool }

type (
	payment    api.Act
	renewal    api.Act
	hardship   api.Act
	redemption api.Act
)

func (a payment) fits() bool    { return within(a.N, 1, api.MaxPrice) }
func (a renewal) fits() bool    { return a.N == 0 }
func (a hardship) fits() bool   { return within(a.N, 1, api.MaxTerm) }
func (a redemption) fits() bool { return a.N == 0 }

// ofKind returns an act as one of its kind, and nil if there is no such kind.
func ofKind(a api.Act) act {
	switch a.Kind {
	case api.ActPay:
		return payment(a)
	case api.ActRenew:
		return renewal(a)
	case api.ActHold:
		return hardship(a)
	case api.ActRedeem:
		return redemption(a)
	}
	return nil
}

// areActs reports whether a list is acts for a deal.
func areActs(d api.Deal, l []api.Act) bool {
	if len(l) > api.MaxActs {
		return false
	}
	day := d.Start
	for i, a := range l {
		if !within(a.Day, day, api.MaxDay) {
			return false
		}
		day = a.Day
		behind := len(l) - 1 - i
		switch x := ofKind(a).(type) {
		case nil:
			return false
		case redemption:
			if behind > 0 || !x.fits() {
				return false
			}
		default:
			if !x.fits() {
				return false
			}
		}
	}
	return true
}
