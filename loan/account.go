package loan

import "lombard/api"

// sums are what charges are made of. Principals are added up undivided: rounding down day by day would charge less.
type sums struct {
	days    int // counted
	lawful  int // the principals of all counted days
	charged int // the principals of all counted days but the free ones
	fees    int
}

// loan is a loan on a day.
type loan struct {
	api.Account
	deal api.Deal
	sums sums
	day  int
	held int // the last day that is held
}

func begin(d api.Deal) *loan {
	return &loan{Account: api.Account{Principal: d.Sum, Open: true}, deal: d, day: d.Start, held: d.Start}
}

// pass goes on to a day before its acts. No act lies in between, so that all days have one principal, and those that are held come first.
func (x *loan) pass(day int) {
	from := max(x.day, x.held)
	x.day = day
	if !x.Open {
		return
	}
	was := x.sums
	n := openDays(x.deal.Closed, from, day)
	free := max(0, x.deal.Tariff.Free-x.sums.days)
	x.sums.days += n
	x.sums.lawful += n * x.Principal
	x.sums.charged += max(0, n-free) * x.Principal
	x.Age += n
	x.charge(was)
}

// legal returns the most that the law allows to charge.
func (x *loan) legal() int {
	law := x.deal.Law
	return min(x.sums.lawful*law.Rate/api.Millionths, x.deal.Sum*law.Cap/api.Shares)
}

// charge brings the charge up to date if the sums are not what they were.
func (x *loan) charge(was sums) {
	if x.sums == was {
		return
	}
	x.Charged = min(x.sums.charged*x.deal.Tariff.Rate/api.Millionths+x.sums.fees, x.legal())
}

// do does an act on the day to which the loan has come.
func (x *loan) do(a api.Act) api.Errno {
	if x.Age > oldest(x.deal.Tariff) {
		return api.ErrLate
	}
	ways := [...]func(x *loan, n int) api.Errno{
		api.ActPay:    (*loan).pay,
		api.ActRenew:  (*loan).renew,
		api.ActHold:   (*loan).hold,
		api.ActRedeem: (*loan).redeem,
	}
	return ways[a.Kind](x, a.N)
}

func (x *loan) pay(n int) api.Errno {
	due := x.Charged - x.Paid
	if n >= due+x.Principal {
		return api.ErrFull
	}
	x.Paid += min(n, due)
	x.Principal -= max(0, n-due)
	return api.OK
}

func (x *loan) renew(int) api.Errno {
	was := x.sums
	x.sums.fees += x.deal.Tariff.Fee
	x.charge(was)
	x.Paid = x.Charged
	x.Age = 0
	return api.OK
}

func (x *loan) hold(days int) api.Errno {
	if x.held > x.day {
		return api.ErrHold
	}
	x.held = x.day + days
	return api.OK
}

func (x *loan) redeem(int) api.Errno {
	x.Paid = x.Charged
	x.Principal = 0
	x.Open = false
	return api.OK
}

// Run returns how a loan stands after each act.
func Run(d api.Deal, l []api.Act) (out []api.Account, at int, e api.Errno) {
	_, out, at, e = run(d, l)
	return out, at, e
}

// run returns a loan on the day of its last act, besides the results of Run.
func run(d api.Deal, l []api.Act) (x *loan, out []api.Account, at int, e api.Errno) {
	if e := Check(d); e != api.OK {
		return nil, nil, 0, e
	}
	if !areActs(d, l) {
		return nil, nil, 0, api.ErrActs
	}
	x = begin(d)
acts:
	for ; at < len(l); at++ {
		x.pass(l[at].Day)
		switch e = x.do(l[at]); e {
		case api.OK:
			out = append(out, x.Account)
		default:
			break acts
		}
	}
	if e != api.OK {
		return nil, nil, at, e
	}
	return x, out, at, api.OK
}

// on returns a loan on a day, after all acts.
func on(d api.Deal, l []api.Act, day int) (*loan, api.Errno) {
	x, _, _, e := run(d, l)
	if e != api.OK {
		return nil, e
	}
	if !within(day, x.day, api.MaxDay) {
		return nil, api.ErrRange
	}
	x.pass(day)
	return x, api.OK
}

// Owe returns how a loan stands on a day.
func Owe(d api.Deal, l []api.Act, day int) (api.Account, api.Errno) {
	x, e := on(d, l, day)
	if e != api.OK {
		return api.Account{}, e
	}
	return x.Account, api.OK
}

// Legal returns how much may be charged up to a day.
func Legal(d api.Deal, l []api.Act, day int) (int, api.Errno) {
	x, e := on(d, l, day)
	if e != api.OK {
		return 0, e
	}
	return x.legal(), api.OK
}
