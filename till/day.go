package till

import (
	"iter"
	"slices"

	"lombard/api"
)

// amounts are one for each account, and 0 for accounts that are not there.
type amounts [api.MaxAccounts]int

func isAmount(n int) bool { return within(n, 0, api.MaxSum) }

func checkDay(d api.DayBook) api.Errno {
	accounts := len(d.Open)
	isAccount := func(n int) bool { return within(n, 0, accounts-1) }
	isPosting := func(p api.Posting) bool {
		return isAccount(p.From) && isAccount(p.To) && p.From != p.To && isSum(p.Sum)
	}
	if !within(accounts, 2, api.MaxAccounts) || len(d.Counted) != accounts || !all(d.Open, isAmount) || !all(d.Counted, isAmount) ||
		len(d.Postings) > api.MaxPostings || !all(d.Postings, isPosting) {
		return api.ErrDayBook
	}
	return api.OK
}

// post returns the amounts after a sum has gone as a posting says.
func (a amounts) post(p api.Posting, sum int) amounts {
	a[p.From] -= sum
	a[p.To] += sum
	return a
}

func balance(d api.DayBook) amounts {
	var a amounts
	copy(a[:], d.Open)
	for _, p := range d.Postings {
		a = a.post(p, p.Sum)
	}
	return a
}

// Balance returns the balances of all accounts.
func Balance(d api.DayBook) ([]int, api.Errno) {
	if e := checkDay(d); e != api.OK {
		return nil, e
	}
	a := balance(d)
	return a[:len(d.Open)], api.OK
}

// digits are the decimal digits of a sum, the last one first.
type digits [10]int

// digitsOf returns the digits of a sum, and how many it has.
func digitsOf(sum int) (d digits, many int) {
	for ; sum > 0; sum /= 10 {
		d[many] = sum % 10
		many++
	}
	return d, many
}

func (d digits) number() int {
	n := 0
	for _, digit := range slices.Backward(d[:]) {
		n = 10*n + digit
	}
	return n
}

// swapped returns the number in which a digit and the one behind it are swapped.
func (d digits) swapped(i int) int {
	d[i], d[i+1] = d[i+1], d[i]
	return d.number()
}

// really returns what a posting may really have been, increasing.
func really(p api.Posting) []int {
	d, many := digitsOf(p.Sum)
	swapped := d.swapped
	l := []int{0, 2 * p.Sum}
	for i := range many - 1 {
		if n := swapped(i); n != p.Sum {
			l = append(l, n)
		}
	}
	slices.Sort(l)
	return slices.Compact(l)
}

// day is a book, what each of its postings may really have been, its balances, and what was counted.
type day struct {
	api.DayBook
	really            [][]int
	balances, counted amounts
}

func dayOf(b api.DayBook) day {
	d := day{DayBook: b, really: each(b.Postings, really), balances: balance(b)}
	copy(d.counted[:], b.Counted)
	return d
}

// explains reports whether mistakes explain what was counted.
func (d day) explains(l []api.Mistake) bool {
	a := d.balances
	for _, m := range l {
		p := d.Postings[m.Posting]
		a = a.post(p, m.Sum-p.Sum)
	}
	return a == d.counted
}

// mistakes yields all lists of so many mistakes that there may be, the better ones first. The lists share memory.
func (d day) mistakes(many int) iter.Seq[[]api.Mistake] {
	return func(yield func([]api.Mistake) bool) {
		var l []api.Mistake
		var add func(posting int) bool
		add = func(posting int) bool {
			if len(l) == many {
				return yield(l)
			}
			for ; posting < len(d.Postings); posting++ {
				for _, sum := range d.really[posting] {
					l = append(l, api.Mistake{Posting: posting, Sum: sum})
					if !add(posting + 1) {
						return false
					}
					l = l[:len(l)-1]
				}
			}
			return true
		}
		add(0)
	}
}

// Explain returns the best explanation of a day.
func Explain(d api.DayBook) ([]api.Mistake, api.Errno) {
	if e := checkDay(d); e != api.OK {
		return nil, e
	}
	x := dayOf(d)
	var best []api.Mistake
	e := api.ErrNone
search:
	for many := range api.MaxWrong + 1 {
		for l := range x.mistakes(many) {
			if x.explains(l) {
				best, e = slices.Clone(l), api.OK
				break search
			}
		}
	}
	return best, e
}
