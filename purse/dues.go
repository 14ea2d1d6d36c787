package purse

import "lombard/api"

// rank is a rank of dues.
type rank int

func (r rank) has(d api.Due) bool { return d.Rank == int(r) }

func isDue(d api.Due) bool { return within(d.Rank, 0, api.MaxRank) && isAmount(d.Amount) }

// areDues reports whether a list is dues.
func areDues(l []api.Due) bool { return len(l) <= api.MaxShares && all(l, isDue) }

// settle returns what is paid for each of these amounts out of a sum.
func settle(amounts []int, sum int) []int {
	if total(amounts...) <= sum {
		return amounts
	}
	return share(amounts, sum)
}

// spread spreads a sum over dues.
func spread(dues []api.Due, sum int) (paid []int, left int) {
	paid, left = make([]int, len(dues)), sum
	for r := range api.MaxRank + 1 {
		of := places(dues, rank(r).has)
		settled := settle(each(of, func(i int) int { return dues[i].Amount }), left)
		for k, i := range of {
			paid[i] = settled[k]
		}
		left -= total(settled...)
	}
	return paid, left
}

// Spread spreads a sum over dues.
func Spread(dues []api.Due, sum int) (paid []int, left int, e api.Errno) {
	if !areDues(dues) {
		return nil, 0, api.ErrDues
	}
	if !isShared(sum) {
		return nil, 0, api.ErrRange
	}
	paid, left = spread(dues, sum)
	return paid, left, api.OK
}
