package till

import "lombard/api"

func isHave(n int) bool { return within(n, 0, api.MaxHave) }

func areCoins(l []int) bool {
	for kind, coin := range l {
		if !within(coin, 1, api.MaxCoin) || kind > 0 && coin >= l[kind-1] {
			return false
		}
	}
	return within(len(l), 1, api.MaxCoins)
}

// arePieces reports whether a list has a number of pieces for each kind of a drawer.
func arePieces(d api.Drawer, l []int) bool { return len(l) == len(d.Coins) && all(l, isHave) }

// Check checks a drawer.
func Check(d api.Drawer) api.Errno {
	if !areCoins(d.Coins) || !arePieces(d, d.Have) {
		return api.ErrDrawer
	}
	return api.OK
}

// rest is from which kind on which sum is still to be paid.
type rest struct{ kind, sum int }

// payment is the best payment of a rest: how many pieces of its first kind it has, and how many in all.
type payment struct{ first, pieces int }

// never is how many pieces there are in a payment that does not exist: more than in any that does.
const never = 1 << 20

// payments returns a function that finds the best payments from a drawer.
func payments(d api.Drawer) func(rest) payment {
	known := map[rest]payment{{kind: len(d.Coins)}: {}}
	var best func(rest) payment
	best = func(r rest) payment {
		p, ok := known[r]
		if ok {
			return p
		}
		p.pieces = never
		if r.kind < len(d.Coins) {
			coin := d.Coins[r.kind]
			for n := range min(d.Have[r.kind], r.sum/coin) + 1 {
				// Of payments with equally many pieces the later one is better: it has more of this kind.
				if x := best(rest{r.kind + 1, r.sum - n*coin}); n+x.pieces <= p.pieces {
					p = payment{n, n + x.pieces}
				}
			}
		}
		known[r] = p
		return p
	}
	return best
}

// pay returns the best payment of a sum from a valid drawer, which may have more pieces of a kind than others.
func pay(d api.Drawer, sum int) ([]int, api.Errno) {
	if !within(sum, 0, api.MaxPay) {
		return nil, api.ErrRange
	}
	best := payments(d)
	if best(rest{sum: sum}).pieces == never {
		return nil, api.ErrNone
	}
	var paid []int
	for kind, coin := range d.Coins {
		n := best(rest{kind, sum}).first
		paid = append(paid, n)
		sum -= n * coin
	}
	return paid, api.OK
}

// Pay returns the best payment of a sum.
func Pay(d api.Drawer, sum int) ([]int, api.Errno) {
	if e := Check(d); e != api.OK {
		return nil, e
	}
	return pay(d, sum)
}

// Change returns the best payment of what is given back.
func Change(d api.Drawer, given []int, price int) ([]int, api.Errno) {
	if e := Check(d); e != api.OK {
		return nil, e
	}
	if !arePieces(d, given) || price < 0 {
		return nil, api.ErrRange
	}
	over := -price
	together := api.Drawer{Coins: d.Coins}
	for kind, n := range given {
		over += n * d.Coins[kind]
		together.Have = append(together.Have, d.Have[kind]+n)
	}
	if over < 0 {
		return nil, api.ErrShort
	}
	return pay(together, over)
}
