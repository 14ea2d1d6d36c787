package wanted

import "lombard/api"

// Held returns for which entries a pledge is held on a day.
func Held(g []api.Class, l []api.Pair, d api.Item, list []api.Entry, day int) ([]int, api.Errno) {
	held, e := Screen(g, l, []api.Item{d}, list, day)
	if e != api.OK {
		return nil, e
	}
	return held[0], api.OK
}

// Screen returns for which entries pledges are held on a day.
func Screen(g []api.Class, l []api.Pair, pledges []api.Item, list []api.Entry, day int) ([][]int, api.Errno) {
	if len(pledges) > api.MaxPledges {
		return nil, api.ErrLimit
	}
	if e := check(g, l, pledges, list); e != api.OK {
		return nil, e
	}
	if !isDay(day) {
		return nil, api.ErrDay
	}
	today := filter(seek(l, list), func(x sought) bool { return x.isOpen(day) })
	held := make([][]int, len(pledges))
	for i := range len(pledges) {
		for _, x := range filter(today, goodsOf(g, pledges[i]).mayMatch) {
			held[i] = append(held[i], x.number)
		}
	}
	return held, api.OK
}

// Since returns the first day on which a pledge is held.
func Since(g []api.Class, l []api.Pair, d api.Item, list []api.Entry) (int, api.Errno) {
	if e := check(g, l, []api.Item{d}, list); e != api.OK {
		return 0, e
	}
	found := filter(seek(l, list), goodsOf(g, d).mayMatch)
	if len(found) == 0 {
		return 0, api.ErrNone
	}
	// An entry is open on its Day, since it is withdrawn on a day after it, if at all.
	first := found[0].Day
	for _, x := range found {
		first = min(first, x.Day)
	}
	return first, api.OK
}
