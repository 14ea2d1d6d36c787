package vault

import "lombard/api"

// shelf is all bags.
type shelf [api.MaxBags]api.Bag

// count returns how many bags are in a room.
func (x shelf) count(room int) int {
	n := 0
	for _, bag := range x {
		if bag.Room == room {
			n++
		}
	}
	return n
}

// log is a strongroom and its bags, while carries are done.
type log struct {
	api.Strong
	bags   shelf
	trails [api.MaxBags]roomSet // in which each bag was since its seal was right
	seals  map[int]bool         // that any bag has got
}

// require refuses a carry unless something holds.
func require(holds bool, e api.Errno) {
	if !holds {
		panic(e)
	}
}

// do does a carry, and returns the error with which it was refused. A panic that refuses nothing is a mistake of the program, which must not look as if all were well.
func (x *log) do(c api.Carry) (e api.Errno) {
	defer func() {
		switch left := recover().(type) {
		case nil:
		case api.Errno:
			e = left
		default:
			e = api.ErrCarry
		}
	}()
	kinds := map[int]func(*log, api.Carry){
		api.CarryIn:    (*log).bring,
		api.CarryMove:  (*log).move,
		api.CarryCheck: (*log).check,
		api.CarryOpen:  (*log).open,
		api.CarryOut:   (*log).take,
	}
	kinds[c.Kind](x, c)
	x.bags[c.Bag].By, x.bags[c.Bag].With = c.By, c.With
	return api.OK
}

func (x *log) bring(c api.Carry) {
	// A bag that was there suits some climate, also when it has left.
	require(x.bags[c.Bag] == api.Bag{}, api.ErrBag)
	x.needReach(c, c.To)
	x.put(c, api.Bag{Suits: c.Suits})
	x.seal(c)
}

func (x *log) move(c api.Carry) {
	x.needBag(c)
	x.needReach(c, c.To)
	x.put(c, x.bags[c.Bag])
	x.trails[c.Bag] |= 1 << c.To
}

func (x *log) check(c api.Carry) {
	x.needBag(c)
	require(x.bags[c.Bag].Seal == c.Seal, api.ErrSeal)
	x.settle(c)
}

func (x *log) open(c api.Carry) {
	x.needBag(c)
	x.seal(c)
}

func (x *log) take(c api.Carry) {
	x.needBag(c)
	x.bags[c.Bag].Room, x.bags[c.Bag].Seal = hall, 0
}

// needBag asks for a bag that is in a room which the two people reach.
func (x *log) needBag(c api.Carry) {
	room := x.bags[c.Bag].Room
	require(room != hall, api.ErrBag)
	x.needReach(c, room)
}

func (x *log) needReach(c api.Carry, room int) {
	require(reaches(x.Strong, 1<<c.By|1<<c.With, 1<<room), api.ErrReach)
}

// put puts a bag into the room to which it is carried, if it is not there, and room and climate allow it.
func (x *log) put(c api.Carry, bag api.Bag) {
	bag.Room = c.To
	room := x.Rooms[c.To]
	next := x.bags
	next[c.Bag] = bag
	require(next != x.bags && next.count(c.To) <= room.Hold, api.ErrRoom)
	require(has(climateSet(bag.Suits), room.Climate), api.ErrClimate)
	x.bags = next
}

// seal gives a bag a seal that no bag had.
func (x *log) seal(c api.Carry) {
	require(!x.seals[c.Seal], api.ErrSeal)
	x.seals[c.Seal] = true
	x.bags[c.Bag].Seal = c.Seal
	x.settle(c)
}

// settle says that the seal of a bag is right.
func (x *log) settle(c api.Carry) { x.trails[c.Bag] = 1 << x.bags[c.Bag].Room }

// run does carries. With an error it returns the index of the carry that was refused.
func run(s api.Strong, l []api.Carry) (x *log, at int, e api.Errno) {
	if e := Check(s); e != api.OK {
		return nil, 0, e
	}
	if !areCarries(s, l) {
		return nil, 0, api.ErrCarry
	}
	x = &log{Strong: s, seals: map[int]bool{}}
	for at, c := range l {
		if e := x.do(c); e != api.OK {
			return nil, at, e
		}
	}
	return x, len(l), api.OK
}

// Play does carries.
func Play(s api.Strong, l []api.Carry) (bags [api.MaxBags]api.Bag, at int, e api.Errno) {
	x, at, e := run(s, l)
	if e != api.OK {
		return bags, at, e
	}
	return x.bags, at, api.OK
}

// Where returns the room in which a bag is.
func Where(s api.Strong, l []api.Carry, bag, day int) (int, api.Errno) {
	if _, _, e := run(s, l); e != api.OK {
		return 0, e
	}
	if !isIndex(bag, api.MaxBags) || !within(day, 0, api.MaxDay) {
		return 0, api.ErrRange
	}
	// Where no carry is refused, none of the first ones is.
	x, _, _ := run(s, upTo(l, day))
	return x.bags[bag].Room, api.OK
}

// Suspects returns who may have swapped what is in a bag.
func Suspects(s api.Strong, l []api.Carry, bag int) ([]int, api.Errno) {
	x, _, e := run(s, l)
	if e != api.OK {
		return nil, e
	}
	if !isIndex(bag, api.MaxBags) {
		return nil, api.ErrRange
	}
	if x.bags[bag].Room == hall {
		return nil, api.ErrBag
	}
	return groups(s, x.trails[bag]), api.OK
}
