package clerk_test

import (
	"fmt"
	"regexp"
	"slices"
	"strconv"
	"strings"

	"lombard/api"
	"lombard/auction"
	"lombard/loan"
	"lombard/pledge"
	"lombard/purse"
	"lombard/ticket"
	"lombard/vault"
	"lombard/wanted"
)

// shapes are the lines of the document as regular expressions: # is a number, _ any token, @ an edge, % a half, & a word of a list.
func shapes() (l []*regexp.Regexp) {
	kinds := strings.NewReplacer("#", "(?:0|[1-9][0-9]{0,9})", "_", "[^ ]+", "@", "[0-9]{8,16}", "%", "[0-9?]{8,16}", "&", "(?:[^ ;!]|[^ ]{2,})")
	for _, form := range []string{
		"day (#)",
		"metal (#)",
		"take (_) (#) (#) (#) (#) (#) (#) (#) (#) (@) : (_(?: _)*)",
		"pay (_) (#)",
		"renew (_)",
		"rest (_) (#)",
		"redeem (_) (%) (#) (#)",
		"block (_)",
		"free (_) (%)",
		"replace (_) (@)",
		"list (#) : (&(?: &)*(?: ; &(?: &)*)*)(?: ! (&(?: &)*))?",
		"sell (#) (#) (#) (_(?: _){0,7}) :((?: # # #)*)",
		"claim (_)",
		"pass",
		"give (#(?: #)*)",
		"move (_) (#) (#) (#)",
		"check (_) (#) (#) (#)",
		"open (_) (#) (#) (#)",
		"owe (_)",
		"where (_)",
		"holds (_)",
		"cash",
	} {
		l = append(l, regexp.MustCompile(`\A`+kinds.Replace(form)+`\z`))
	}
	return l
}

var shaped = shapes()

// read returns the name of a line and its groups, and whether it has one of the shapes.
func read(line string) (name string, f []string, ok bool) {
	if len(line) > 4096 {
		return "", nil, false
	}
	for _, shape := range shaped {
		if m := shape.FindStringSubmatch(line); m != nil {
			return nameOf(line), m[1:], true
		}
	}
	return "", nil, false
}

func number(s string) int {
	n, e := strconv.Atoi(s)
	if e != nil {
		panic(e)
	}
	return n
}

func numbersOf(s string) (l []int) {
	for _, x := range strings.Fields(s) {
		l = append(l, number(x))
	}
	return l
}

func digitsOf(s string) (l []int) {
	for _, c := range s {
		l = append(l, strings.IndexRune("?0123456789", c)-1)
	}
	return l
}

// naive is a clerk without care: a line that fails may leave it half changed.
type naive struct {
	s                api.Shop
	day, metal, cash int
	pawns            []api.Pawn
	carries          []api.Carry
	entries          []api.Entry
	roll             *ticket.Roll
	chest            *purse.Purse
}

func newNaive(s api.Shop) *naive {
	roll, _ := ticket.New(s.Wait)
	chest, _ := purse.New(s.Years)
	return &naive{s: s, day: s.Market.Day, metal: s.Market.Metal, cash: s.Cash, roll: roll, chest: chest}
}

// slow is a clerk that does its journal anew after each error.
type slow struct {
	s       api.Shop
	journal []string
	now     *naive
}

func newSlow(s api.Shop) *slow { return &slow{s: s, now: newNaive(s)} }

func (x *slow) again() {
	x.now = newNaive(x.s)
	for _, line := range x.journal {
		name, f, _ := read(line)
		x.now.do(name, f)
	}
}

func (x *slow) do(line string) (string, api.Errno) {
	name, f, ok := read(line)
	switch {
	case !ok:
		return "", api.ErrLine
	case isQuestion(line):
		return x.now.do(name, f)
	case len(x.journal) == 256:
		return "", api.ErrFull
	}
	answer, e := x.now.do(name, f)
	if e != api.OK {
		x.again()
		return "", e
	}
	x.journal = append(x.journal, line)
	return answer, api.OK
}

// told is what the same function says of a clerk.
func (x *slow) told() string {
	n := x.now
	return fmt.Sprintf("%q %d %d\n%v\n%v\n%v\n%v\n%v", x.journal, n.day, n.cash, n.pawns, n.roll.Tickets(), n.carries, n.entries, n.chest.Surpluses())
}

func (n *naive) indexOf(name string) int {
	return slices.IndexFunc(n.pawns, func(p api.Pawn) bool { return p.Name == name })
}

// ofCode returns the index of the pledge of a code, and its ticket.
func (n *naive) ofCode(code string) (int, api.Ticket, api.Errno) {
	k, e := ticket.Number(code)
	if e != api.OK {
		return 0, api.Ticket{}, e
	}
	for _, t := range n.roll.Tickets() {
		if t.Number != k {
			continue
		}
		if t.State == api.TicketVoid || t.State == api.TicketDone || t.State == api.TicketGone {
			return 0, api.Ticket{}, api.ErrSpent
		}
		return n.indexOf(t.Pledge), t, api.OK
	}
	return 0, api.Ticket{}, api.ErrNone
}

func (n *naive) account(i int) api.Account {
	x, _ := loan.Owe(n.pawns[i].Deal, n.pawns[i].Acts, n.day)
	return x
}

func (n *naive) held(x api.Item) []int {
	l, _ := wanted.Held(n.s.Grammar, n.s.Pairs, x, n.entries, n.day)
	return l
}

func (n *naive) act(i, kind, sum int) api.Errno {
	p := &n.pawns[i]
	p.Acts = append(p.Acts, api.Act{Day: n.day, Kind: kind, N: sum})
	_, _, e := loan.Run(p.Deal, p.Acts)
	return e
}

func (n *naive) carry(kind, bag, to, seal, suits, by, with int) api.Errno {
	n.carries = append(n.carries, api.Carry{Day: n.day, Kind: kind, Bag: bag, To: to, By: by, With: with, Seal: seal, Suits: suits})
	_, _, e := vault.Play(n.s.Strong, n.carries)
	return e
}

func (n *naive) do(name string, f []string) (string, api.Errno) {
	switch name {
	case "take":
		return n.take(f)
	case "pay", "renew", "rest", "redeem":
		return n.withLoan(name, f)
	case "sell":
		return n.sell(f)
	case "claim", "pass", "give":
		return n.withPurse(name, f)
	case "owe", "where", "holds", "cash":
		return n.ask(name, f)
	case "block":
		return "", n.roll.Block(f[0], n.day)
	case "free":
		return "", n.roll.Free(f[0], digitsOf(f[1]), n.day)
	case "replace":
		return n.roll.Replace(f[0], digitsOf(f[1]), n.day)
	case "list":
		return n.list(f)
	case "move", "check", "open":
		i := n.indexOf(f[0])
		if i < 0 {
			return "", api.ErrName
		}
		x, by, with := number(f[1]), number(f[2]), number(f[3])
		switch name {
		case "move":
			return "", n.carry(api.CarryMove, i, x, 0, 0, by, with)
		case "check":
			return "", n.carry(api.CarryCheck, i, 0, x, 0, by, with)
		}
		return "", n.carry(api.CarryOpen, i, 0, x, 0, by, with)
	}
	k := number(f[0]) // day and metal
	if name == "metal" {
		if k > 100000 {
			return "", api.ErrRange
		}
		n.metal = k
		return "", api.OK
	}
	if k < n.day || k > 36500 {
		return "", api.ErrDay
	}
	n.day = k
	return "", api.OK
}

func (n *naive) take(f []string) (string, api.Errno) {
	x := numbersOf(strings.Join(f[1:9], " "))
	item, e := pledge.Parse(n.s.Grammar, f[10])
	if e != api.OK {
		return "", e
	}
	kind := slices.Index(n.s.Kinds, item.Class)
	if kind < 0 {
		return "", api.ErrNone
	}
	if len(n.held(item)) > 0 {
		return "", api.ErrHeld
	}
	m := n.s.Market
	m.Day, m.Metal = n.day, n.metal
	value, e := loan.Value(m, api.Ware{Kind: kind, Weight: api.Span{Min: x[1], Max: x[2]}})
	if e != api.OK {
		return "", e
	}
	terms, e := loan.For(n.s.Rules, item.Class)
	if e != api.OK {
		return "", e
	}
	sum, e := loan.Lend(terms, value, x[0])
	if e != api.OK {
		return "", e
	}
	if sum > n.cash {
		return "", api.ErrCash
	}
	if e := n.carry(api.CarryIn, len(n.pawns), x[3], x[4], x[5], x[6], x[7]); e != api.OK {
		return "", e
	}
	code, e := n.roll.Issue(f[0], digitsOf(f[9]), n.day)
	if e != api.OK {
		return "", e
	}
	n.cash -= sum
	n.pawns = append(n.pawns, api.Pawn{Name: f[0], Item: item, Deal: api.Deal{Law: n.s.Law, Tariff: n.s.Tariff, Closed: n.s.Closed, Start: n.day, Sum: sum}})
	return fmt.Sprint(code, " ", sum), api.OK
}

func (n *naive) withLoan(name string, f []string) (string, api.Errno) {
	i, _, e := n.ofCode(f[0])
	if e != api.OK {
		return "", e
	}
	was := n.account(i)
	switch name {
	case "pay":
		e = n.act(i, api.ActPay, number(f[1]))
		n.cash += number(f[1])
		return fmt.Sprint(n.account(i).Principal), e
	case "renew":
		e = n.act(i, api.ActRenew, 0)
		n.cash += n.account(i).Paid - was.Paid
		return fmt.Sprint(n.account(i).Paid - was.Paid), e
	case "rest":
		return "", n.act(i, api.ActHold, number(f[1]))
	}
	if len(n.held(n.pawns[i].Item)) > 0 {
		return "", api.ErrHeld
	}
	if e := n.act(i, api.ActRedeem, 0); e != api.OK {
		return "", e
	}
	if e := n.carry(api.CarryOut, i, 0, 0, 0, number(f[2]), number(f[3])); e != api.OK {
		return "", e
	}
	if _, e := n.roll.Redeem(f[0], digitsOf(f[1]), n.day); e != api.OK {
		return "", e
	}
	// All that was charged is paid, and the principal.
	sum := was.Principal + n.account(i).Charged - was.Paid
	n.cash += sum
	return fmt.Sprint(n.pawns[i].Name, " ", sum), api.OK
}

func (n *naive) list(f []string) (string, api.Errno) {
	x := api.Entry{Day: n.day, Until: number(f[0]), Not: strings.Fields(f[2])}
	for _, s := range strings.Split(f[1], " ; ") {
		x.Clauses = append(x.Clauses, strings.Fields(s))
	}
	if wanted.CheckEntry(x) != api.OK {
		return "", api.ErrEntry
	}
	if len(n.entries) == 24 {
		return "", api.ErrFull
	}
	n.entries = append(n.entries, x)
	return fmt.Sprint(len(n.entries) - 1), api.OK
}

// sellable returns the pledge of a code that is to be sold behind others.
func (n *naive) sellable(code string, before []int) (int, api.Errno) {
	i, t, e := n.ofCode(code)
	switch {
	case e != api.OK:
		return 0, e
	case slices.Contains(before, i):
		return 0, api.ErrName
	case t.State == api.TicketBlocked:
		return 0, api.ErrBlocked
	case n.account(i).Age <= n.s.Tariff.Term+n.s.Tariff.Grace:
		return 0, api.ErrTerm
	case len(n.held(n.pawns[i].Item)) > 0:
		return 0, api.ErrHeld
	}
	return i, api.OK
}

func (n *naive) sell(f []string) (string, api.Errno) {
	cost, by, with := number(f[0]), number(f[1]), number(f[2])
	codes := strings.Split(f[3], " ")
	var sold []int
	for _, code := range codes {
		i, e := n.sellable(code, sold)
		if e != api.OK {
			return "", e
		}
		sold = append(sold, i)
	}
	if cost > 1<<26 {
		return "", api.ErrRange
	}
	lot := api.Lot{Start: n.s.Start, Ladder: n.s.Ladder}
	var parts []api.Part
	for _, i := range sold {
		x := n.account(i)
		lot.Reserve += cost + x.Principal + x.Charged - x.Paid
		parts = append(parts, api.Part{Pledge: n.pawns[i].Name, Value: x.Principal, Dues: []api.Due{{Rank: 2, Amount: x.Principal}, {Rank: 1, Amount: x.Charged - x.Paid}, {Rank: 0, Amount: cost}}})
	}
	var bids []api.Bid
	for l := numbersOf(f[4]); len(l) > 0; l = l[3:] {
		bids = append(bids, api.Bid{Bidder: l[0], Way: l[1], Most: l[2]})
	}
	knock, e := auction.Sell(lot, bids)
	if e != api.OK {
		return "", e
	}
	if knock.Winner < 0 {
		return "", api.ErrUnsold
	}
	for _, i := range sold {
		if e := n.carry(api.CarryOut, i, 0, 0, 0, by, with); e != api.OK {
			return "", e
		}
	}
	portions, e := n.chest.Sell(n.day, knock.Price, parts)
	if e != api.OK {
		return "", e
	}
	n.cash += knock.Price
	answer := fmt.Sprint(knock.Winner, " ", knock.Price)
	for k, code := range codes {
		name, _ := n.roll.Forfeit(code, n.day)
		answer += fmt.Sprint(" ", name, " ", portions[k].Left)
	}
	return answer, api.OK
}

func (n *naive) withPurse(name string, f []string) (string, api.Errno) {
	was := n.cash
	_, welfare, _ := n.chest.Holds()
	switch name {
	case "claim":
		sum, e := n.chest.Pay(n.day, f[0])
		if e == api.OK && sum > was {
			return "", api.ErrCash
		}
		n.cash -= sum
		return fmt.Sprint(sum), e
	case "pass":
		sum, e := n.chest.Pass(n.day)
		return fmt.Sprint(sum), e
	}
	given, e := n.chest.Give(n.day, numbersOf(f[0]))
	if e == api.OK && welfare > was {
		return "", api.ErrCash
	}
	n.cash -= welfare
	return strings.Trim(fmt.Sprint(given), "[]"), e
}

func (n *naive) ask(name string, f []string) (string, api.Errno) {
	if name == "cash" {
		waits, welfare, _ := n.chest.Holds()
		return fmt.Sprint(n.cash, " ", waits, " ", welfare), api.OK
	}
	if name == "owe" {
		i, _, e := n.ofCode(f[0])
		if e != api.OK {
			return "", e
		}
		x := n.account(i)
		return fmt.Sprint(x.Principal, " ", x.Charged-x.Paid, " ", x.Age), api.OK
	}
	i := n.indexOf(f[0])
	if i < 0 {
		return "", api.ErrName
	}
	if name == "where" {
		bags, _, _ := vault.Play(n.s.Strong, n.carries)
		return fmt.Sprint(bags[i].Room), api.OK
	}
	return strings.Trim(fmt.Sprint(n.held(n.pawns[i].Item)), "[]"), api.OK
}
