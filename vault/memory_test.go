package vault_test

import (
	"reflect"
	"slices"
	"sync"
	"testing"

	"lombard/api"
	"lombard/vault"
)

// answers are what all functions return.
func answers(s api.Strong, group, room int, way []int, l []api.Carry, bag, day int) []any {
	reached, e := vault.Enter(s, group)
	closed, e2 := vault.Closed(s, group, 2*room+1)
	found, e3 := vault.Way(s, group, room)
	opened, e4 := vault.Opens(s, group, way)
	some, e5 := vault.Groups(s, room)
	guard, e6 := vault.Guards(s, room)
	bags, at, e7 := vault.Play(s, l)
	where, e8 := vault.Where(s, l, bag, day)
	set, e9 := vault.Suspects(s, l, bag)
	return []any{reached, closed, found, opened, some, guard, bags, at, where, set, e, e2, e3, e4, e5, e6, e7, e8, e9, vault.Check(s)}
}

// example are the answers to questions about the strongroom of the document.
func example(s api.Strong, way []int, l []api.Carry) []any { return answers(s, 3, 2, way, l, 7, 6) }

// scribble writes over all memory of lists among results.
func scribble(results []any) {
	for _, x := range results {
		if l, ok := x.([]int); ok {
			for i := range l[:cap(l)] {
				l[:cap(l)][i] = 77
			}
		}
	}
}

// P4.7: arguments are not changed, nor the memory behind them; results share none with them, nor with other results
func TestMemory(t *testing.T) {
	s, way, l := strong(), append(make([]int, 0, 9), 0, 1), append(make([]api.Carry, 0, 9), log()...)
	s.Rooms, s.Gates, s.Staff = slices.Grow(s.Rooms, 9), slices.Grow(s.Gates, 9), slices.Grow(s.Staff, 9)
	for i := range s.Gates {
		s.Gates[i].Ways = slices.Grow(s.Gates[i].Ways, 9)
	}
	first := example(s, way, l)
	if !reflect.DeepEqual(s, strong()) || !slices.Equal(way, []int{0, 1}) || !slices.Equal(l, log()) {
		t.Fatalf("arguments are changed: %v, %v, %v", s, way, l)
	}
	if s.Rooms[:9][8] != (api.Chamber{}) || s.Staff[:9][3] != 0 || s.Gates[:9][3].Ways != nil || s.Gates[0].Ways[:9][1] != 0 || way[:9][2] != 0 || l[:9][3] != (api.Carry{}) {
		t.Errorf("memory behind arguments is changed")
	}
	second := example(s, way, l)
	scribble(second)
	third := example(s, way, l)
	for i := range s.Gates {
		clear(s.Gates[i].Ways)
	}
	clear(s.Rooms)
	clear(s.Gates)
	clear(s.Staff)
	clear(way)
	clear(l)
	if !reflect.DeepEqual(first, third) {
		t.Errorf("results share memory: %v, then %v", first, third)
	}
	if again := example(strong(), []int{0, 1}, log()); !reflect.DeepEqual(first, again) {
		t.Errorf("arguments are kept: %v, then %v", first, again)
	}
}

// P4.7: the bags of a result are its own
func TestBagsMemory(t *testing.T) {
	a := played(t, strong(), log())
	b := a
	a[7].Room, a[0].Seal = 9, 9
	if c := played(t, strong(), log()); c != b {
		t.Errorf("Play: %v, then %v", b, c)
	}
}

// P2: the same arguments have the same result, whatever was called before, or is called at the same time
func TestSameResults(t *testing.T) {
	r := random(9)
	type question struct {
		s                     api.Strong
		group, room, bag, day int
		way                   []int
		l                     []api.Carry
	}
	var all []question
	for range 200 {
		s := wide(r)
		all = append(all, question{s, r.IntN(1 << len(s.Staff)), r.IntN(len(s.Rooms)), r.IntN(8), r.IntN(60), []int{r.IntN(4), r.IntN(4)}[:r.IntN(3)], someLog(r, s, nil)})
	}
	ask := func(l []question) []any {
		var out []any
		for _, q := range l {
			out = append(out, answers(q.s, q.group, q.room, q.way, q.l, q.bag, q.day))
		}
		return out
	}
	first := ask(all)
	backwards := slices.Clone(all)
	slices.Reverse(backwards)
	second := ask(backwards)
	slices.Reverse(second)
	if !reflect.DeepEqual(first, second) {
		t.Errorf("other results in another order")
	}
	var group sync.WaitGroup
	for range 4 {
		group.Go(func() {
			if !reflect.DeepEqual(first, ask(all)) {
				t.Errorf("other results at the same time")
			}
		})
	}
	group.Wait()
}

// R3: a nil list and an empty one are the same
func TestNilAndEmpty(t *testing.T) {
	same := func(a, b []any) {
		t.Helper()
		for i := range a {
			x, ok := a[i].([]int)
			if ok && len(x) == 0 && len(b[i].([]int)) == 0 {
				continue
			}
			if !reflect.DeepEqual(a[i], b[i]) {
				t.Errorf("result %d: %v, then %v", i, a[i], b[i])
			}
		}
	}
	s, x := strong(), strong()
	s.Gates, x.Gates = nil, []api.Gate{}
	same(answers(s, 1, 0, nil, nil, 7, 6), answers(x, 1, 0, []int{}, []api.Carry{}, 7, 6))
	same(answers(s, 1, 1, nil, nil, 7, 6), answers(x, 1, 1, []int{}, []api.Carry{}, 7, 6))
	for _, change := range []func(s *api.Strong, empty bool){
		func(s *api.Strong, empty bool) { s.Rooms = map[bool][]api.Chamber{true: {}}[empty] },
		func(s *api.Strong, empty bool) { s.Staff = map[bool][]int{true: {}}[empty] },
		func(s *api.Strong, empty bool) { s.Gates[1].Ways = map[bool][]int{true: {}}[empty] },
	} {
		s, x := strong(), strong()
		change(&s, false)
		change(&x, true)
		errs(t, "Check of an empty list", vault.Check(x), api.ErrStrong)
		same(example(s, nil, log()), example(x, nil, log()))
	}
}

// P1: whatever the arguments are, no function panics, and with an error all else is zero
func TestAnyArguments(t *testing.T) {
	r := random(10)
	numbers := append(extremes(), -2, -1, 0, 1, 2, 3, 5, 6, 7, 8, 15, 16, 31, 32, 63, 64, 255, 256, 36500, 36501, 999999, 1000000, 1<<31, 1<<62)
	some := func() int {
		if r.IntN(8) > 0 {
			return r.IntN(3)
		}
		return numbers[r.IntN(len(numbers))]
	}
	list := func(n int) []int {
		l := make([]int, n)
		for i := range l {
			l[i] = some()
		}
		return l
	}
	fine := 0
	for range 60000 {
		s := api.Strong{Staff: list(1 + r.IntN(4))}
		for range 1 + r.IntN(3) {
			s.Rooms = append(s.Rooms, api.Chamber{Hold: some(), Climate: some(), Keys: some()})
		}
		for range r.IntN(3) {
			s.Gates = append(s.Gates, api.Gate{A: some(), B: some(), Need: some(), Ways: list(r.IntN(4))})
		}
		if r.IntN(2) == 0 {
			s = someStrong(r)
		}
		var l []api.Carry
		for range r.IntN(4) {
			l = append(l, api.Carry{Day: some(), Kind: some(), Bag: some(), To: some(), By: some(), With: some(), Seal: some(), Suits: some()})
		}
		got := answers(s, some(), some(), list(r.IntN(3)), l, some(), some())
		result := func(i int) bool { return !isZero(got[i]) }
		for _, x := range []struct {
			e    any
			some bool
		}{{got[10], result(0)}, {got[11], result(1)}, {got[12], result(2)}, {got[13], result(3)}, {got[14], result(4)}, {got[15], result(5)}, {got[16], result(6)}, {got[17], result(8)}, {got[18], result(9)}} {
			if x.e != api.OK && x.some {
				t.Fatalf("results with the error %d: %v, %v: %v", x.e, s, l, got)
			}
		}
		at, e := got[7].(int), got[16].(api.Errno)
		if at < 0 || e == api.OK && at != len(l) || e != api.OK && at >= max(1, len(l)) {
			t.Fatalf("Play(%v, %v): %d, error %d", s, l, at, e)
		}
		if got[19] == api.OK {
			fine++
		}
	}
	if fine < 30000 {
		t.Errorf("only %d strongrooms were valid", fine)
	}
}

// isZero reports whether a result is zero, or an empty list.
func isZero(x any) bool {
	if l, ok := x.([]int); ok {
		return len(l) == 0
	}
	return reflect.ValueOf(x).IsZero()
}
