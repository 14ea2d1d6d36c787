package till_test

import (
	"slices"
	"testing"

	"lombard/api"
	"lombard/till"
)

// P8.4: the example of the document, chains, circles, and links that are there twice
func TestLinked(t *testing.T) {
	for _, x := range []struct {
		links [][2]int
		want  map[int]int // those who are not the least ones
	}{
		{links(0, 1), map[int]int{1: 0}},
		{nil, nil},
		{links(1, 0), map[int]int{1: 0}},
		{links(0, 1, 0, 1, 1, 0), map[int]int{1: 0}},
		{links(5, 4, 9, 5, 2, 3), map[int]int{5: 4, 9: 4, 3: 2}},
		{links(23, 22, 22, 21, 21, 23), map[int]int{22: 21, 23: 21}},
		{links(7, 8, 10, 9, 9, 8, 3, 10), map[int]int{7: 3, 8: 3, 9: 3, 10: 3}},
		{links(0, 23), map[int]int{23: 0}},
		{slices.Repeat(links(3, 5), 64), map[int]int{5: 3}},
	} {
		for person, least := range linked(t, x.links) {
			want, ok := x.want[person]
			if !ok {
				want = person
			}
			if least != want {
				t.Errorf("Linked(%v): %d of %d, want %d", x.links, least, person, want)
			}
		}
	}
}

// wrongLinks are no links.
func wrongLinks() [][][2]int {
	l := [][][2]int{slices.Repeat(links(0, 1), 65), make([][2]int, 1000), links(0, 0), links(5, 5), links(0, 1, 23, 23), links(0, 1, 1, 1, 2, 3)}
	for _, n := range beyond(0, 23) {
		l = append(l, links(n, 5), links(5, n), links(0, 1, n, 2), links(n, 0, 0, 1), links(n, n))
	}
	return l
}

// P8.4: what are no links
func TestLinkedErrors(t *testing.T) {
	for _, x := range wrongLinks() {
		if l, e := till.Linked(x); len(l) > 0 || e != api.ErrDealing {
			t.Errorf("Linked(%v): %v, error %d", x, l, e)
		}
	}
}

// P8.4: random links
func TestLinkedSlowly(t *testing.T) {
	r := random(6)
	for range 4000 {
		var x [][2]int
		persons := 2 + r.IntN(23)
		for range r.IntN(r.IntN(65) + 1) {
			if a, b := r.IntN(persons), r.IntN(persons); a != b {
				x = append(x, [2]int{a, b})
			}
		}
		if l, want := linked(t, x), slowLinked(x); !slices.Equal(l, want) {
			t.Fatalf("Linked(%v): %v, want %v", x, l, want)
		}
	}
}

// P8.4: the examples of the document, and the edges of windows, sums and small ones
func TestAlarms(t *testing.T) {
	one, two := links(0, 1), links(0, 1, 0, 3)
	same := []api.Dealing{dealing(7, 2, 60), dealing(7, 2, 40), dealing(7, 2, 1)}
	for _, x := range []struct {
		desk
		want []api.Alarm
	}{
		{desk{dealings(), one, watch()}, []api.Alarm{alarm(0, 3, 105)}},
		{desk{dealings(), two, watch()}, []api.Alarm{alarm(0, 2, 125)}},
		{desk{dealings(), nil, watch()}, nil},
		{desk{nil, one, watch()}, nil},
		// The dealing of the day 4 is in the window of the day 8 if that has more than 4 days.
		{desk{dealings(), one, api.Watch{Days: 4, Sum: 100, Low: 100, Many: 1}}, nil},
		{desk{dealings(), one, api.Watch{Days: 5, Sum: 105, Low: 105, Many: 1}}, []api.Alarm{alarm(0, 3, 105)}},
		{desk{dealings(), one, api.Watch{Days: 5, Sum: 106, Low: 106, Many: 1}}, nil},
		// Small ones are from Low to Sum - 1.
		{desk{dealings(), one, api.Watch{Days: 5, Sum: 106, Low: 45, Many: 2}}, []api.Alarm{alarm(0, 3, 105)}},
		{desk{dealings(), one, api.Watch{Days: 5, Sum: 106, Low: 46, Many: 2}}, nil},
		{desk{dealings(), one, api.Watch{Days: 5, Sum: 106, Low: 45, Many: 3}}, nil},
		{desk{dealings(), one, api.Watch{Days: 4, Sum: 106, Low: 45, Many: 2}}, nil},
		{desk{dealings(), nil, api.Watch{Days: 366, Sum: 1000, Low: 50, Many: 1}}, []api.Alarm{alarm(0, 3, 90), alarm(3, 1, 50)}},
		{desk{dealings(), nil, api.Watch{Days: 366, Sum: 1000, Low: 45, Many: 1}}, []api.Alarm{alarm(0, 3, 90), alarm(1, 2, 45), alarm(3, 1, 50)}},
		// The least person has no dealing.
		{desk{dealings()[1:3], links(3, 1, 1, 0), api.Watch{Days: 3, Sum: 95, Low: 95, Many: 1}}, []api.Alarm{alarm(0, 1, 95)}},
		{desk{dealings()[1:3], links(3, 1, 1, 0), api.Watch{Days: 2, Sum: 95, Low: 95, Many: 1}}, nil},
		// On the same day those before it count, and none behind it.
		{desk{same, nil, api.Watch{Days: 1, Sum: 100, Low: 100, Many: 1}}, []api.Alarm{alarm(2, 1, 100)}},
		{desk{same, nil, api.Watch{Days: 1, Sum: 101, Low: 101, Many: 1}}, []api.Alarm{alarm(2, 2, 101)}},
		{desk{same, nil, api.Watch{Days: 1, Sum: 102, Low: 1, Many: 3}}, []api.Alarm{alarm(2, 2, 101)}},
		{desk{[]api.Dealing{dealing(0, 0, 5), dealing(365, 0, 5)}, nil, api.Watch{Days: 366, Sum: 10, Low: 10, Many: 1}}, []api.Alarm{alarm(0, 1, 10)}},
		{desk{[]api.Dealing{dealing(0, 0, 5), dealing(366, 0, 5)}, nil, api.Watch{Days: 366, Sum: 10, Low: 10, Many: 1}}, nil},
		{desk{[]api.Dealing{dealing(0, 0, 1<<30), dealing(36500, 23, 1<<30)}, nil, api.Watch{Days: 1, Sum: 1 << 30, Low: 1 << 30, Many: 64}}, []api.Alarm{alarm(0, 0, 1<<30), alarm(23, 1, 1<<30)}},
		{desk{slices.Repeat([]api.Dealing{dealing(9, 9, 1<<30-1)}, 64), nil, api.Watch{Days: 1, Sum: 1 << 30, Low: 1 << 30, Many: 64}}, []api.Alarm{alarm(9, 1, 1<<31-2)}},
		{desk{slices.Repeat([]api.Dealing{dealing(9, 9, 7)}, 64), nil, api.Watch{Days: 1, Sum: 1 << 30, Low: 7, Many: 64}}, []api.Alarm{alarm(9, 63, 448)}},
		{desk{slices.Repeat([]api.Dealing{dealing(9, 9, 7)}, 63), nil, api.Watch{Days: 1, Sum: 1 << 30, Low: 7, Many: 64}}, nil},
	} {
		if l := alarmed(t, x.desk); !slices.Equal(l, x.want) {
			t.Errorf("Alarms(%v): %v, want %v", x.desk, l, x.want)
		}
	}
}

// wrongDealings are no dealings.
func wrongDealings() [][]api.Dealing {
	l := [][]api.Dealing{
		make([]api.Dealing, 5), make([]api.Dealing, 1000), slices.Repeat([]api.Dealing{dealing(1, 1, 1)}, 65),
		{dealing(2, 0, 5), dealing(1, 0, 5)}, {dealing(1, 0, 5), dealing(3, 0, 5), dealing(2, 1, 5)},
	}
	for _, n := range beyond(0, 36500) {
		l = append(l, []api.Dealing{dealing(n, 0, 5)})
	}
	for _, n := range beyond(0, 23) {
		l = append(l, []api.Dealing{dealing(5, n, 5)}, []api.Dealing{dealing(5, 0, 5), dealing(5, n, 5)})
	}
	for _, n := range beyond(1, 1<<30) {
		l = append(l, []api.Dealing{dealing(5, 0, n)}, []api.Dealing{dealing(5, 0, 5), dealing(6, 0, n), dealing(6, 0, 1)})
	}
	return l
}

func wrongWatches() []api.Watch {
	l := []api.Watch{{}, {Days: 5, Sum: 100, Low: 101, Many: 2}}
	for _, n := range beyond(1, 366) {
		l = append(l, api.Watch{Days: n, Sum: 100, Low: 40, Many: 2})
	}
	for _, n := range beyond(1, 1<<30) {
		l = append(l, api.Watch{Days: 5, Sum: n, Low: 1, Many: 2}, api.Watch{Days: 5, Sum: n, Low: n, Many: 2}, api.Watch{Days: 5, Sum: 1 << 30, Low: n, Many: 2})
	}
	for _, n := range beyond(1, 64) {
		l = append(l, api.Watch{Days: 5, Sum: 100, Low: 40, Many: n})
	}
	return l
}

// wrongDesks have something wrong each.
func wrongDesks() []desk {
	var l []desk
	for _, x := range wrongDealings() {
		l = append(l, desk{x, nil, watch()}, desk{x, links(0, 1), watch()}, desk{x, links(0, 0), watch()})
	}
	for _, x := range wrongLinks() {
		l = append(l, desk{nil, x, watch()}, desk{dealings(), x, watch()})
	}
	for _, x := range wrongWatches() {
		l = append(l, desk{nil, nil, x}, desk{dealings(), links(0, 1), x})
	}
	return l
}

// P8.4, P8.5: what is not watched; this comes before an index of no dealing
func TestDealingErrors(t *testing.T) {
	for _, x := range wrongDesks() {
		if l, e := till.Alarms(x.l, x.links, x.w); len(l) > 0 || e != api.ErrDealing {
			t.Errorf("Alarms(%v): %v, error %d", x, l, e)
		}
		for _, k := range append(beyond(0, len(x.l)-1), 0, len(x.l)/2, len(x.l)-1) {
			if l, e := till.Reasons(x.l, x.links, x.w, k); len(l) > 0 || e != api.ErrDealing {
				t.Errorf("Reasons(%v, %d): %v, error %d", x, k, l, e)
			}
		}
	}
	for _, w := range []api.Watch{{Days: 1, Sum: 1, Low: 1, Many: 1}, {Days: 366, Sum: 1 << 30, Low: 1 << 30, Many: 64}} {
		alarmed(t, desk{dealings(), slices.Repeat(links(22, 23), 64), w})
		for _, l := range [][]api.Dealing{nil, dealings()[:1], dealings()} {
			for _, k := range beyond(0, len(l)-1) {
				if x, e := till.Reasons(l, nil, w, k); len(x) > 0 || e != api.ErrRange {
					t.Errorf("Reasons(%v, %d): %v, error %d", l, k, x, e)
				}
			}
		}
	}
}

// P8.5: the examples of the document, the fewest, the first ones, and small ones
func TestReasons(t *testing.T) {
	one, two := links(0, 1), links(0, 1, 0, 3)
	var mixed, steps []api.Dealing
	for _, sum := range []int{1, 9, 5, 2, 5, 9, 5, 1} {
		mixed = append(mixed, dealing(5, 4, sum))
	}
	for i := range 64 {
		steps = append(steps, dealing(5, 4, 1+i))
	}
	at := func(sum int) api.Watch { return api.Watch{Days: 1, Sum: sum, Low: sum, Many: 1} }
	small := func(low, many int) api.Watch { return api.Watch{Days: 5, Sum: 1000, Low: low, Many: many} }
	for _, x := range []struct {
		desk
		k    int
		want []int
	}{
		{desk{dealings(), one, watch()}, 3, []int{2, 3}},
		{desk{dealings(), one, watch()}, 2, nil},
		{desk{dealings(), one, watch()}, 1, nil},
		{desk{dealings(), two, watch()}, 2, []int{0, 1, 2}},
		{desk{dealings(), two, watch()}, 3, []int{2, 3}},
		{desk{dealings(), two, api.Watch{Days: 9, Sum: 90, Low: 90, Many: 9}}, 3, []int{0, 3}}, // 30 and 60
		{desk{dealings(), two, api.Watch{Days: 9, Sum: 91, Low: 91, Many: 9}}, 3, []int{1, 2}}, // not 1 3, nor 2 3
		{desk{dealings(), two, api.Watch{Days: 9, Sum: 60, Low: 1, Many: 1}}, 3, []int{3}},
		{desk{dealings(), two, api.Watch{Days: 9, Sum: 185, Low: 1, Many: 1}}, 3, []int{0, 1, 2, 3}},
		{desk{mixed, nil, at(9)}, 7, []int{1}},
		{desk{mixed, nil, at(10)}, 7, []int{0, 1}},
		{desk{mixed, nil, at(11)}, 7, []int{1, 2}},
		{desk{mixed, nil, at(14)}, 7, []int{1, 2}},
		{desk{mixed, nil, at(15)}, 7, []int{1, 5}},
		{desk{mixed, nil, at(15)}, 4, []int{0, 1, 2}},
		{desk{mixed, nil, at(16)}, 4, []int{1, 2, 3}},
		{desk{mixed, nil, at(19)}, 7, []int{0, 1, 5}},
		{desk{mixed, nil, at(20)}, 7, []int{1, 2, 5}},
		{desk{mixed, nil, at(24)}, 7, []int{0, 1, 2, 5}},
		{desk{mixed, nil, at(25)}, 7, []int{1, 2, 3, 5}},
		{desk{mixed, nil, at(26)}, 7, []int{1, 2, 4, 5}},
		{desk{mixed, nil, at(37)}, 7, []int{0, 1, 2, 3, 4, 5, 6, 7}},
		{desk{mixed, nil, at(38)}, 7, nil},
		{desk{steps, nil, at(2080)}, 63, counted(0, 64)},
		{desk{steps, nil, at(2079)}, 63, counted(1, 64)}, // without the least one
		{desk{steps, nil, at(127)}, 63, []int{62, 63}},
		{desk{steps, nil, at(128)}, 63, []int{0, 62, 63}},
		{desk{steps, nil, at(65)}, 63, []int{0, 63}},
		{desk{dealings(), two, small(45, 2)}, 2, []int{1, 2}},
		{desk{dealings(), two, small(45, 1)}, 2, []int{1}},
		{desk{dealings(), two, small(45, 3)}, 2, nil},
		{desk{dealings(), two, small(30, 3)}, 2, []int{0, 1, 2}},
		{desk{dealings(), two, small(30, 2)}, 3, []int{2, 3}}, // the others are before its window
		{desk{dealings(), two, small(1, 1)}, 0, []int{0}},
		{desk{dealings(), one, api.Watch{Days: 5, Sum: 61, Low: 60, Many: 1}}, 3, []int{2, 3}}, // the sum goes before small ones
		{desk{dealings()[:1], nil, small(1, 1)}, 0, []int{0}},
	} {
		if l := x.reasons(t, x.k); !slices.Equal(l, x.want) {
			t.Errorf("Reasons(%v, %d): %v, want %v", x.desk, x.k, l, x.want)
		}
	}
}

// counted are the numbers from one to below another one.
func counted(from, to int) []int {
	var l []int
	for n := from; n < to; n++ {
		l = append(l, n)
	}
	return l
}

// P8.4, P8.5: random dealings
func TestDealingsSlowly(t *testing.T) {
	r := random(7)
	bySum, bySmall, none := 0, 0, 0
	for range 3000 {
		x := someDesk(r, 12)
		if l, want := alarmed(t, x), slowAlarms(x); !slices.Equal(l, want) {
			t.Fatalf("Alarms(%v): %v, want %v", x, l, want)
		}
		for k := range x.l {
			l, want := x.reasons(t, k), slowReasons(x, k)
			if !slices.Equal(l, want) {
				t.Fatalf("Reasons(%v, %d): %v, want %v", x, k, l, want)
			}
			switch {
			case len(l) == 0:
				none++
			case x.sum(slowWindow(x, k)) >= x.w.Sum:
				bySum++
			default:
				bySmall++
			}
		}
	}
	if bySum < 1000 || bySmall < 1000 || none < 1000 {
		t.Errorf("only %d, %d and %d", bySum, bySmall, none)
	}
}

// P8.4: many dealings
func TestAlarmsGreat(t *testing.T) {
	r := random(8)
	for range 300 {
		x := someDesk(r, 64)
		if l, want := alarmed(t, x), slowAlarms(x); !slices.Equal(l, want) {
			t.Fatalf("Alarms(%v): %v, want %v", x, l, want)
		}
	}
}
