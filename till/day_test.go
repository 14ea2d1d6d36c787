package till_test

import (
	"slices"
	"testing"

	"lombard/api"
	"lombard/till"
)

// P8.6: the example of the document, and edges
func TestBalance(t *testing.T) {
	most := api.MaxSum
	for _, x := range []struct {
		d    api.DayBook
		want []int
	}{
		{book(88, 22, 40), []int{79, 31, 40}},
		{api.DayBook{Open: []int{0, 0}, Counted: []int{0, 0}}, []int{0, 0}},
		{api.DayBook{Open: []int{0, 0}, Counted: []int{0, 0}, Postings: []api.Posting{posting(0, 1, 5)}}, []int{-5, 5}}, // less than 0
		{api.DayBook{Open: row(8, most), Counted: row(8, 0)}, row(8, most)},
		{api.DayBook{Open: row(8, most), Counted: row(8, most), Postings: slices.Repeat([]api.Posting{posting(7, 0, most)}, 16)}, []int{17 * most, most, most, most, most, most, most, -15 * most}},
		{api.DayBook{Open: []int{9, 0, 4}, Counted: row(3, 0), Postings: []api.Posting{posting(0, 2, 3), posting(2, 1, 5), posting(0, 2, 1), posting(1, 0, 9)}}, []int{14, -4, 3}},
	} {
		if l := balanced(t, x.d); !slices.Equal(l, x.want) {
			t.Errorf("Balance(%v): %v, want %v", x.d, l, x.want)
		}
	}
}

// wrongBooks are no days.
func wrongBooks() []api.DayBook {
	with := func(l ...api.Posting) api.DayBook {
		d := book(88, 22, 40)
		d.Postings = l
		return d
	}
	l := []api.DayBook{
		{}, {Open: []int{}, Counted: []int{}}, {Open: row(1, 5), Counted: row(1, 5)}, {Open: row(9, 5), Counted: row(9, 5)},
		book(), book(88, 22), book(88, 22, 40, 0), {Open: row(2, 5)}, {Counted: row(2, 5)}, {Open: row(1000, 0), Counted: row(1000, 0)},
		with(posting(0, 0, 5)), with(posting(2, 2, 5)), with(posting(0, 1, 5), posting(1, 1, 5)),
		with(slices.Repeat([]api.Posting{posting(0, 1, 5)}, 17)...), with(make([]api.Posting, 1)...), with(make([]api.Posting, 1000)...),
	}
	for _, n := range beyond(0, 1<<30) {
		d := book(88, 22, 40)
		d.Open = []int{100, n, 0}
		l = append(l, d, book(n, 22, 40), book(88, 22, n))
	}
	for _, n := range beyond(0, 2) {
		l = append(l, with(posting(n, 1, 5)), with(posting(1, n, 5)), with(posting(0, 1, 5), posting(n, 0, 5)), with(posting(n, n, 5)))
	}
	for _, n := range beyond(1, 1<<30) {
		l = append(l, with(posting(0, 1, n)), with(posting(0, 1, 5), posting(0, 2, n), posting(0, 1, 5)))
	}
	return l
}

// P8.6: what is no day
func TestDayErrors(t *testing.T) {
	for _, d := range wrongBooks() {
		if l, e := till.Balance(d); len(l) > 0 || e != api.ErrDayBook {
			t.Errorf("Balance(%v): %v, error %d", d, l, e)
		}
		if l, e := till.Explain(d); len(l) > 0 || e != api.ErrDayBook {
			t.Errorf("Explain(%v): %v, error %d", d, l, e)
		}
	}
	balanced(t, api.DayBook{Open: []int{0, 1 << 30}, Counted: []int{1 << 30, 0}, Postings: slices.Repeat([]api.Posting{posting(0, 1, 1), posting(1, 0, 1<<30)}, 8)})
}

// paper is a day with two accounts, and postings of these sums from the first one to the second one, of which so much really went together.
func paper(went int, sums ...int) api.DayBook {
	d := api.DayBook{Open: []int{1 << 30, 0}, Counted: []int{1<<30 - went, went}}
	for _, n := range sums {
		d.Postings = append(d.Postings, posting(0, 1, n))
	}
	return d
}

// circle is a day on which 5 went from each of three accounts to the next one.
func circle(counted ...int) api.DayBook {
	return api.DayBook{Open: row(3, 9), Counted: counted, Postings: []api.Posting{posting(0, 1, 5), posting(1, 2, 5), posting(2, 0, 5)}}
}

// around is a day on which the greatest sum went from each of three accounts to another one.
func around(counted ...int) api.DayBook {
	const most = api.MaxSum
	return api.DayBook{Open: []int{most, 0, most}, Counted: counted, Postings: []api.Posting{posting(0, 1, most), posting(2, 0, most), posting(1, 2, most)}}
}

// explained checks the explanation of a day that has one.
func explained(t *testing.T, d api.DayBook, want ...api.Mistake) {
	t.Helper()
	if l, e := till.Explain(d); !slices.Equal(l, want) || e != api.OK {
		t.Errorf("Explain(%v): %v, error %d, want %v", d, l, e, want)
	}
}

// unexplained checks that there is no explanation of a day.
func unexplained(t *testing.T, d api.DayBook) {
	t.Helper()
	if l, e := till.Explain(d); len(l) > 0 || e != api.ErrNone {
		t.Errorf("Explain(%v): %v, error %d", d, l, e)
	}
}

// P8.6: the example of the document, and others of the same day
func TestExplain(t *testing.T) {
	explained(t, book(88, 22, 40), mistake(0, 12))
	explained(t, book(79, 31, 40))
	explained(t, book(79, 71, 0), mistake(1, 0))
	explained(t, book(58, 52, 40), mistake(0, 42))
	explained(t, book(79, 67, 4), mistake(1, 4)) // 04
	explained(t, book(100, 50, 0), mistake(0, 0), mistake(1, 0))
	explained(t, book(88, 58, 4), mistake(0, 12), mistake(1, 4))
	unexplained(t, book(87, 22, 40)) // in all less than there was
	unexplained(t, book(80, 31, 40)) // in all more
	unexplained(t, book(80, 30, 40))
}

// P8.6: what a posting may really have been
func TestReally(t *testing.T) {
	for _, x := range []struct{ sum, went int }{
		{7, 0}, {7, 14}, {1, 2}, {21, 12}, {10, 1}, {100, 10}, {1234, 2134}, {1234, 1324}, {1234, 1243}, {1234, 2468},
		{1000000000, 100000000}, {500000005, 1000000010}, {500000005, 50000005}, {1 << 29, 1 << 30}, {1 << 30, 0},
		{1 << 30, 173741824}, {1 << 30, 1037741824}, {1 << 30, 1073714824}, {1 << 30, 1073741284},
	} {
		explained(t, paper(x.went, x.sum), mistake(0, x.went))
	}
	for _, x := range []struct{ sum, went int }{
		{7, 70}, {7, 1}, {7, 21}, {21, 201}, {21, 210}, {21, 2}, {21, 1}, {100, 1}, {1000, 10}, {1000000000, 10000000},
		{1234, 3214}, {1234, 2143}, {1234, 4231}, {1234, 4321}, {1234, 2341}, {1234, 234}, {1234, 4123}, {1 << 30, 1 << 29},
	} {
		unexplained(t, paper(x.went, x.sum))
	}
	for _, sum := range []int{7, 21, 22, 1111, 1 << 30} {
		explained(t, paper(sum, sum))
	}
	explained(t, around(0, 1<<30, 1<<30), mistake(0, 1<<31))
}

// P8.6: the shortest explanation, and the first one of several
func TestBest(t *testing.T) {
	explained(t, paper(0))
	unexplained(t, paper(5))
	explained(t, paper(12, 5, 7))
	explained(t, paper(7, 5, 7), mistake(0, 0))
	explained(t, paper(5, 5, 5), mistake(0, 0))
	explained(t, paper(15, 10, 10, 5), mistake(0, 0))
	explained(t, paper(21, 10, 10, 10), mistake(0, 1))
	explained(t, paper(3, 1, 2, 4), mistake(2, 0)) // not three mistakes from the posting 0 on
	explained(t, paper(8, 4, 4, 3, 1), mistake(0, 0))
	explained(t, paper(8, 4, 4, 4, 4), mistake(0, 0), mistake(1, 0))
	explained(t, paper(45, 12, 12, 12), mistake(0, 21))
	explained(t, paper(33, 12, 12, 12), mistake(0, 0), mistake(1, 21)) // not 21 and 0
	explained(t, paper(45, 12, 12), mistake(0, 21), mistake(1, 24))    // not 24 and 21
	explained(t, paper(21, 12, 12, 12), mistake(0, 0), mistake(1, 0), mistake(2, 21))
	explained(t, paper(0, 4, 4, 4), mistake(0, 0), mistake(1, 0), mistake(2, 0))
	unexplained(t, paper(0, 4, 4, 4, 4)) // four mistakes
	unexplained(t, paper(5, 4, 4, 4))
	explained(t, paper(13, row(16, 1)...), mistake(0, 0), mistake(1, 0), mistake(2, 0))
	explained(t, paper(19, row(16, 1)...), mistake(0, 2), mistake(1, 2), mistake(2, 2))
	explained(t, paper(29, append(row(15, 1), 7)...), mistake(15, 14))
	explained(t, paper(28, append(row(15, 1), 7)...), mistake(0, 0), mistake(15, 14))
}

// P8.6: several accounts
func TestAccounts(t *testing.T) {
	explained(t, circle(9, 9, 9))
	explained(t, circle(14, 9, 4), mistake(2, 10))
	explained(t, circle(4, 9, 14), mistake(2, 0))
	explained(t, circle(4, 14, 9), mistake(0, 10))
	explained(t, circle(9, 14, 4), mistake(1, 0))
	unexplained(t, circle(10, 8, 9))
	unexplained(t, circle(9, 9, 10))
	for _, l := range [][]int{row(8, 9), append(row(6, 9), 8, 10), append([]int{10, 8}, row(6, 9)...)} {
		d := api.DayBook{Open: row(8, 9), Counted: l}
		if slices.Equal(d.Open, l) {
			explained(t, d)
		} else {
			unexplained(t, d)
		}
	}
}

// P8.6: the best one of all explanations
func TestExplainSlowly(t *testing.T) {
	r := random(9)
	seen := map[int]int{}
	for range 1500 {
		d := someBook(r, 6)
		l, e := till.Explain(d)
		want, ok := slowExplain(d)
		if !slices.Equal(l, want) || ok != (e == api.OK) || !ok && e != api.ErrNone {
			t.Fatalf("Explain(%v): %v, error %d, want %v", d, l, e, want)
		}
		if !ok {
			seen[-1]++
		} else {
			seen[len(l)]++
		}
	}
	for n := -1; n <= 3; n++ {
		if seen[n] < 50 {
			t.Errorf("%d mistakes were seen %d times only", n, seen[n])
		}
	}
}

// P8.6: random days with many postings
func TestBalanceSlowly(t *testing.T) {
	r := random(10)
	for range 3000 {
		d := someBook(r, 16)
		if l, want := balanced(t, d), slowBalance(d, nil); !slices.Equal(l, want) {
			t.Fatalf("Balance(%v): %v, want %v", d, l, want)
		}
	}
}
