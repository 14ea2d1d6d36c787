package purse_test

import (
	"math/rand/v2"
	"slices"
	"testing"

	"lombard/api"
	"lombard/purse"
)

// P7.1: the examples of the document, ties, weights that are 0, and the greatest numbers
func TestShare(t *testing.T) {
	most := api.MaxDue
	for _, x := range []struct {
		weights []int
		sum     int
		want    []int
	}{
		{[]int{6, 3, 1}, 5, []int{4, 1, 0}},
		{[]int{1, 1, 1}, 4, []int{2, 1, 1}},
		{[]int{6, 3, 1}, 0, []int{0, 0, 0}},
		{[]int{6, 3, 1}, 1, []int{1, 0, 0}},
		{[]int{3, 6, 1}, 1, []int{0, 1, 0}},
		{[]int{6, 3, 1}, 2, []int{2, 0, 0}}, // 6/2 and 3/1 are the same: the first one
		{[]int{3, 6, 1}, 2, []int{1, 1, 0}},
		{[]int{1, 2}, 2, []int{1, 1}},
		{[]int{2, 1}, 2, []int{2, 0}},
		{[]int{0, 0, 1}, 1, []int{0, 0, 1}},
		{[]int{0, 7, 0}, 100, []int{0, 100, 0}},
		{[]int{1}, 0, []int{0}},
		{[]int{1}, api.MaxShared, []int{api.MaxShared}},
		{[]int{most}, api.MaxShared, []int{api.MaxShared}},
		{[]int{most, most, most}, api.MaxShared, []int{11453246123, 11453246123, 11453246122}},
		{[]int{1, most}, api.MaxShared, []int{511, api.MaxShared - 511}},
		{row(24, most), api.MaxShared, append(row(8, 1431655766), row(16, 1431655765)...)},
		{row(24, 1), 23, append(row(23, 1), 0)},
	} {
		if l := shared(t, x.weights, x.sum); !slices.Equal(l, x.want) {
			t.Errorf("Share(%v, %d): %v, want %v", x.weights, x.sum, l, x.want)
		}
	}
}

// wrongWeights are lists that are no weights.
func wrongWeights() [][]int {
	l := [][]int{nil, {}, {0}, row(24, 0), row(25, 1), row(1000, 1), append(row(24, 1), 0)}
	for _, n := range beyond(0, 1<<26) {
		l = append(l, []int{n}, []int{5, n}, []int{n, 5, 5}, []int{n, 1<<26 - n})
	}
	return l
}

// P7.1: what is not shared out; wrong weights come before a wrong sum
func TestShareErrors(t *testing.T) {
	for _, w := range wrongWeights() {
		for _, sum := range append(beyond(0, 1<<35), 0, 5) {
			if l, e := purse.Share(w, sum); len(l) > 0 || e != api.ErrShares {
				t.Errorf("Share(%v, %d): %v, error %d", w, sum, l, e)
			}
		}
	}
	for _, sum := range beyond(0, 1<<35) {
		for _, w := range [][]int{{1}, {0, 1 << 26}, row(24, 1<<26)} {
			if l, e := purse.Share(w, sum); len(l) > 0 || e != api.ErrRange {
				t.Errorf("Share(%v, %d): %v, error %d", w, sum, l, e)
			}
		}
	}
}

// P7.1: cent by cent
func TestShareSlowly(t *testing.T) {
	r := random(2)
	for range 4000 {
		w := someWeights(r, 24, []int{1, 3, 10, 100, 1 << 26}[r.IntN(5)])
		sum := r.IntN([]int{3, 30, 300, 3000}[r.IntN(4)])
		if l, want := shared(t, w, sum), slowShare(w, sum); !slices.Equal(l, want) {
			t.Fatalf("Share(%v, %d): %v, want %v", w, sum, l, want)
		}
	}
}

// before reports whether the cent number m of the weight i is given before the cent number n of the weight k.
func before(w []int, i, m, k, n int) bool {
	if a, b := w[i]*n, w[k]*m; a != b {
		return a > b
	}
	return i < k
}

// P7.1: great sums: the last cent that somebody has was given before the next one that somebody else would get
func TestShareGreat(t *testing.T) {
	r := random(3)
	for range 4000 {
		w := someWeights(r, 24, []int{1, 10, 1000, 1 << 26}[r.IntN(4)])
		sum := api.MaxShared - r.IntN(1000)
		if r.IntN(2) == 0 {
			sum = r.IntN(1 + api.MaxShared>>r.IntN(20))
		}
		l := shared(t, w, sum)
		if sumOf(l) != sum {
			t.Fatalf("Share(%v, %d): %v", w, sum, l)
		}
		for i, has := range l {
			for k := range l {
				if i != k && has > 0 && !before(w, i, has, k, l[k]+1) {
					t.Fatalf("Share(%v, %d): %v: %d has the last cent of %d", w, sum, l, i, k)
				}
			}
		}
	}
}

// P7.1: the examples of the document, ranks in any order, and dues that are 0
func TestSpread(t *testing.T) {
	ada, most := parts()[0].Dues, api.MaxDue
	var tens []api.Due
	for i := range 10 {
		tens = append(tens, due(9-i, 10))
	}
	for _, x := range []struct {
		dues []api.Due
		sum  int
		paid []int
		left int
	}{
		{ada, 17, []int{10, 4, 3}, 0},
		{ada, 30, []int{10, 8, 8}, 4},
		{ada, 0, []int{0, 0, 0}, 0},
		{ada, 9, []int{9, 0, 0}, 0},
		{ada, 10, []int{10, 0, 0}, 0},
		{ada, 11, []int{10, 1, 0}, 0},
		{ada, 25, []int{10, 8, 7}, 0},
		{ada, 26, []int{10, 8, 8}, 0},
		{ada, 27, []int{10, 8, 8}, 1},
		{nil, 0, nil, 0},
		{nil, api.MaxShared, nil, api.MaxShared},
		{[]api.Due{due(3, 0)}, 7, []int{0}, 7},
		{[]api.Due{due(3, 0), due(3, 0), due(4, 2)}, 0, []int{0, 0, 0}, 0},
		{[]api.Due{due(3, 0), due(3, 5), due(4, 2)}, 4, []int{0, 4, 0}, 0},
		{[]api.Due{due(9, 5), due(0, 5), due(4, 5)}, 7, []int{0, 5, 2}, 0},
		{[]api.Due{due(2, 1), due(1, 4), due(2, 3), due(1, 2)}, 9, []int{1, 4, 2, 2}, 0}, // 1/1 and 3/3 are the same: the first one
		{[]api.Due{due(2, 1), due(1, 4), due(2, 3), due(1, 2)}, 5, []int{0, 4, 0, 1}, 0},
		{tens, 95, []int{5, 10, 10, 10, 10, 10, 10, 10, 10, 10}, 0},
		{tens, 101, row(10, 10), 1},
		{slices.Repeat([]api.Due{due(9, most)}, 24), api.MaxShared, row(24, most), api.MaxShared - 24*most},
		{slices.Repeat([]api.Due{due(0, most)}, 24), 24*most - 1, append(row(23, most), most-1), 0},
	} {
		if l, left := spread(t, x.dues, x.sum); !slices.Equal(l, x.paid) || left != x.left {
			t.Errorf("Spread(%v, %d): %v, left %d, want %v, %d", x.dues, x.sum, l, left, x.paid, x.left)
		}
	}
}

// wrongDues are lists that are no dues.
func wrongDues() [][]api.Due {
	l := [][]api.Due{make([]api.Due, 25), make([]api.Due, 1000)}
	for _, n := range beyond(0, 9) {
		l = append(l, []api.Due{due(n, 5)}, []api.Due{due(0, 5), due(n, 0)})
	}
	for _, n := range beyond(0, 1<<26) {
		l = append(l, []api.Due{due(0, n)}, []api.Due{due(9, n), due(0, 0)})
	}
	return l
}

// P7.1: what is not spread; wrong dues come before a wrong sum
func TestSpreadErrors(t *testing.T) {
	for _, dues := range wrongDues() {
		for _, sum := range append(beyond(0, 1<<35), 0, 5) {
			if l, left, e := purse.Spread(dues, sum); len(l) > 0 || left != 0 || e != api.ErrDues {
				t.Errorf("Spread(%v, %d): %v, %d, error %d", dues, sum, l, left, e)
			}
		}
	}
	for _, sum := range beyond(0, 1<<35) {
		for _, dues := range [][]api.Due{nil, {}, {due(9, 1<<26)}, make([]api.Due, 24)} {
			if l, left, e := purse.Spread(dues, sum); len(l) > 0 || left != 0 || e != api.ErrRange {
				t.Errorf("Spread(%v, %d): %v, %d, error %d", dues, sum, l, left, e)
			}
		}
	}
}

// someSum is a random sum that is most often not enough for these dues.
func someSum(r *rand.Rand, dues []api.Due) int {
	need := 0
	for _, d := range dues {
		need += d.Amount
	}
	return r.IntN(need + need/3 + 3)
}

// P7.1: rank by rank
func TestSpreadSlowly(t *testing.T) {
	r := random(4)
	for range 4000 {
		dues := someDues(r, 24, []int{1, 10, 100}[r.IntN(3)])
		sum := someSum(r, dues)
		l, left := spread(t, dues, sum)
		if want, n := slowSpread(dues, sum); !slices.Equal(l, want) || left != n {
			t.Fatalf("Spread(%v, %d): %v, %d, want %v, %d", dues, sum, l, left, want, n)
		}
	}
}
