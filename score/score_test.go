package score

import (
	"math"
	"math/rand"
	"slices"
	"testing"
)

// P20.1

func TestNext(t *testing.T) {
	for _, c := range []struct {
		s          Score
		good       bool
		rise, fall int
		want       Score
	}{
		{Score{}, true, 1, 1, Score{true, 1, 0}},
		{Score{}, true, 2, 1, Score{false, 1, 0}},
		{Score{false, 1, 0}, true, 2, 1, Score{true, 2, 0}},
		{Score{false, 1, 0}, true, 3, 1, Score{false, 2, 0}},
		{Score{true, 5, 0}, true, 9, 1, Score{true, 6, 0}},
		{Score{false, 5, 0}, true, 2, 1, Score{true, 6, 0}},
		{Score{false, 1, 0}, false, 2, 2, Score{false, 0, 1}},
		{Score{true, 7, 0}, false, 2, 2, Score{true, 0, 1}},
		{Score{true, 0, 1}, false, 2, 2, Score{false, 0, 2}},
		{Score{true, 0, 1}, false, 2, 3, Score{true, 0, 2}},
		{Score{true, 0, 5}, false, 2, 3, Score{false, 0, 6}},
		{Score{true, 0, 1}, true, 2, 3, Score{true, 1, 0}},
		{Score{true, 4, 4}, true, 9, 1, Score{true, 5, 0}},
		{Score{true, 4, 4}, false, 1, 9, Score{true, 0, 5}},
		{Score{false, 0, 8}, false, 2, 3, Score{false, 0, 9}},
	} {
		if got := Next(c.s, c.good, c.rise, c.fall); got != c.want {
			t.Error(c, got)
		}
	}
}

func TestNextOfOddNumbers(t *testing.T) {
	for _, few := range []int{math.MinInt, -1, 0, 1} {
		if got := Next(Score{}, true, few, 5); got != (Score{true, 1, 0}) {
			t.Error(few, got)
		}
		if got := Next(Score{Up: true}, false, 5, few); got != (Score{false, 0, 1}) {
			t.Error(few, got)
		}
		if got := Next(Score{}, false, few, 5); got != (Score{false, 0, 1}) {
			t.Error(few, got)
		}
		if got := Next(Score{Up: true}, true, 5, few); got != (Score{true, 1, 0}) {
			t.Error(few, got)
		}
		if few < 1 {
			if got := Next(Score{false, few, few}, true, 1, 1); got != (Score{true, 1, 0}) {
				t.Error(few, got)
			}
			if got := Next(Score{true, few, few}, false, 1, 1); got != (Score{false, 0, 1}) {
				t.Error(few, got)
			}
		}
	}
}

func TestNextCountsNoFurther(t *testing.T) {
	const most = 1 << 30
	for _, n := range []int{most - 1, most, most + 1, math.MaxInt} {
		if got := Next(Score{false, n, n}, true, most, 1); got != (Score{true, most, 0}) {
			t.Error(n, got)
		}
		if got := Next(Score{true, n, n}, false, 1, most); got != (Score{false, 0, most}) {
			t.Error(n, got)
		}
		if got := Next(Score{false, n, 0}, true, most+1, 1); got != (Score{false, most, 0}) {
			t.Error(n, got)
		}
		if got := Next(Score{true, 0, n}, false, 1, math.MaxInt); got != (Score{true, 0, most}) {
			t.Error(n, got)
		}
	}
	if got := Next(Score{false, most - 2, 0}, true, most, 1); got != (Score{false, most - 1, 0}) {
		t.Error(got)
	}
}

// P20.2

func TestOf(t *testing.T) {
	for _, c := range []struct {
		l          []bool
		rise, fall int
		want       Score
	}{
		{nil, 1, 1, Score{}},
		{[]bool{true}, 2, 2, Score{false, 1, 0}},
		{[]bool{true, true}, 2, 2, Score{true, 2, 0}},
		{[]bool{true, true, false}, 2, 2, Score{true, 0, 1}},
		{[]bool{true, true, false, false}, 2, 2, Score{false, 0, 2}},
		{[]bool{true, true, false, true, false}, 2, 2, Score{true, 0, 1}},
		{[]bool{true, false, true, false, true}, 2, 2, Score{false, 1, 0}},
		{[]bool{false, true, false}, 0, -1, Score{false, 0, 1}},
		{[]bool{false, true}, 0, -1, Score{true, 1, 0}},
	} {
		before := slices.Clone(c.l)
		if got := Of(c.l, c.rise, c.fall); got != c.want {
			t.Error(c, got)
		}
		if !slices.Equal(c.l, before) {
			t.Error("what was handed in is changed")
		}
	}
}

func TestLong(t *testing.T) {
	for _, c := range []struct {
		l         []bool
		good, bad int
	}{
		{nil, 0, 0},
		{[]bool{true}, 1, 0},
		{[]bool{false}, 0, 1},
		{[]bool{true, true, true}, 3, 0},
		{[]bool{true, false, true, true}, 2, 0},
		{[]bool{true, true, false}, 0, 1},
		{[]bool{false, true, false, false}, 0, 2},
	} {
		if Long(c.l, true) != c.good || Long(c.l, false) != c.bad {
			t.Error(c, Long(c.l, true), Long(c.l, false))
		}
	}
}

// P20.3

// runs tells from which places on there are so many alike.
func runs(l []bool, good bool, n int) []int {
	var at []int
	for i := 0; i+n <= len(l); i++ {
		if Long(l[:i+n], good) >= n {
			at = append(at, i)
		}
	}
	return at
}

func TestUpJustIfSo(t *testing.T) {
	r := rand.New(rand.NewSource(20))
	for range 3000 {
		l := make([]bool, r.Intn(25))
		for i := range l {
			l[i] = r.Intn(2) == 0
		}
		rise, fall := 1+r.Intn(5), 1+r.Intn(5)
		want := false
		bad := runs(l, false, fall)
		for _, i := range runs(l, true, rise) {
			want = want || len(bad) == 0 || bad[len(bad)-1] < i
		}
		got := Of(l, rise, fall)
		if got.Up != want || got.Good != Long(l, true) || got.Bad != Long(l, false) {
			t.Fatal(l, rise, fall, got)
		}
	}
}
