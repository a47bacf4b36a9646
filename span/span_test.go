package span

import (
	"math"
	"math/rand"
	"slices"
	"testing"
)

const top = math.MaxUint32

// adds adds a range, and holds how many are new against what is wanted.
func adds(t *testing.T, s *Set, from, n uint32, want int) {
	t.Helper()
	if got := s.Add(Range{from, n}); got != want {
		t.Error(from, n, got)
	}
}

// holds holds what came against what is wanted.
func holds(t *testing.T, s *Set, want ...Range) {
	t.Helper()
	n := 0
	for _, r := range want {
		n += int(r.Len)
	}
	if got := s.Ranges(); !slices.Equal(got, want) || s.Len() != n {
		t.Error(got, s.Len())
	}
}

// P50.1

func TestAhead(t *testing.T) {
	for _, x := range []struct {
		a, b uint32
		want bool
	}{
		{0, 0, false}, {0, 1, true}, {1, 0, false}, {0, 1<<31 - 1, true}, {0, 1 << 31, false}, {0, 1<<31 + 1, false}, {1 << 31, 0, false}, {1<<31 + 1, 0, true},
		{top, 0, true}, {0, top, false}, {top, top, false}, {top, 1<<31 - 2, true}, {top, 1<<31 - 1, false}, {5, 9, true}, {9, 5, false},
	} {
		if got := Ahead(x.a, x.b); got != x.want {
			t.Error(x, got)
		}
	}
}

func TestWithin(t *testing.T) {
	for _, x := range []struct {
		x, from, n uint32
		want       bool
	}{
		{5, 5, 1, true}, {5, 5, 0, false}, {6, 5, 1, false}, {4, 5, 1, false}, {4, 5, top, false}, {3, 5, top, true}, {0, top, 2, true}, {1, top, 2, false}, {top, top, 1, true}, {top, 0, top, false}, {top - 1, 0, top, true},
	} {
		if got := Within(x.x, x.from, x.n); got != x.want {
			t.Error(x, got)
		}
	}
}

// P50.2

func TestNew(t *testing.T) {
	for _, base := range []uint32{0, 77, 1 << 31, top} {
		s := New(base)
		if s.Base() != base || s.Next() != base || s.Move() != 0 || s.Len() != 0 || s.Have(base) {
			t.Error(base)
		}
		holds(t, s)
	}
}

func TestAdd(t *testing.T) {
	s := New(top)
	adds(t, s, top, 3, 3)
	if s.Next() != 2 || s.Base() != top {
		t.Error(s.Next())
	}
	adds(t, s, top, 3, 0)
	adds(t, s, 0, 0, 0)
	adds(t, s, 1, 2, 1)
	holds(t, s, Range{top, 4})
	adds(t, s, 10, 5, 5)
	adds(t, s, 20, 5, 5)
	holds(t, s, Range{top, 4}, Range{10, 5}, Range{20, 5})
	// What touches becomes one.
	adds(t, s, 15, 5, 5)
	holds(t, s, Range{top, 4}, Range{10, 15})
	adds(t, s, 9, 1, 1)
	adds(t, s, 25, 1, 1)
	holds(t, s, Range{top, 4}, Range{9, 17})
	adds(t, s, 2, 100, 82)
	adds(t, s, 4, 5, 0)
	holds(t, s, Range{top, 103})
	if s.Next() != 102 {
		t.Error(s.Next())
	}
}

// TestAddBounds has ranges that go to the end of what is told, or begin behind the base.
func TestAddBounds(t *testing.T) {
	s := New(1000)
	adds(t, s, 999, 1, 0)
	adds(t, s, 0, 1000, 0)
	adds(t, s, 1000+1<<31, 1, 0)
	adds(t, s, 1000+1<<31, 1<<31, 0)
	holds(t, s)
	adds(t, s, 999+1<<31, 5, 1)
	holds(t, s, Range{999 + 1<<31, 1})
	adds(t, s, 990, 20, 10)
	holds(t, s, Range{1000, 10}, Range{999 + 1<<31, 1})
	adds(t, s, 1000+1<<31, top, 1<<31-11)
	holds(t, s, Range{1000, 1 << 31})
	if s.Next() != 1000+1<<31 || s.Len() != 1<<31 {
		t.Error(s.Next(), s.Len())
	}
	s = New(5)
	adds(t, s, 4, top, 1<<31)
	s = New(5)
	adds(t, s, 6, top, 1<<31-1)
	holds(t, s, Range{6, 1<<31 - 1})
	s = New(5)
	adds(t, s, 7, top, 1<<31-1)
	holds(t, s, Range{5, 1}, Range{7, 1<<31 - 2})
}

func TestHave(t *testing.T) {
	s := New(100)
	adds(t, s, 100, 3, 3)
	adds(t, s, 110, 2, 2)
	for x, want := range map[uint32]bool{99: false, 100: true, 102: true, 103: false, 109: false, 110: true, 111: true, 112: false, 0: false, top: false, 100 + 1<<31: false} {
		if got := s.Have(x); got != want {
			t.Error(x, got)
		}
	}
	s.Move()
	// What is behind the base plays no part any more.
	if s.Have(100) || s.Have(102) || !s.Have(110) {
		t.Error("behind the base")
	}
}

func TestMove(t *testing.T) {
	s := New(top - 1)
	adds(t, s, 5, 2, 2)
	if s.Move() != 0 || s.Next() != top-1 {
		t.Error(s.Base())
	}
	adds(t, s, top, 1, 1)
	if s.Move() != 0 || s.Next() != top-1 {
		t.Error(s.Base())
	}
	adds(t, s, top-1, 4, 3)
	if n := s.Move(); n != 4 || s.Base() != 2 || s.Next() != 2 {
		t.Error(n, s.Base())
	}
	holds(t, s, Range{5, 2})
	adds(t, s, top, 4, 1)
	holds(t, s, Range{2, 1}, Range{5, 2})
	adds(t, s, 3, 2, 2)
	if n := s.Move(); n != 5 || s.Base() != 7 || s.Len() != 0 || s.Move() != 0 {
		t.Error(n, s.Base())
	}
	// As the base goes on, more is told ahead.
	adds(t, s, 7+1<<31, 1, 0)
	adds(t, s, 7, 1, 1)
	s.Move()
	adds(t, s, 7+1<<31, 1, 1)
	holds(t, s, Range{7 + 1<<31, 1})
	adds(t, s, 8, 1<<31-1, 1<<31-1)
	if n := s.Move(); n != 1<<31 || s.Base() != 8+1<<31 {
		t.Error(n, s.Base())
	}
}

func TestRangesIsApart(t *testing.T) {
	s := New(0)
	adds(t, s, 5, 2, 2)
	l := s.Ranges()
	l[0].From = 9
	holds(t, s, Range{5, 2})
}

func TestNil(t *testing.T) {
	var s *Set
	if s.Add(Range{0, 5}) != 0 || s.Have(0) || s.Next() != 0 || s.Move() != 0 || s.Base() != 0 || len(s.Ranges()) != 0 || s.Len() != 0 {
		t.Error("of nil there is something")
	}
}

// P50.3

// TestAgainstRows holds many calls against a plain row, of numbers taken 2^24 at once, so that all ways come by.
func TestAgainstRows(t *testing.T) {
	const cell, cells = 1 << 24, 256
	r := rand.New(rand.NewSource(50))
	for range 60 {
		base := uint32(r.Intn(cells))
		s, row := New(base*cell), [cells]bool{}
		way := func(x uint32) uint32 { return (x - base) % cells }
		for range 200 {
			from, n := uint32(r.Intn(cells)), uint32(r.Intn(40))
			if r.Intn(20) == 0 {
				n = uint32(r.Intn(cells))
			}
			fresh := 0
			for x := from; x < from+n; x++ {
				if x := x % cells; way(x) < cells/2 && !row[x] {
					row[x] = true
					fresh += cell
				}
			}
			adds(t, s, from*cell, n*cell, fresh)
			if r.Intn(5) == 0 {
				moved := 0
				for row[base] {
					row[base] = false
					base = (base + 1) % cells
					moved += cell
				}
				if got := s.Move(); got != moved {
					t.Fatal(got, moved)
				}
			}
			hold(t, s, base, row[:])
		}
	}
}

// hold holds a set against a plain row.
func hold(t *testing.T, s *Set, base uint32, row []bool) {
	t.Helper()
	const cell = 1 << 24
	n := uint32(len(row))
	next, count := base, 0
	for row[next] && (next-base)%n < n/2 {
		next = (next + 1) % n
	}
	var want []Range
	for w := range n {
		x := (base + w) % n
		if s.Have(x*cell) != row[x] || s.Have(x*cell+cell-1) != row[x] {
			t.Fatal(x)
		}
		if !row[x] {
			continue
		}
		count += cell
		if last := len(want) - 1; last >= 0 && want[last].From+want[last].Len == x*cell {
			want[last].Len += cell
		} else {
			want = append(want, Range{x * cell, cell})
		}
	}
	if s.Base() != base*cell || s.Next() != next*cell || s.Len() != count || !slices.Equal(s.Ranges(), want) {
		t.Fatal(s.Base(), s.Next(), s.Len(), s.Ranges(), want)
	}
}

// TestAnyOrder has the same numbers come in many orders and parts.
func TestAnyOrder(t *testing.T) {
	r := rand.New(rand.NewSource(51))
	for range 100 {
		base := r.Uint32()
		one, two := New(base), New(base)
		var l []Range
		for range 20 {
			x := Range{base + uint32(r.Intn(300)) - 50, uint32(r.Intn(30))}
			one.Add(x)
			k := uint32(r.Intn(int(x.Len) + 1))
			l = append(l, x, Range{x.From, k}, Range{x.From + k, x.Len - k})
		}
		r.Shuffle(len(l), func(i, j int) { l[i], l[j] = l[j], l[i] })
		sum := 0
		for _, x := range l {
			sum += two.Add(x)
		}
		if !slices.Equal(one.Ranges(), two.Ranges()) || sum != one.Len() || one.Next() != two.Next() {
			t.Fatal(one.Ranges(), two.Ranges(), sum)
		}
	}
}
