package meter

import (
	"math"
	"math/rand"
	"testing"
)

// tells tells of a source time and again, and holds the answers against what is wanted.
func tells(t *testing.T, m *Meter, src uint32, now int, want ...bool) {
	t.Helper()
	for i, w := range want {
		if got := m.Allow(src, now); got != w {
			t.Error(src, now, i, got)
		}
	}
}

// left holds how many tokens a source has left against what is wanted.
func left(t *testing.T, m *Meter, src uint32, want int, known bool) {
	t.Helper()
	if got, ok := m.Left(src); got != want || ok != known {
		t.Error(src, got, ok)
	}
}

// P49.1

func TestNew(t *testing.T) {
	m := New(4, 1, 2)
	if m.Len() != 0 || m.Now() != 0 {
		t.Error(m.Len(), m.Now())
	}
	left(t, m, 0, 0, false)
}

func TestSizes(t *testing.T) {
	for _, x := range []struct{ size, want int }{{math.MinInt, 1}, {0, 1}, {1, 1}, {64, 64}, {65, 64}, {math.MaxInt, 64}} {
		m := New(x.size, 0, 1)
		for i := range uint32(100) {
			m.Allow(i, 0)
		}
		if m.Len() != x.want {
			t.Error(x.size, m.Len())
		}
	}
	for _, x := range []struct{ burst, want int }{{math.MinInt, 1}, {0, 1}, {1, 1}, {1000, 1000}, {1001, 1000}, {math.MaxInt, 1000}} {
		m := New(1, 0, x.burst)
		n := 0
		for m.Allow(5, 0) {
			n++
		}
		if n != x.want {
			t.Error(x.burst, n)
		}
	}
	for _, x := range []struct{ rate, want int }{{math.MinInt, 0}, {-1, 0}, {0, 0}, {1, 1}, {999, 999}, {1000, 1000}, {1001, 1000}, {math.MaxInt, 1000}} {
		m := New(1, x.rate, 1000)
		for m.Allow(5, 0) {
		}
		n := 0
		for m.Allow(5, 1) {
			n++
		}
		if n != x.want {
			t.Error(x.rate, n)
		}
	}
}

func TestAllow(t *testing.T) {
	m := New(4, 1, 2)
	tells(t, m, 7, 0, true, true, false)
	tells(t, m, 7, 1, true, false, false)
	tells(t, m, 7, 3, true, true, false)
	tells(t, m, 7, 100, true, true, false)
	tells(t, m, 8, 100, true, true, false)
	m = New(4, 3, 5)
	tells(t, m, 7, 0, true, true, true, true, true, false)
	tells(t, m, 7, 1, true, true, true, false)
	tells(t, m, 7, 2, true)
	tells(t, m, 7, 3, true, true, true, true, true, false)
	m = New(4, 0, 1)
	tells(t, m, 7, 0, true, false)
	tells(t, m, 7, 1<<30, false)
}

// TestAllowTime has ticks that go back, and such as are too great.
func TestAllowTime(t *testing.T) {
	m := New(4, 1, 2)
	tells(t, m, 7, -5, true, true, false)
	if m.Now() != 0 {
		t.Error(m.Now())
	}
	tells(t, m, 7, 10, true, true, false)
	tells(t, m, 7, 3, false)
	tells(t, m, 8, math.MinInt, true)
	if m.Now() != 10 {
		t.Error(m.Now())
	}
	tells(t, m, 7, 11, true, false)
	tells(t, m, 7, 1<<30, true, true, false)
	tells(t, m, 7, 1<<30+1, false)
	tells(t, m, 7, math.MaxInt, false)
	if m.Now() != 1<<30 {
		t.Error(m.Now())
	}
	// A token is one for a tick of the time, whoever told of it.
	m = New(4, 1, 5)
	tells(t, m, 7, 0, true, true, true, true, true, false)
	tells(t, m, 8, 3, true)
	tells(t, m, 7, 0, true, true, true, false)
}

func TestAllowForgets(t *testing.T) {
	m := New(3, 0, 2)
	tells(t, m, 30, 1, true)
	tells(t, m, 10, 2, true)
	tells(t, m, 20, 2, true)
	tells(t, m, 30, 3, true, false)
	// 10 and 20 were told of longest ago, 10 is less.
	tells(t, m, 40, 3, true)
	left(t, m, 10, 0, false)
	left(t, m, 20, 1, true)
	tells(t, m, 50, 3, true)
	left(t, m, 20, 0, false)
	// All alike: the least source goes, even though it may not.
	tells(t, m, 60, 3, true)
	left(t, m, 30, 0, false)
	// One that is known again has all its tokens.
	tells(t, m, 30, 3, true, true, false)
	left(t, m, 40, 0, false)
	left(t, m, 50, 1, true)
	left(t, m, 60, 1, true)
	if m.Len() != 3 {
		t.Error(m.Len())
	}
	// Who isn't allowed is told of all the same.
	m = New(2, 0, 1)
	tells(t, m, 1, 0, true)
	tells(t, m, 2, 1, true)
	tells(t, m, 1, 2, false)
	tells(t, m, 3, 2, true)
	left(t, m, 1, 0, true)
	left(t, m, 2, 0, false)
	m = New(1, 0, 1)
	tells(t, m, math.MaxUint32, 0, true, false)
	tells(t, m, 0, 0, true, false)
	tells(t, m, math.MaxUint32, 0, true, false)
}

// P49.2

func TestLeft(t *testing.T) {
	m := New(2, 2, 5)
	left(t, m, 7, 0, false)
	tells(t, m, 7, 0, true)
	left(t, m, 7, 4, true)
	tells(t, m, 7, 0, true, true, true, true, false)
	left(t, m, 7, 0, true)
	// What came since then isn't told.
	tells(t, m, 8, 2, true)
	left(t, m, 7, 0, true)
	tells(t, m, 7, 2, true)
	left(t, m, 7, 3, true)
	left(t, m, 8, 4, true)
	if m.Len() != 2 || m.Now() != 2 {
		t.Error(m.Len(), m.Now())
	}
}

func TestNil(t *testing.T) {
	var m *Meter
	if m.Allow(7, 5) || m.Len() != 0 || m.Now() != 0 {
		t.Error("of nil there is something")
	}
	left(t, m, 7, 0, false)
}

// P49.3

// TestBound tells of few sources many times: in no row of tells may one more often than the promise says.
func TestBound(t *testing.T) {
	r := rand.New(rand.NewSource(49))
	for range 30 {
		size, rate, burst := 1+r.Intn(5), r.Intn(4), 1+r.Intn(6)
		m := New(size, rate, burst)
		now := 0
		may := map[uint32][]int{}
		for range 300 {
			src := uint32(r.Intn(size))
			if m.Allow(src, now) {
				may[src] = append(may[src], now)
			}
			now += r.Intn(2)
		}
		for _, l := range may {
			for i := range l {
				for j := i; j < len(l); j++ {
					if j-i+1 > burst+rate*(l[j]-l[i]) {
						t.Fatal(size, rate, burst, l[i:j+1])
					}
				}
			}
		}
	}
}

// TestAgainstRows holds many tells against plain rows.
func TestAgainstRows(t *testing.T) {
	r := rand.New(rand.NewSource(50))
	for range 60 {
		size, rate, burst := 1+r.Intn(4), r.Intn(4), 1+r.Intn(6)
		m := New(size, rate, burst)
		tokens, when, now := map[uint32]int{}, map[uint32]int{}, 0
		for range 300 {
			src, at := uint32(r.Intn(7)), now-2+r.Intn(5)
			now = max(now, at)
			if _, known := tokens[src]; !known {
				if len(tokens) == size {
					out, first := uint32(0), true
					for k := range tokens {
						if first || when[k] < when[out] || when[k] == when[out] && k < out {
							out, first = k, false
						}
					}
					delete(tokens, out)
					delete(when, out)
				}
				tokens[src], when[src] = burst, now
			}
			for ; when[src] < now; when[src]++ {
				tokens[src] = min(tokens[src]+rate, burst)
			}
			want := tokens[src] > 0
			if want {
				tokens[src]--
			}
			if got := m.Allow(src, at); got != want || m.Len() != len(tokens) || m.Now() != now {
				t.Fatal(src, at, got)
			}
			for k := range uint32(7) {
				n, known := tokens[k]
				left(t, m, k, n, known)
			}
		}
	}
}
