package track

import (
	"cmp"
	"math"
	"math/rand"
	"slices"
	"testing"

	"linkboy/api"
	"linkboy/flow"
)

var key = api.Key{Lo: 0x0706050403020100, Hi: 0x0f0e0d0c0b0a0908}

// of answers an entry of a flow that has this number.
func of(n int) api.Entry {
	return api.Entry{Flow: api.Flow{Src: uint32(n), Proto: 6}, Backend: n % 3, Phase: 2, Proxied: n%2 == 1, Port: uint16(n + 7), Shift: uint32(n * 5), First: 9}
}

// due answers an entry with its time.
func due(e api.Entry, at int) api.Entry {
	e.At = at
	return e
}

// adds tells whether an entry is kept.
func adds(t *testing.T, r *Track, e api.Entry, wait int, want api.Errno) {
	t.Helper()
	if got := r.Add(e, wait); got != want {
		t.Errorf("%v, %d: %d instead of %d", e, wait, got, want)
	}
}

// turns tells whether a turn tells these entries.
func turns(t *testing.T, r *Track, n int, want ...api.Entry) {
	t.Helper()
	if got := r.Turn(n); !slices.Equal(got, want) {
		t.Errorf("%d ticks, now %d: %v instead of %v", n, r.Now(), got, want)
	}
}

// has tells whether this is all that is kept.
func has(t *testing.T, r *Track, want ...api.Entry) {
	t.Helper()
	if got := r.All(); !slices.Equal(got, want) {
		t.Errorf("%v instead of %v", got, want)
	}
	if r.Len() != len(want) {
		t.Error(r.Len(), len(want))
	}
	for _, e := range want {
		if got, ok := r.Get(e.Flow); got != e || !ok {
			t.Error(got, ok, e)
		}
	}
}

// P23.1

func TestNew(t *testing.T) {
	for _, c := range []struct{ n, now, size, at int }{
		{math.MinInt, math.MinInt, 1, 0}, {-1, -1, 1, 0}, {0, 0, 1, 0}, {1, 1, 1, 1}, {256, 1 << 30, 256, 1 << 30}, {257, 1<<30 + 1, 256, 1 << 30}, {math.MaxInt, math.MaxInt, 256, 1 << 30},
	} {
		r := New(c.n, key, c.now)
		if r.Size() != c.size || r.Now() != c.at {
			t.Error(c, r.Size(), r.Now())
		}
		has(t, r)
		for i := range c.size {
			adds(t, r, of(i), 5, api.OK)
		}
		adds(t, r, of(300), 5, api.ErrFull)
		if r.Len() != c.size || len(r.Turn(4)) != 0 || len(r.Turn(1)) != c.size || r.Now() != c.at+5 {
			t.Error(c, r.Len(), r.Now())
		}
	}
}

func TestAdd(t *testing.T) {
	r := New(3, key, 10)
	for _, wait := range []int{0, -1, 4096, math.MinInt, math.MaxInt} {
		adds(t, r, of(1), wait, api.ErrArg)
	}
	has(t, r)
	adds(t, r, due(of(1), 77), 1, api.OK)
	adds(t, r, of(2), 4095, api.OK)
	has(t, r, due(of(1), 11), due(of(2), 4105))
	other := of(1)
	other.Backend = 9
	adds(t, r, other, 5, api.ErrThere)
	adds(t, r, other, 0, api.ErrArg)
	adds(t, r, of(3), 7, api.OK)
	adds(t, r, of(4), 5, api.ErrFull)
	adds(t, r, of(4), 4096, api.ErrArg)
	adds(t, r, other, 5, api.ErrThere)
	has(t, r, due(of(1), 11), due(of(2), 4105), due(of(3), 17))
}

func TestKeep(t *testing.T) {
	r := New(2, key, 0)
	if r.Keep(of(1), 5) {
		t.Error("kept anew, though it isn't there")
	}
	adds(t, r, of(1), 5, api.OK)
	adds(t, r, of(2), 6, api.OK)
	turns(t, r, 3)
	e := of(1)
	e.Backend, e.Phase, e.Joined, e.Shift, e.At = 50, 3, true, 6, 1
	for _, wait := range []int{0, -1, 4096, math.MinInt, math.MaxInt} {
		if r.Keep(e, wait) {
			t.Error(wait)
		}
	}
	has(t, r, due(of(1), 5), due(of(2), 6))
	if !r.Keep(e, 4095) || r.Keep(of(3), 1) {
		t.Error("keep")
	}
	has(t, r, due(e, 4098), due(of(2), 6))
	turns(t, r, 3, due(of(2), 6))
	if !r.Keep(of(1), 1) || r.Keep(of(2), 1) {
		t.Error("keep")
	}
	has(t, r, due(of(1), 7))
	turns(t, r, 1, due(of(1), 7))
	turns(t, r, 4095)
}

func TestGetAndDrop(t *testing.T) {
	r := New(2, key, 0)
	adds(t, r, of(1), 5, api.OK)
	adds(t, r, of(2), 5, api.OK)
	if e, ok := r.Get(of(3).Flow); e != (api.Entry{}) || ok {
		t.Error(e, ok)
	}
	if r.Drop(of(3).Flow) || !r.Drop(of(1).Flow) || r.Drop(of(1).Flow) {
		t.Error("drop")
	}
	if e, ok := r.Get(of(1).Flow); e != (api.Entry{}) || ok {
		t.Error(e, ok)
	}
	has(t, r, due(of(2), 5))
	adds(t, r, of(4), 2, api.OK)
	adds(t, r, of(5), 2, api.ErrFull)
	turns(t, r, 2, due(of(4), 2))
	turns(t, r, 4, due(of(2), 5))
}

// P23.2

func TestTurn(t *testing.T) {
	r := New(4, key, 0)
	adds(t, r, of(1), 5, api.OK)
	turns(t, r, 4)
	turns(t, r, 0)
	turns(t, r, -1)
	turns(t, r, math.MinInt)
	turns(t, r, 1, due(of(1), 5))
	has(t, r)
	if e, ok := r.Get(of(1).Flow); e != (api.Entry{}) || ok || r.Drop(of(1).Flow) || r.Now() != 5 {
		t.Error(e, ok, r.Now())
	}
	adds(t, r, of(1), 4095, api.OK)
	turns(t, r, math.MaxInt, due(of(1), 4100))
	if r.Now() != 4100 {
		t.Error(r.Now())
	}
}

// TestTurnInOrder has entries of alike times told by their flows, in whatever order they came.
func TestTurnInOrder(t *testing.T) {
	r := New(8, key, 0)
	for _, n := range []int{5, 1, 7, 3} {
		adds(t, r, of(n), 20, api.OK)
	}
	for _, n := range []int{6, 4, 8, 2} {
		adds(t, r, of(n), 10+n, api.OK)
	}
	turns(t, r, 17, due(of(2), 12), due(of(4), 14), due(of(6), 16))
	adds(t, r, of(0), 3, api.OK)
	adds(t, r, of(9), 3, api.OK)
	turns(t, r, 5, due(of(8), 18), due(of(0), 20), due(of(1), 20), due(of(3), 20), due(of(5), 20), due(of(7), 20), due(of(9), 20))
}

func TestOfAndAll(t *testing.T) {
	r := New(9, key, 0)
	for _, n := range []int{6, 4, 8, 0, 2, 3, 9, 1} {
		adds(t, r, of(n), 10, api.OK)
	}
	has(t, r, due(of(0), 10), due(of(1), 10), due(of(2), 10), due(of(3), 10), due(of(4), 10), due(of(6), 10), due(of(8), 10), due(of(9), 10))
	for b, want := range [][]api.Entry{{due(of(0), 10), due(of(6), 10)}, {due(of(4), 10)}, {due(of(2), 10), due(of(8), 10)}, nil} {
		if got := r.Of(b); !slices.Equal(got, want) {
			t.Error(b, got)
		}
	}
	if got := r.Of(-1); len(got) != 0 {
		t.Error(got)
	}
	all := r.All()
	all[0].Backend = 77
	r.Of(0)[0].Backend = 78
	if r.All()[0].Backend != 0 {
		t.Error("an answer is shared")
	}
}

func TestNil(t *testing.T) {
	var r *Track
	adds(t, r, of(1), 1, api.ErrNil)
	adds(t, r, of(1), 0, api.ErrNil)
	has(t, r)
	turns(t, r, 1)
	if e, ok := r.Get(api.Flow{}); e != (api.Entry{}) || ok || r.Keep(of(1), 1) || r.Drop(api.Flow{}) || len(r.Of(0)) != 0 || r.All() != nil || r.Size() != 0 || r.Now() != 0 {
		t.Error("of nil something is answered")
	}
}

// P23.3

func TestNothingIsKeptForever(t *testing.T) {
	r := New(256, key, 5)
	for i := range 256 {
		adds(t, r, of(i), 4095-i, api.OK)
	}
	r.Turn(4094)
	has(t, r, due(of(0), 4100))
	r.Turn(1)
	has(t, r)
}

// TestAgainstRow holds a track against a plain row, whatever is done.
func TestAgainstRow(t *testing.T) {
	r := rand.New(rand.NewSource(23))
	for range 60 {
		n, now := 1+r.Intn(10), r.Intn(5000)
		k := New(n, key, now)
		var row []api.Entry
		for range 500 {
			e := of(r.Intn(14))
			e.Backend = r.Intn(3)
			i := slices.IndexFunc(row, func(o api.Entry) bool { return o.Flow == e.Flow })
			wait := min(r.Intn(1<<(1+r.Intn(12)))+1, 4095)
			switch r.Intn(5) {
			case 0, 1:
				want := api.OK
				if i >= 0 {
					want = api.ErrThere
				} else if len(row) == n {
					want = api.ErrFull
				} else {
					row = append(row, due(e, now+wait))
				}
				adds(t, k, e, wait, want)
			case 2:
				if k.Keep(e, wait) != (i >= 0) {
					t.Fatal("keep", i)
				}
				if i >= 0 {
					row[i] = due(e, now+wait)
				}
			case 3:
				if k.Drop(e.Flow) != (i >= 0) {
					t.Fatal("drop", i)
				}
				if i >= 0 {
					row = slices.Delete(row, i, i+1)
				}
			case 4:
				now += wait - 1
				slices.SortFunc(row, func(a, b api.Entry) int {
					return cmp.Or(cmp.Compare(a.At, b.At), flow.Compare(a.Flow, b.Flow))
				})
				over := 0
				for over < len(row) && row[over].At <= now {
					over++
				}
				turns(t, k, wait-1, row[:over]...)
				row = slices.Clone(row[over:])
			}
			slices.SortFunc(row, func(a, b api.Entry) int { return flow.Compare(a.Flow, b.Flow) })
			has(t, k, row...)
			var alike []api.Entry
			for _, o := range row {
				if o.Backend == e.Backend && !o.Proxied {
					alike = append(alike, o)
				}
			}
			if !slices.Equal(k.Of(e.Backend), alike) || k.Now() != now || k.Size() != n {
				t.Fatal(k.Of(e.Backend), alike, k.Now(), now)
			}
		}
	}
}
