package slots

import (
	"math"
	"math/rand"
	"slices"
	"testing"

	"linkboy/api"
	"linkboy/flow"
	"linkboy/sip"
)

var key = api.Key{Lo: 0x0706050403020100, Hi: 0x0f0e0d0c0b0a0908}

// homed answers some flows whose home among n slots is this.
func homed(n, home, many int) []api.Flow {
	var l []api.Flow
	for p := 0; len(l) < many; p++ {
		f := api.Flow{Src: 1, Dst: 2, SrcPort: uint16(p), DstPort: 80, Proto: 6}
		if int(sip.Sum(key, flow.Bytes(f))%uint64(n)) == home {
			l = append(l, f)
		}
	}
	return l
}

// puts tells whether flows are taken, their numbers those of their places.
func puts(t *testing.T, s *Slots, l ...api.Flow) {
	t.Helper()
	for i, f := range l {
		if e := s.Put(f, i); e != api.OK {
			t.Errorf("%v: %d", f, e)
		}
	}
}

// looks tells whether so many slots are looked at.
func looks(t *testing.T, s *Slots, f api.Flow, want int) {
	t.Helper()
	if n := s.Look(f); n != want {
		t.Errorf("%v: %d instead of %d", f, n, want)
	}
}

// has tells whether a flow has a number.
func has(t *testing.T, s *Slots, f api.Flow, want int, there bool) {
	t.Helper()
	if v, ok := s.Get(f); v != want || ok != there {
		t.Errorf("%v: %d, %v", f, v, ok)
	}
}

// P22.1

func TestNew(t *testing.T) {
	for _, c := range []struct{ n, want int }{
		{math.MinInt, 1}, {-1, 1}, {0, 1}, {1, 1}, {2, 2}, {255, 255}, {256, 256}, {257, 256}, {math.MaxInt, 256},
	} {
		s := New(c.n, key)
		if s.Size() != c.want || s.Len() != 0 || len(s.All()) != 0 {
			t.Error(c, s.Size(), s.Len(), s.All())
		}
		for i := range c.want {
			f := api.Flow{Src: uint32(i)}
			if e := s.Put(f, i); e != api.OK || s.Len() != i+1 {
				t.Error(c, i, e, s.Len())
			}
		}
		if e := s.Put(api.Flow{Dst: 1}, 1); e != api.ErrFull || s.Len() != c.want || s.Size() != c.want {
			t.Error(c, e, s.Len(), s.Size())
		}
	}
}

func TestPut(t *testing.T) {
	s := New(2, key)
	f, g, h := api.Flow{}, api.Flow{Proto: 6}, api.Flow{Proto: 17}
	if e := s.Put(f, 5); e != api.OK {
		t.Error(e)
	}
	if e := s.Put(f, 6); e != api.ErrThere {
		t.Error(e)
	}
	has(t, s, f, 5, true)
	has(t, s, g, 0, false)
	if e := s.Put(g, math.MinInt); e != api.OK {
		t.Error(e)
	}
	if e := s.Put(h, 7); e != api.ErrFull {
		t.Error(e)
	}
	if e := s.Put(g, 8); e != api.ErrThere {
		t.Error(e)
	}
	has(t, s, g, math.MinInt, true)
	has(t, s, h, 0, false)
	if s.Len() != 2 {
		t.Error(s.Len())
	}
}

// TestWholeFlows has flows that are unlike in one part alone.
func TestWholeFlows(t *testing.T) {
	s := New(16, key)
	l := []api.Flow{{}, {Src: 1}, {Dst: 1}, {SrcPort: 1}, {DstPort: 1}, {Proto: 1}, {Src: 1, Dst: 1, SrcPort: 1, DstPort: 1, Proto: 1}}
	puts(t, s, l...)
	for i, f := range l {
		has(t, s, f, i, true)
	}
	has(t, s, api.Flow{Src: 1, Dst: 1, SrcPort: 1, DstPort: 1}, 0, false)
}

func TestDrop(t *testing.T) {
	s := New(1, key)
	f, g := api.Flow{Src: 1}, api.Flow{Src: 2}
	if s.Drop(f) {
		t.Error("dropped before it was put")
	}
	puts(t, s, f)
	if s.Drop(g) || !s.Drop(f) || s.Drop(f) || s.Len() != 0 {
		t.Error("drop", s.Len())
	}
	has(t, s, f, 0, false)
	if e := s.Put(g, 3); e != api.OK {
		t.Error(e)
	}
	has(t, s, g, 3, true)
}

// P22.2

func TestLook(t *testing.T) {
	s := New(4, key)
	l := homed(4, 3, 4)
	for _, f := range l {
		looks(t, s, f, 1)
	}
	puts(t, s, l[:2]...)
	looks(t, s, l[0], 1)
	looks(t, s, l[1], 2)
	looks(t, s, l[2], 3)
	looks(t, s, homed(4, 0, 1)[0], 2)
	looks(t, s, homed(4, 1, 1)[0], 1)
	looks(t, s, homed(4, 2, 1)[0], 1)
	puts(t, s, l[2:]...)
	for i, f := range l {
		looks(t, s, f, i+1)
	}
	for home := range 4 {
		looks(t, s, homed(4, home, 5)[4], 4)
	}
	looks(t, New(1, key), l[0], 1)
}

// TestLookHangsOnTheKey has the home be that of the key that was handed in.
func TestLookHangsOnTheKey(t *testing.T) {
	for _, k := range []api.Key{{}, {Lo: 1}, {Hi: 1}, key} {
		s := New(64, k)
		var l []api.Flow
		for i := range 64 {
			l = append(l, api.Flow{Src: uint32(i), Proto: 17})
		}
		puts(t, s, l...)
		row := make([]bool, 64)
		for _, f := range l {
			at := int(sip.Sum(k, flow.Bytes(f)) % 64)
			n := 1
			for row[at] {
				at = (at + 1) % 64
				n++
			}
			row[at] = true
			looks(t, s, f, n)
		}
	}
}

func TestDropMovesUp(t *testing.T) {
	s := New(8, key)
	a, b, c := homed(8, 6, 3), homed(8, 7, 1), homed(8, 2, 2)
	puts(t, s, a[0], a[1], b[0], a[2], c[0], c[1])
	for i, f := range []api.Flow{a[0], a[1], b[0], a[2], c[0], c[1]} {
		looks(t, s, f, []int{1, 2, 2, 4, 1, 2}[i])
	}
	s.Drop(a[0])
	for i, f := range []api.Flow{a[1], b[0], a[2], c[0], c[1]} {
		looks(t, s, f, []int{1, 1, 3, 1, 2}[i])
		has(t, s, f, i+1, true)
	}
	looks(t, s, a[0], 4)
	s.Drop(b[0])
	looks(t, s, a[2], 2)
	looks(t, s, a[0], 3)
	s.Drop(c[1])
	looks(t, s, c[0], 1)
	looks(t, s, c[1], 2)
	s.Drop(c[0])
	looks(t, s, c[0], 1)
}

// TestDropKeepsThoseAtHome has one that stands at its home stay, and one behind it be moved past it.
func TestDropKeepsThoseAtHome(t *testing.T) {
	s := New(8, key)
	a, b := homed(8, 0, 3), homed(8, 1, 1)
	puts(t, s, a[0])
	puts(t, s, b[0])
	puts(t, s, a[1], a[2])
	looks(t, s, a[1], 3)
	looks(t, s, a[2], 4)
	s.Drop(a[0])
	looks(t, s, b[0], 1)
	looks(t, s, a[1], 1)
	looks(t, s, a[2], 3)
}

// TestDropOfAFullRow has those behind the one that goes gone through round and round, though no slot was empty.
func TestDropOfAFullRow(t *testing.T) {
	s := New(4, key)
	zero, one, two := homed(4, 0, 1), homed(4, 1, 1), homed(4, 2, 3)
	puts(t, s, zero[0], two[0], two[1], two[2])
	for i, f := range []api.Flow{zero[0], two[0], two[1], two[2]} {
		looks(t, s, f, []int{1, 1, 2, 4}[i])
	}
	s.Drop(zero[0])
	for i, f := range two {
		looks(t, s, f, i+1)
	}
	looks(t, s, one[0], 1)
	s.Put(one[0], 9)
	s.Drop(two[0])
	looks(t, s, two[1], 1)
	looks(t, s, two[2], 2)
	looks(t, s, zero[0], 1)
	looks(t, s, one[0], 1)
	has(t, s, one[0], 9, true)
}

func TestAll(t *testing.T) {
	s := New(9, key)
	l := []api.Flow{{}, {Proto: 9}, {DstPort: 1}, {SrcPort: 1}, {Dst: 1}, {Dst: 256}, {Src: 1}, {Src: 0xffffffff}}
	for i := range l {
		s.Put(l[(i*5+3)%8], (i*5+3)%8-2)
	}
	all := s.All()
	if len(all) != 8 {
		t.Fatal(all)
	}
	for i, e := range all {
		if e != (api.Entry{Flow: l[i], At: i - 2}) {
			t.Error(i, e)
		}
	}
	all[0] = api.Entry{}
	if s.All()[0].At != -2 {
		t.Error("an answer is shared")
	}
}

// P22.3

func TestNil(t *testing.T) {
	var s *Slots
	if e := s.Put(api.Flow{}, 1); e != api.ErrNil {
		t.Error(e)
	}
	has(t, s, api.Flow{}, 0, false)
	looks(t, s, api.Flow{}, 0)
	if s.Drop(api.Flow{}) || s.Len() != 0 || s.Size() != 0 || s.All() != nil {
		t.Error("of nil something is answered")
	}
}

// row is slots as plain rows: which flows stand in which.
type row []*api.Flow

// put lays a flow in the first empty slot from its home on.
func (r row) put(f api.Flow) {
	at := int(sip.Sum(key, flow.Bytes(f)) % uint64(len(r)))
	for r[at] != nil {
		at = (at + 1) % len(r)
	}
	r[at] = &f
}

// look goes from a flow's home on.
func (r row) look(f api.Flow) int {
	at := int(sip.Sum(key, flow.Bytes(f)) % uint64(len(r)))
	for n := 1; n <= len(r); n++ {
		if r[at] == nil || *r[at] == f {
			return n
		}
		at = (at + 1) % len(r)
	}
	return len(r)
}

// drop takes a flow away, and takes and puts anew each behind it, till one comes to an empty slot.
func (r row) drop(f api.Flow) {
	at := slices.IndexFunc(r, func(x *api.Flow) bool { return x != nil && *x == f })
	for r[at] = nil; ; {
		at = (at + 1) % len(r)
		if r[at] == nil {
			return
		}
		g := *r[at]
		r[at] = nil
		r.put(g)
	}
}

func TestAgainstMap(t *testing.T) {
	r := rand.New(rand.NewSource(22))
	for range 300 {
		n := 1 + r.Intn(12)
		s, m, plain := New(n, key), map[api.Flow]int{}, make(row, n)
		for range 200 {
			f := api.Flow{Src: uint32(r.Intn(20))}
			v, there := m[f]
			if r.Intn(5) < 3 {
				want := api.OK
				if there {
					want = api.ErrThere
				} else if len(m) == n {
					want = api.ErrFull
				}
				x := r.Intn(100) - 50
				if e := s.Put(f, x); e != want {
					t.Fatal(e, want)
				}
				if want == api.OK {
					m[f] = x
					plain.put(f)
				}
			} else {
				if s.Drop(f) != there {
					t.Fatal("drop", there)
				}
				if there {
					delete(m, f)
					plain.drop(f)
				}
			}
			for i := range 20 {
				f = api.Flow{Src: uint32(i)}
				v, there = m[f]
				has(t, s, f, v, there)
				looks(t, s, f, plain.look(f))
				if s.Look(f) > n {
					t.Fatal("looked too far")
				}
			}
			if s.Len() != len(m) || s.Size() != n || len(s.All()) != len(m) {
				t.Fatal(s.Len(), s.Size(), len(m))
			}
			for _, e := range s.All() {
				if x, ok := m[e.Flow]; !ok || x != e.At {
					t.Fatal(e, x, ok)
				}
			}
			if !slices.IsSortedFunc(s.All(), func(a, b api.Entry) int { return flow.Compare(a.Flow, b.Flow) }) {
				t.Fatal(s.All())
			}
		}
	}
}
