package lpm

import (
	"math"
	"math/rand"
	"slices"
	"testing"

	"linkboy/addr"
)

// a answers the address of a text.
func a(s string) uint32 {
	n, _ := addr.Parse(s)
	return n
}

// of answers a tree of some nets.
func of(l ...Net) *Tree {
	t := New()
	for _, n := range l {
		t.Put(n)
	}
	return t
}

// P44.1

func TestNew(t *testing.T) {
	x := New()
	if n, ok := x.Find(0); ok || n != (Net{}) || x.Len() != 0 || len(x.All()) != 0 || len(x.Within(0, 0)) != 0 || x.Drop(0, 0) {
		t.Error("there is a net")
	}
}

func TestPut(t *testing.T) {
	x := New()
	for i, s := range []struct {
		net  Net
		want bool
		len  int
	}{
		{Net{a("10.1.2.3"), 8, 5}, true, 1},
		{Net{a("10.0.0.0"), 8, 6}, false, 1},
		{Net{a("10.255.255.255"), 8, -7}, false, 1},
		{Net{a("10.0.0.0"), 9, 1}, true, 2},
		{Net{a("10.0.0.0"), 32, 2}, true, 3},
		{Net{a("10.0.0.1"), 32, 2}, true, 4},
		{Net{a("77.0.0.1"), 0, 2}, true, 5},
		{Net{0, 0, 3}, false, 5},
		{Net{0, -1, 3}, false, 5},
		{Net{0, 33, 3}, false, 5},
		{Net{0, math.MaxInt, 3}, false, 5},
		{Net{0, math.MinInt, 3}, false, 5},
	} {
		if got := x.Put(s.net); got != s.want || x.Len() != s.len {
			t.Error(i, got, x.Len())
		}
	}
	want := []Net{{0, 0, 3}, {a("10.0.0.0"), 8, -7}, {a("10.0.0.0"), 9, 1}, {a("10.0.0.0"), 32, 2}, {a("10.0.0.1"), 32, 2}}
	if got := x.All(); !slices.Equal(got, want) {
		t.Error(got)
	}
}

func TestDrop(t *testing.T) {
	x := of(Net{a("10.0.0.0"), 8, 1}, Net{a("10.0.0.0"), 16, 2}, Net{0, 0, 3})
	for i, s := range []struct {
		a    uint32
		bits int
		want bool
		len  int
	}{
		{a("10.1.0.0"), 16, false, 3}, {a("11.0.0.0"), 8, false, 3}, {0, -1, false, 3}, {a("10.0.0.0"), 33, false, 3}, {a("10.0.0.0"), 32, false, 3}, {0, math.MinInt, false, 3},
		{a("10.77.0.0"), 8, true, 2}, {a("10.0.0.0"), 8, false, 2}, {a("10.0.255.1"), 16, true, 1}, {math.MaxUint32, 0, true, 0}, {0, 0, false, 0},
	} {
		if got := x.Drop(s.a, s.bits); got != s.want || x.Len() != s.len {
			t.Error(i, got, x.Len())
		}
	}
	if !x.Put(Net{a("10.0.0.0"), 8, 1}) {
		t.Error("one that was dropped is there")
	}
}

// P44.2

func TestFind(t *testing.T) {
	x := of(Net{a("10.0.0.0"), 8, 1}, Net{a("10.1.0.0"), 16, 2}, Net{a("10.1.2.3"), 32, 3}, Net{a("128.0.0.0"), 1, 4})
	for s, want := range map[string]int{"10.1.2.3": 3, "10.1.2.4": 2, "10.1.0.0": 2, "10.2.0.0": 1, "10.0.0.0": 1, "128.0.0.0": 4, "255.255.255.255": 4, "11.0.0.0": 0, "9.255.255.255": 0, "0.0.0.0": 0} {
		if got, ok := x.Find(a(s)); got.Num != want || ok != (want > 0) || ok && !addr.In(a(s), got.Addr, got.Bits) {
			t.Error(s, got, ok)
		}
	}
	if got, ok := x.Find(a("10.1.2.3")); got != (Net{a("10.1.2.3"), 32, 3}) || !ok {
		t.Error(got)
	}
	if got, ok := x.Find(a("77.0.0.1")); got != (Net{}) || ok {
		t.Error(got)
	}
	x.Put(Net{5, 0, 9})
	if got, ok := x.Find(a("77.0.0.1")); got != (Net{0, 0, 9}) || !ok {
		t.Error(got)
	}
}

func TestAllIsApart(t *testing.T) {
	x := of(Net{a("10.0.0.0"), 8, 1}, Net{a("10.1.0.0"), 16, 2})
	for _, l := range [][]Net{x.All(), x.Within(0, 0), x.Within(a("10.0.0.0"), 8)} {
		_ = append(l[:1], Net{1, 1, 1})
		l[0].Num = 9
		if got := x.All(); got[0].Num != 1 || got[1].Num != 2 {
			t.Error(got)
		}
	}
	l := x.All()
	x.Put(Net{0, 0, 5})
	x.Drop(a("10.1.0.0"), 16)
	x.Put(Net{a("10.0.0.0"), 8, 7})
	if !slices.Equal(l, []Net{{a("10.0.0.0"), 8, 1}, {a("10.1.0.0"), 16, 2}}) {
		t.Error("what was answered is changed", l)
	}
}

func TestWithin(t *testing.T) {
	one, two, three, four, five := Net{a("10.0.0.0"), 8, 1}, Net{a("10.0.0.0"), 16, 2}, Net{a("10.1.2.3"), 32, 3}, Net{a("11.0.0.0"), 16, 4}, Net{a("0.0.0.0"), 5, 5}
	x := of(one, two, three, four, five)
	for i, s := range []struct {
		a    uint32
		bits int
		want []Net
	}{
		{a("10.0.0.0"), 8, []Net{one, two, three}}, {a("10.200.0.1"), 8, []Net{one, two, three}}, {a("10.0.0.0"), 9, []Net{two, three}}, {a("10.0.0.0"), 16, []Net{two}}, {a("10.0.0.0"), 17, nil},
		{a("10.1.2.3"), 32, []Net{three}}, {a("10.1.2.2"), 31, []Net{three}}, {a("10.1.2.2"), 32, nil}, {a("10.0.0.0"), 7, []Net{one, two, three, four}},
		{77, 0, []Net{five, one, two, three, four}}, {a("10.0.0.0"), 4, []Net{five, one, two, three, four}}, {a("10.0.0.0"), 6, []Net{one, two, three, four}},
		{0, -1, nil}, {0, 33, nil}, {a("12.0.0.0"), 8, nil}, {math.MaxUint32, 1, nil},
	} {
		if got := x.Within(s.a, s.bits); !slices.Equal(got, s.want) {
			t.Error(i, got)
		}
	}
}

func TestNil(t *testing.T) {
	var x *Tree
	n, ok := x.Find(5)
	if x.Put(Net{0, 8, 1}) || x.Drop(0, 8) || ok || n != (Net{}) || len(x.All()) != 0 || len(x.Within(0, 0)) != 0 || x.Len() != 0 {
		t.Error("of nil there is something")
	}
}

// P44.3

// TestAgainstRows holds many calls against a plain row of nets.
func TestAgainstRows(t *testing.T) {
	r := rand.New(rand.NewSource(44))
	for range 40 {
		x, row := New(), map[Net]int{}
		some := func() (uint32, int) {
			return r.Uint32() & 0xc0f00013, r.Intn(33)
		}
		for range 300 {
			at, bits := some()
			key := Net{Addr: at & addr.Mask(bits), Bits: bits}
			_, there := row[key]
			switch r.Intn(4) {
			case 0, 1:
				n := r.Int()
				if x.Put(Net{at, bits, n}) == there {
					t.Fatal(at, bits)
				}
				row[key] = n
			case 2:
				if x.Drop(at, bits) != there {
					t.Fatal(at, bits)
				}
				delete(row, key)
			}
			hold(t, x, row, at, bits)
		}
	}
}

// hold holds a tree against a plain row.
func hold(t *testing.T, x *Tree, row map[Net]int, at uint32, bits int) {
	t.Helper()
	var all, within []Net
	var best Net
	found := false
	for k, n := range row {
		k.Num = n
		all = append(all, k)
		if k.Bits >= bits && addr.In(k.Addr, at, bits) {
			within = append(within, k)
		}
		if addr.In(at, k.Addr, k.Bits) && (!found || k.Bits > best.Bits) {
			best, found = k, true
		}
	}
	slices.SortFunc(all, compare)
	slices.SortFunc(within, compare)
	got, ok := x.Find(at)
	if !slices.Equal(x.All(), all) || !slices.Equal(x.Within(at, bits), within) || got != best || ok != found || x.Len() != len(row) {
		t.Fatal(x.All(), all)
	}
}

// TestAnyOrder has the same nets come in many orders.
func TestAnyOrder(t *testing.T) {
	r := rand.New(rand.NewSource(45))
	var l []Net
	for i := range 60 {
		l = append(l, Net{uint32(i) << 26, i % 33, i})
	}
	want := of(l...).All()
	seen := of(want...)
	for range 20 {
		r.Shuffle(len(want), func(i, j int) { want[i], want[j] = want[j], want[i] })
		if got := of(want...).All(); !slices.Equal(got, seen.All()) {
			t.Fatal(got)
		}
	}
}
