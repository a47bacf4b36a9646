package board

import (
	"math"
	"math/rand"
	"slices"
	"testing"

	"linkboy/api"
	"linkboy/farm"
	"linkboy/flow"
	"linkboy/maglev"
	"linkboy/sip"
)

var key = api.Key{Lo: 0x0706050403020100, Hi: 0x0f0e0d0c0b0a0908}

const m = 13

// vip answers the Vip of an Id.
func vip(id int) api.Vip {
	return api.Vip{Id: id, Addr: 9, Port: uint16(id), Proto: 6, Mode: api.Direct}
}

// one answers a backend that fits.
func one(id, of, weight int) api.Backend {
	return api.Backend{Id: id, Vip: of, Addr: 7, Weight: weight, Life: api.Serving, Up: true}
}

// usual answers a farm of three Vips, of which two have some who fit.
func usual() api.Farm {
	return api.Farm{Vips: []api.Vip{vip(1), vip(2), vip(3)}, Backends: []api.Backend{one(5, 1, 1), one(6, 2, 3), one(7, 1, 2)}}
}

// P32.1

func TestNew(t *testing.T) {
	b := New(key, m)
	if b == nil || b.Version() != 0 || len(b.Table(1)) != 0 {
		t.Error(b)
	}
	if n, ok := b.Pick(1, api.Flow{}); n != 0 || ok {
		t.Error(n, ok)
	}
}

func TestRefresh(t *testing.T) {
	b := New(key, m)
	step := func(name string, change func(f *api.Farm), want bool) {
		t.Helper()
		before := b.Version()
		f := usual()
		change(&f)
		if got := b.Refresh(f); got != want {
			t.Error(name, got)
		}
		if got := b.Refresh(f); got {
			t.Error(name, "once more", got)
		}
		more := 0
		if want {
			more = 1
		}
		if b.Version() != before+more {
			t.Error(name, b.Version())
		}
		for _, v := range []int{0, 1, 2, 3, 4} {
			var want []int
			if slices.ContainsFunc(f.Vips, func(o api.Vip) bool { return o.Id == v }) {
				want = maglev.Fill(key, m, farm.Fit(f, v))
			}
			if got := b.Table(v); !slices.Equal(got, want) {
				t.Error(name, v, got, want)
			}
		}
	}
	step("nobody", func(f *api.Farm) { *f = api.Farm{} }, false)
	step("no backends", func(f *api.Farm) { f.Backends = nil }, false)
	step("none up", func(f *api.Farm) { f.Backends = f.Backends[:1]; f.Backends[0].Up = false }, false)
	step("some", func(f *api.Farm) {}, true)
	step("other addresses", func(f *api.Farm) { f.Backends[0].Addr = 99; f.Vips[0].Addr = 99; f.Vips[1].Mode = api.Proxy }, false)
	step("others who don't fit", func(f *api.Farm) {
		f.Backends = append(f.Backends, api.Backend{Id: 8, Vip: 3, Addr: 7, Weight: 1, Life: api.Serving})
	}, false)
	step("one more", func(f *api.Farm) { f.Backends = append(f.Backends, one(8, 3, 1)) }, true)
	step("one less", func(f *api.Farm) {}, true)
	step("another weight", func(f *api.Farm) { f.Backends[0].Weight = 8 }, true)
	step("another Id", func(f *api.Farm) { f.Backends[0].Id = 4; f.Backends[0].Weight = 8 }, true)
	step("one drains", func(f *api.Farm) { f.Backends[0].Life = api.Draining }, true)
	step("one down, who drains", func(f *api.Farm) { f.Backends[0].Life = api.Draining; f.Backends[0].Up = false }, false)
	step("all down", func(f *api.Farm) { f.Backends = nil }, true)
	step("some again", func(f *api.Farm) {}, true)
	step("of another Vip", func(f *api.Farm) { f.Backends[1].Vip = 3 }, true)
	step("a Vip gone", func(f *api.Farm) { f.Vips = f.Vips[:1]; f.Backends = []api.Backend{one(5, 1, 1), one(7, 1, 2)} }, true)
	step("a Vip without anybody", func(f *api.Farm) { f.Vips = f.Vips[:1]; f.Backends = nil }, true)
	step("some once more", func(f *api.Farm) {}, true)
	step("all gone", func(f *api.Farm) { *f = api.Farm{} }, true)
}

// TestRefreshOfNobody has a table that was filled by nobody: it is gone with its Vip, but of a new Vip there is none.
func TestRefreshOfNobody(t *testing.T) {
	b := New(key, m)
	none := usual()
	none.Backends = nil
	for i, x := range []struct {
		f    api.Farm
		want bool
	}{{usual(), true}, {none, true}, {none, false}, {api.Farm{}, true}, {none, false}, {api.Farm{}, false}, {usual(), true}} {
		if got := b.Refresh(x.f); got != x.want {
			t.Error(i, got)
		}
	}
	if b.Version() != 4 {
		t.Error(b.Version())
	}
}

func TestRefreshKeepsNothing(t *testing.T) {
	b := New(key, m)
	f := usual()
	b.Refresh(f)
	f.Backends[0].Weight, f.Vips[0].Id = 8, 9
	if b.Refresh(usual()) || !slices.Equal(b.Table(1), maglev.Fill(key, m, farm.Fit(usual(), 1))) {
		t.Error("the farm that was handed in is kept")
	}
	f = usual()
	b.Refresh(f)
	if !slices.Equal(f.Vips, usual().Vips) || !slices.Equal(f.Backends, usual().Backends) {
		t.Error("the farm is changed")
	}
}

// P32.2

func TestTable(t *testing.T) {
	b := New(key, m)
	b.Refresh(usual())
	l := b.Table(2)
	if len(l) != m || maglev.Count(l, 6) != m {
		t.Error(l)
	}
	l[0] = 99
	if b.Table(2)[0] != 6 {
		t.Error("the answer is shared")
	}
	for _, id := range []int{3, 0, -1, 4, math.MaxInt} {
		if l := b.Table(id); len(l) != 0 {
			t.Error(id, l)
		}
	}
}

func TestPick(t *testing.T) {
	b := New(key, m)
	b.Refresh(usual())
	r := rand.New(rand.NewSource(32))
	seen := map[int]int{}
	for range 300 {
		f := api.Flow{Src: r.Uint32(), Dst: r.Uint32(), SrcPort: uint16(r.Uint32()), DstPort: uint16(r.Uint32()), Proto: byte(r.Uint32())}
		want := b.Table(1)[sip.Sum(key, flow.Bytes(f))%m]
		if got, ok := b.Pick(1, f); got != want || !ok {
			t.Fatal(f, got, ok)
		}
		seen[want]++
		if got, ok := b.Pick(2, f); got != 6 || !ok {
			t.Fatal(f, got, ok)
		}
		if got, ok := b.Pick(3, f); got != 0 || ok {
			t.Fatal(f, got, ok)
		}
	}
	if seen[5] < 50 || seen[7] < 150 {
		t.Error(seen)
	}
}

// TestOtherPrimes has boards of no prime, too: they have no tables.
func TestOtherPrimes(t *testing.T) {
	for _, n := range []int{2, 3, 251, 0, 1, 4, -7, 257, math.MaxInt} {
		b := New(key, n)
		b.Refresh(usual())
		want := maglev.Fill(key, n, farm.Fit(usual(), 1))
		if !slices.Equal(b.Table(1), want) {
			t.Error(n, b.Table(1))
		}
		if _, ok := b.Pick(1, api.Flow{}); ok != (len(want) > 0) {
			t.Error(n, ok)
		}
	}
}

func TestOtherKeys(t *testing.T) {
	one, two := New(key, 251), New(api.Key{Lo: 1}, 251)
	one.Refresh(usual())
	two.Refresh(usual())
	if slices.Equal(one.Table(1), two.Table(1)) {
		t.Error("the key plays no part")
	}
}

func TestNil(t *testing.T) {
	var b *Board
	n, ok := b.Pick(1, api.Flow{})
	if b.Refresh(usual()) || b.Version() != 0 || len(b.Table(1)) != 0 || n != 0 || ok {
		t.Error("of nil there is something")
	}
}

// P32.3

func TestTablesAreThoseOfFill(t *testing.T) {
	r := rand.New(rand.NewSource(323))
	for range 30 {
		b, version := New(key, m), 0
		var last []api.Backend
		for range 60 {
			var f api.Farm
			for id := 1; id <= 4; id++ {
				f.Vips = append(f.Vips, vip(id))
			}
			for id := range 5 {
				if r.Intn(3) > 0 {
					f.Backends = append(f.Backends, api.Backend{Id: id + 1, Vip: 1 + id%4, Addr: 7, Weight: 1 + r.Intn(2), Life: 1 + r.Intn(8)/7, Up: r.Intn(4) > 0})
				}
			}
			var fit []api.Backend
			for id := 1; id <= 4; id++ {
				fit = append(fit, farm.Fit(f, id)...)
			}
			want := !slices.Equal(fit, last)
			last = fit
			if want {
				version++
			}
			if got := b.Refresh(f); got != want || b.Version() != version {
				t.Fatal(f, got, b.Version(), version)
			}
			for id := 1; id <= 4; id++ {
				if !slices.Equal(b.Table(id), maglev.Fill(key, m, farm.Fit(f, id))) {
					t.Fatal(f, id)
				}
			}
		}
	}
}
