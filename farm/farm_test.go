package farm

import (
	"math"
	"math/rand"
	"reflect"
	"slices"
	"testing"

	"linkboy/api"
)

// web, mail and names are Vips.
var (
	web   = api.Vip{Id: 10, Addr: 0x0a000064, Port: 80, Proto: 6, Mode: api.Proxy}
	mail  = api.Vip{Id: 20, Addr: 0x0a000064, Port: 25, Proto: 6, Mode: api.Direct}
	names = api.Vip{Id: 30, Addr: 0x0a000065, Port: 53, Proto: 17, Mode: api.Direct}
)

// usual answers a farm that may be.
func usual() api.Farm {
	return api.Farm{
		Vips: []api.Vip{web, mail, names},
		Backends: []api.Backend{
			{Id: 5, Vip: 10, Addr: 0x0a010005, Weight: 1, Life: api.Serving, Up: true},
			{Id: 6, Vip: 10, Addr: 0x0a010006, Weight: 8, Life: api.Draining, Up: true},
			{Id: 7, Vip: 30, Addr: 0x0a010005, Weight: 2, Life: api.Serving},
			{Id: 9, Vip: 10, Addr: 0x0a010006, Weight: 3, Life: api.Serving, Up: true},
		},
	}
}

// roomyFarm answers a farm whose lists have room behind them, in which others would be seen.
func roomyFarm(f api.Farm) api.Farm {
	f.Vips = append(slices.Clone(f.Vips), make([]api.Vip, 3)...)[:len(f.Vips)]
	f.Backends = append(slices.Clone(f.Backends), make([]api.Backend, 3)...)[:len(f.Backends)]
	return f
}

// same tells whether two farms are alike, whether lists are nil or empty.
func same(a, b api.Farm) bool {
	return slices.Equal(a.Vips, b.Vips) && slices.Equal(a.Backends, b.Backends)
}

// P31.1

func TestRight(t *testing.T) {
	for i, f := range []api.Farm{{}, usual(), {Vips: []api.Vip{}, Backends: []api.Backend{}}, {Vips: []api.Vip{web}}} {
		if !Right(f) {
			t.Error(i)
		}
	}
	if Right(api.Farm{Backends: usual().Backends}) {
		t.Error("backends without Vips")
	}
}

func TestRightVip(t *testing.T) {
	for _, x := range []struct {
		name   string
		change func(v *api.Vip)
		want   bool
	}{
		{"Id 0", func(v *api.Vip) { v.Id = 0 }, false},
		{"Id -1", func(v *api.Vip) { v.Id = math.MinInt }, false},
		{"Id 1", func(v *api.Vip) { v.Id = 1 }, true},
		{"Id 99", func(v *api.Vip) { v.Id = 99 }, true},
		{"Id 100", func(v *api.Vip) { v.Id = 100 }, false},
		{"Addr 0", func(v *api.Vip) { v.Addr = 0 }, false},
		{"Addr 127", func(v *api.Vip) { v.Addr = 127 << 24 }, false},
		{"Addr 224", func(v *api.Vip) { v.Addr = 224 << 24 }, false},
		{"Addr 223", func(v *api.Vip) { v.Addr = 224<<24 - 1 }, true},
		{"Port 0", func(v *api.Vip) { v.Port = 0 }, false},
		{"Port 1", func(v *api.Vip) { v.Port = 1 }, true},
		{"Port 65535", func(v *api.Vip) { v.Port = 65535 }, true},
		{"Proto 0", func(v *api.Vip) { v.Proto = 0 }, false},
		{"Proto 1", func(v *api.Vip) { v.Proto = 1 }, false},
		{"Proto 17, Proxy", func(v *api.Vip) { v.Proto = 17 }, false},
		{"Proto 17, Direct", func(v *api.Vip) { v.Proto, v.Mode = 17, api.Direct }, true},
		{"Mode 0", func(v *api.Vip) { v.Mode = 0 }, false},
		{"Mode 3", func(v *api.Vip) { v.Mode = 3 }, false},
		{"Mode -1", func(v *api.Vip) { v.Mode = -1 }, false},
		{"Direct", func(v *api.Vip) { v.Mode = api.Direct }, true},
	} {
		v := web
		x.change(&v)
		f := api.Farm{Vips: []api.Vip{v}}
		if Right(f) != x.want {
			t.Error(x.name)
		}
		got, e := AddVip(api.Farm{}, v)
		if x.want && (e != api.OK || !same(got, f)) || !x.want && (e != api.ErrArg || !same(got, api.Farm{})) {
			t.Error(x.name, got, e)
		}
	}
}

func TestRightVips(t *testing.T) {
	other := web
	other.Id = 11
	for i, l := range [][]api.Vip{{mail, web}, {web, web}, {web, other}, {web, mail, other}, {web, mail, {Id: 20, Addr: 9, Port: 9, Proto: 6, Mode: 1}}} {
		if Right(api.Farm{Vips: l}) {
			t.Error(i)
		}
	}
	for i, change := range []func(v *api.Vip){func(v *api.Vip) { v.Addr++ }, func(v *api.Vip) { v.Port++ }, func(v *api.Vip) { v.Proto, v.Mode = 17, api.Direct }} {
		next := other
		change(&next)
		if !Right(api.Farm{Vips: []api.Vip{web, next}}) {
			t.Error(i)
		}
	}
	if f := many(4, 16); !Right(f) {
		t.Error(f)
	}
	if Right(many(5, 0)) || Right(many(1, 17)) {
		t.Error("too many")
	}
}

// many answers a farm of so many Vips, so many backends, of Ids 2, 4 ..
func many(vips, backends int) api.Farm {
	var f api.Farm
	for i := range vips {
		f.Vips = append(f.Vips, api.Vip{Id: 2*i + 2, Addr: 9, Port: uint16(i + 1), Proto: 6, Mode: api.Direct})
	}
	for i := range backends {
		f.Backends = append(f.Backends, api.Backend{Id: 2*i + 2, Vip: 2, Addr: 7, Weight: 1, Life: api.Serving})
	}
	return f
}

func TestRightBackend(t *testing.T) {
	for _, x := range []struct {
		name   string
		change func(b *api.Backend)
		want   bool
		add    api.Errno
	}{
		{"as it is", func(b *api.Backend) {}, true, api.OK},
		{"Id 0", func(b *api.Backend) { b.Id = 0 }, false, api.ErrArg},
		{"Id below", func(b *api.Backend) { b.Id = -5 }, false, api.ErrArg},
		{"Id 1", func(b *api.Backend) { b.Id = 1 }, true, api.OK},
		{"Id 999", func(b *api.Backend) { b.Id = 999 }, true, api.OK},
		{"Id 1000", func(b *api.Backend) { b.Id = 1000 }, false, api.ErrArg},
		{"Vip 11", func(b *api.Backend) { b.Vip = 11 }, false, api.ErrNone},
		{"Vip 0", func(b *api.Backend) { b.Vip = 0 }, false, api.ErrNone},
		{"Addr 0", func(b *api.Backend) { b.Addr, b.Vip = 0, 11 }, false, api.ErrArg},
		{"Addr of all", func(b *api.Backend) { b.Addr = math.MaxUint32 }, false, api.ErrArg},
		{"Weight 0", func(b *api.Backend) { b.Weight, b.Vip = 0, 11 }, false, api.ErrArg},
		{"Weight below", func(b *api.Backend) { b.Weight = -1 }, false, api.ErrArg},
		{"Weight 8", func(b *api.Backend) { b.Weight = 8 }, true, api.OK},
		{"Weight 9", func(b *api.Backend) { b.Weight = 9 }, false, api.ErrArg},
		{"Life 0", func(b *api.Backend) { b.Life = 0 }, false, api.OK},
		{"Life 3", func(b *api.Backend) { b.Life = 3 }, false, api.OK},
		{"Draining", func(b *api.Backend) { b.Life = api.Draining }, true, api.OK},
		{"down", func(b *api.Backend) { b.Up = false }, true, api.OK},
	} {
		b := usual().Backends[0]
		x.change(&b)
		f := api.Farm{Vips: []api.Vip{web}, Backends: []api.Backend{b}}
		if Right(f) != x.want {
			t.Error(x.name)
		}
		empty := api.Farm{Vips: []api.Vip{web}}
		got, e := AddBackend(empty, b)
		if e != x.add || e != api.OK && !same(got, empty) {
			t.Error(x.name, got, e)
		}
		f.Backends[0].Life, f.Backends[0].Up = api.Serving, false
		if e == api.OK && !same(got, f) {
			t.Error(x.name, got)
		}
	}
	f := usual()
	f.Backends[1], f.Backends[2] = f.Backends[2], f.Backends[1]
	if Right(f) {
		t.Error("not rising")
	}
	f = usual()
	f.Backends[1].Id = 5
	if Right(f) {
		t.Error("two of one Id")
	}
}

// P31.2

func TestAddVip(t *testing.T) {
	for _, id := range []int{1, 9, 11, 25, 31, 99} {
		v := api.Vip{Id: id, Addr: 0x0a000064, Port: 81, Proto: 6, Mode: api.Proxy}
		f := roomyFarm(usual())
		got, e := AddVip(f, v)
		want := usual()
		want.Vips = append(want.Vips, v)
		slices.SortFunc(want.Vips, func(a, b api.Vip) int { return a.Id - b.Id })
		if e != api.OK || !same(got, want) || !Right(got) || !same(f, usual()) {
			t.Error(id, got, e)
		}
		if f.Vips[:4][3] != (api.Vip{}) {
			t.Error("the room behind is written")
		}
	}
}

func TestAddVipWrong(t *testing.T) {
	full := many(4, 0)
	for i, x := range []struct {
		f    api.Farm
		v    api.Vip
		want api.Errno
	}{
		{usual(), web, api.ErrThere},
		{usual(), api.Vip{Id: 10, Addr: 9, Port: 9, Proto: 6, Mode: 1}, api.ErrThere},
		{usual(), api.Vip{Id: 11, Addr: web.Addr, Port: web.Port, Proto: 6, Mode: 1}, api.ErrThere},
		{usual(), api.Vip{Id: 10, Addr: 9, Port: 0, Proto: 6, Mode: 1}, api.ErrArg},
		{full, api.Vip{Id: 1, Addr: 9, Port: 99, Proto: 6, Mode: 1}, api.ErrFull},
		{full, api.Vip{Id: 8, Addr: 9, Port: 99, Proto: 6, Mode: 1}, api.ErrThere},
		{full, api.Vip{Id: 9, Addr: 9, Port: 1, Proto: 6, Mode: 1}, api.ErrThere},
		{full, api.Vip{}, api.ErrArg},
	} {
		if got, e := AddVip(x.f, x.v); e != x.want || !same(got, x.f) {
			t.Error(i, got, e)
		}
	}
}

func TestAddBackend(t *testing.T) {
	for _, id := range []int{1, 8, 10, 999} {
		b := api.Backend{Id: id, Vip: 30, Addr: 0x0a010005, Weight: 4, Life: 77, Up: true}
		f := roomyFarm(usual())
		got, e := AddBackend(f, b)
		b.Life, b.Up = api.Serving, false
		want := usual()
		want.Backends = append(want.Backends, b)
		slices.SortFunc(want.Backends, func(a, b api.Backend) int { return a.Id - b.Id })
		if e != api.OK || !same(got, want) || !Right(got) || !same(f, usual()) || f.Backends[:5][4] != (api.Backend{}) {
			t.Error(id, got, e)
		}
	}
}

func TestAddBackendWrong(t *testing.T) {
	full := many(1, 16)
	for i, x := range []struct {
		f    api.Farm
		b    api.Backend
		want api.Errno
	}{
		{usual(), api.Backend{Id: 5, Vip: 10, Addr: 9, Weight: 1}, api.ErrThere},
		{usual(), api.Backend{Id: 5, Vip: 11, Addr: 9, Weight: 1}, api.ErrNone},
		{usual(), api.Backend{Id: 5, Vip: 11, Addr: 9}, api.ErrArg},
		{full, api.Backend{Id: 1, Vip: 2, Addr: 9, Weight: 1}, api.ErrFull},
		{full, api.Backend{Id: 2, Vip: 2, Addr: 9, Weight: 1}, api.ErrThere},
		{full, api.Backend{Id: 1, Vip: 3, Addr: 9, Weight: 1}, api.ErrNone},
		{full, api.Backend{Id: 1, Vip: 2, Addr: 0, Weight: 1}, api.ErrArg},
		{api.Farm{}, api.Backend{Id: 1, Vip: 1, Addr: 9, Weight: 1}, api.ErrNone},
	} {
		if got, e := AddBackend(x.f, x.b); e != x.want || !same(got, x.f) {
			t.Error(i, got, e)
		}
	}
}

// P31.3

func TestChanges(t *testing.T) {
	for i, x := range []struct {
		do     func(f api.Farm) (api.Farm, api.Errno)
		change func(f *api.Farm)
		want   api.Errno
	}{
		{func(f api.Farm) (api.Farm, api.Errno) { return Remove(f, 5) }, func(f *api.Farm) { f.Backends = f.Backends[1:] }, api.OK},
		{func(f api.Farm) (api.Farm, api.Errno) { return Remove(f, 9) }, func(f *api.Farm) { f.Backends = f.Backends[:3] }, api.OK},
		{func(f api.Farm) (api.Farm, api.Errno) { return Remove(f, 8) }, nil, api.ErrNone},
		{func(f api.Farm) (api.Farm, api.Errno) { return Remove(f, 0) }, nil, api.ErrNone},
		{func(f api.Farm) (api.Farm, api.Errno) { return Drain(f, 5) }, func(f *api.Farm) { f.Backends[0].Life = api.Draining }, api.OK},
		{func(f api.Farm) (api.Farm, api.Errno) { return Drain(f, 6) }, func(f *api.Farm) {}, api.OK},
		{func(f api.Farm) (api.Farm, api.Errno) { return Drain(f, 10) }, nil, api.ErrNone},
		{func(f api.Farm) (api.Farm, api.Errno) { return Weigh(f, 7, 8) }, func(f *api.Farm) { f.Backends[2].Weight = 8 }, api.OK},
		{func(f api.Farm) (api.Farm, api.Errno) { return Weigh(f, 7, 1) }, func(f *api.Farm) { f.Backends[2].Weight = 1 }, api.OK},
		{func(f api.Farm) (api.Farm, api.Errno) { return Weigh(f, 7, 9) }, nil, api.ErrArg},
		{func(f api.Farm) (api.Farm, api.Errno) { return Weigh(f, 7, 0) }, nil, api.ErrArg},
		{func(f api.Farm) (api.Farm, api.Errno) { return Weigh(f, 8, 0) }, nil, api.ErrArg},
		{func(f api.Farm) (api.Farm, api.Errno) { return Weigh(f, 8, math.MinInt) }, nil, api.ErrArg},
		{func(f api.Farm) (api.Farm, api.Errno) { return Weigh(f, 8, 1) }, nil, api.ErrNone},
		{func(f api.Farm) (api.Farm, api.Errno) { return Mode(f, 10, api.Direct) }, func(f *api.Farm) { f.Vips[0].Mode = api.Direct }, api.OK},
		{func(f api.Farm) (api.Farm, api.Errno) { return Mode(f, 20, api.Proxy) }, func(f *api.Farm) { f.Vips[1].Mode = api.Proxy }, api.OK},
		{func(f api.Farm) (api.Farm, api.Errno) { return Mode(f, 30, api.Direct) }, func(f *api.Farm) {}, api.OK},
		{func(f api.Farm) (api.Farm, api.Errno) { return Mode(f, 30, api.Proxy) }, nil, api.ErrArg},
		{func(f api.Farm) (api.Farm, api.Errno) { return Mode(f, 10, 0) }, nil, api.ErrArg},
		{func(f api.Farm) (api.Farm, api.Errno) { return Mode(f, 5, 3) }, nil, api.ErrArg},
		{func(f api.Farm) (api.Farm, api.Errno) { return Mode(f, 5, api.Proxy) }, nil, api.ErrNone},
		{func(f api.Farm) (api.Farm, api.Errno) { return Set(f, 7, true) }, func(f *api.Farm) { f.Backends[2].Up = true }, api.OK},
		{func(f api.Farm) (api.Farm, api.Errno) { return Set(f, 6, false) }, func(f *api.Farm) { f.Backends[1].Up = false }, api.OK},
		{func(f api.Farm) (api.Farm, api.Errno) { return Set(f, 6, true) }, func(f *api.Farm) {}, api.OK},
		{func(f api.Farm) (api.Farm, api.Errno) { return Set(f, 10, true) }, nil, api.ErrNone},
	} {
		f, want := usual(), usual()
		if x.change != nil {
			x.change(&want)
		}
		got, e := x.do(f)
		if e != x.want || !same(got, want) || !same(f, usual()) || !Right(got) {
			t.Error(i, got, e)
		}
		if e2 := apart(f, got); e2 {
			t.Error(i, "the answer is shared")
		}
	}
}

// apart tells whether what is written into one farm shows in another one.
func apart(a, b api.Farm) bool {
	b.Vips[0].Id = 77
	if len(b.Backends) > 0 {
		b.Backends[0].Id = 777
	}
	return a.Vips[0].Id == 77 || a.Backends[0].Id == 777
}

func TestAddIsApart(t *testing.T) {
	for _, v := range []api.Vip{web, {}, {Id: 99, Addr: 9, Port: 9, Proto: 6, Mode: 1}} {
		f := roomyFarm(usual())
		if got, _ := AddVip(f, v); apart(f, got) {
			t.Error(v, "the answer is shared")
		}
	}
	for _, b := range []api.Backend{{}, {Id: 5, Vip: 10, Addr: 9, Weight: 1}, {Id: 99, Vip: 9, Addr: 9, Weight: 1}, {Id: 99, Vip: 10, Addr: 9, Weight: 1}} {
		f := roomyFarm(usual())
		if got, _ := AddBackend(f, b); apart(f, got) {
			t.Error(b, "the answer is shared")
		}
	}
}

// P31.4

func TestVip(t *testing.T) {
	for _, v := range usual().Vips {
		if got, ok := Vip(usual(), v.Addr, v.Port, v.Proto); got != v || !ok {
			t.Error(got, ok)
		}
		for _, got := range []func() (api.Vip, bool){
			func() (api.Vip, bool) { return Vip(usual(), v.Addr+2, v.Port, v.Proto) },
			func() (api.Vip, bool) { return Vip(usual(), v.Addr, v.Port+1, v.Proto) },
			func() (api.Vip, bool) { return Vip(usual(), v.Addr, v.Port, 23-v.Proto) },
		} {
			if v, ok := got(); v != (api.Vip{}) || ok {
				t.Error(v, ok)
			}
		}
	}
	if v, ok := Vip(api.Farm{}, 0, 0, 0); v != (api.Vip{}) || ok {
		t.Error(v, ok)
	}
}

func TestServes(t *testing.T) {
	for a, want := range map[uint32]bool{0x0a000064: true, 0x0a000065: true, 0x0a000066: false, 0: false, 0x0a010005: false} {
		if Serves(usual(), a) != want {
			t.Error(a)
		}
	}
	if Serves(api.Farm{}, 0) {
		t.Error("nobody serves")
	}
}

func TestGet(t *testing.T) {
	for _, b := range usual().Backends {
		if got, ok := Get(usual(), b.Id); got != b || !ok {
			t.Error(got, ok)
		}
	}
	for _, id := range []int{0, 8, 10, -5, math.MaxInt} {
		if got, ok := Get(usual(), id); got != (api.Backend{}) || ok {
			t.Error(got, ok)
		}
	}
}

func TestFit(t *testing.T) {
	f := usual()
	if got := Fit(f, 10); !slices.Equal(got, []api.Backend{f.Backends[0], f.Backends[3]}) {
		t.Error(got)
	}
	for _, vip := range []int{20, 30, 0, -1, 40} {
		if got := Fit(f, vip); len(got) != 0 {
			t.Error(vip, got)
		}
	}
	got := Fit(f, 10)
	got[0].Id = 77
	if !reflect.DeepEqual(f, usual()) {
		t.Error("the answer is shared")
	}
}

// TestManyChanges holds what many calls come to against rows in a map.
func TestManyChanges(t *testing.T) {
	r := rand.New(rand.NewSource(31))
	for range 60 {
		f := api.Farm{}
		vips, backends := map[int]api.Vip{}, map[int]api.Backend{}
		for range 200 {
			id, vip := r.Intn(24), r.Intn(7)
			var e api.Errno
			switch r.Intn(8) {
			case 0:
				v := api.Vip{Id: vip, Addr: uint32(1 + r.Intn(2)), Port: uint16(1 + r.Intn(4)), Proto: 6, Mode: 1 + r.Intn(2)}
				if f, e = AddVip(f, v); e == api.OK {
					vips[vip] = v
				}
			case 1, 2:
				b := api.Backend{Id: id, Vip: vip, Addr: uint32(r.Intn(5)), Weight: r.Intn(10), Life: r.Intn(4), Up: r.Intn(2) == 0}
				if f, e = AddBackend(f, b); e == api.OK {
					b.Life, b.Up = api.Serving, false
					backends[id] = b
				}
			case 3:
				if f, e = Remove(f, id); e == api.OK {
					delete(backends, id)
				}
			case 4:
				if f, e = Drain(f, id); e == api.OK {
					b := backends[id]
					b.Life = api.Draining
					backends[id] = b
				}
			case 5:
				w := r.Intn(10)
				if f, e = Weigh(f, id, w); e == api.OK {
					b := backends[id]
					b.Weight = w
					backends[id] = b
				}
			case 6:
				m := r.Intn(4)
				if f, e = Mode(f, vip, m); e == api.OK {
					v := vips[vip]
					v.Mode = m
					vips[vip] = v
				}
			case 7:
				up := r.Intn(2) == 0
				if f, e = Set(f, id, up); e == api.OK {
					b := backends[id]
					b.Up = up
					backends[id] = b
				}
			}
			if !Right(f) || len(f.Vips) != len(vips) || len(f.Backends) != len(backends) {
				t.Fatal(f)
			}
			for _, b := range f.Backends {
				if b != backends[b.Id] {
					t.Fatal(f)
				}
			}
			for _, v := range f.Vips {
				if v != vips[v.Id] {
					t.Fatal(f)
				}
			}
		}
	}
}
