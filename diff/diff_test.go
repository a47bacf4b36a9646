package diff

import (
	"math"
	"math/rand"
	"reflect"
	"slices"
	"testing"

	"linkboy/api"
	"linkboy/command"
	"linkboy/farm"
)

// usual answers a farm.
func usual() api.Farm {
	return api.Farm{
		Vips: []api.Vip{{Id: 3, Addr: 9, Port: 80, Proto: 6, Mode: 1}, {Id: 5, Addr: 9, Port: 53, Proto: 17, Mode: 1}},
		Backends: []api.Backend{
			{Id: 11, Vip: 3, Addr: 101, Weight: 1, Life: api.Serving, Up: true},
			{Id: 12, Vip: 3, Addr: 102, Weight: 2, Life: api.Draining, Up: true},
			{Id: 13, Vip: 5, Addr: 103, Weight: 3, Life: api.Serving},
		},
	}
}

// with answers that farm, changed.
func with(change func(f *api.Farm)) api.Farm {
	f := usual()
	change(&f)
	return f
}

// P48.1

func TestBetween(t *testing.T) {
	for _, x := range []struct {
		name string
		b    api.Farm
		want []api.Order
	}{
		{"the same", usual(), nil},
		{"others up", with(func(f *api.Farm) { f.Backends[0].Up, f.Backends[2].Up = false, true }), nil},
		{"a backend less", with(func(f *api.Farm) { f.Backends = f.Backends[1:] }), []api.Order{{Op: api.OrderRemove, Id: 11}}},
		{"no backends", with(func(f *api.Farm) { f.Backends = nil }), []api.Order{{Op: api.OrderRemove, Id: 11}, {Op: api.OrderRemove, Id: 12}, {Op: api.OrderRemove, Id: 13}}},
		{"a mode", with(func(f *api.Farm) { f.Vips[0].Mode = 2 }), []api.Order{{Op: api.OrderMode, Id: 3, Num: 2}}},
		{"a Vip more", with(func(f *api.Farm) {
			f.Vips = slices.Insert(f.Vips, 0, api.Vip{Id: 1, Addr: 8, Port: 1, Proto: 6, Mode: 2})
		}), []api.Order{{Op: api.OrderVip, Id: 1, Addr: 8, Port: 1, Proto: 6, Num: 2}}},
		{"a backend more", with(func(f *api.Farm) {
			f.Backends = append(f.Backends, api.Backend{Id: 14, Vip: 5, Addr: 104, Weight: 8, Life: api.Serving, Up: true})
		}), []api.Order{{Op: api.OrderAdd, Id: 14, Vip: 5, Addr: 104, Num: 8}}},
		{"a backend more, draining", with(func(f *api.Farm) {
			f.Backends = append(f.Backends, api.Backend{Id: 14, Vip: 5, Addr: 104, Weight: 8, Life: api.Draining})
		}), []api.Order{{Op: api.OrderAdd, Id: 14, Vip: 5, Addr: 104, Num: 8}, {Op: api.OrderDrain, Id: 14}}},
		{"another Vip", with(func(f *api.Farm) { f.Backends[0].Vip = 5 }), []api.Order{{Op: api.OrderRemove, Id: 11}, {Op: api.OrderAdd, Id: 11, Vip: 5, Addr: 101, Num: 1}}},
		{"another address", with(func(f *api.Farm) { f.Backends[1].Addr = 7 }), []api.Order{{Op: api.OrderRemove, Id: 12}, {Op: api.OrderAdd, Id: 12, Vip: 3, Addr: 7, Num: 2}, {Op: api.OrderDrain, Id: 12}}},
		{"no more draining", with(func(f *api.Farm) { f.Backends[1].Life = api.Serving }), []api.Order{{Op: api.OrderRemove, Id: 12}, {Op: api.OrderAdd, Id: 12, Vip: 3, Addr: 102, Num: 2}}},
		{"draining", with(func(f *api.Farm) { f.Backends[0].Life = api.Draining }), []api.Order{{Op: api.OrderDrain, Id: 11}}},
		{"a weight", with(func(f *api.Farm) { f.Backends[1].Weight = 5 }), []api.Order{{Op: api.OrderWeight, Id: 12, Num: 5}}},
		{"a weight, and draining", with(func(f *api.Farm) { f.Backends[2].Weight, f.Backends[2].Life = 4, api.Draining }), []api.Order{{Op: api.OrderWeight, Id: 13, Num: 4}, {Op: api.OrderDrain, Id: 13}}},
		{"all at once", with(func(f *api.Farm) {
			f.Vips[0].Mode = 2
			f.Vips = append(f.Vips, api.Vip{Id: 9, Addr: 8, Port: 1, Proto: 6, Mode: 1})
			f.Backends[0].Weight = 7
			f.Backends[1].Life = api.Serving
			f.Backends[2] = api.Backend{Id: 10, Vip: 9, Addr: 44, Weight: 4, Life: api.Draining}
			f.Backends = []api.Backend{f.Backends[2], f.Backends[0], f.Backends[1]}
		}), []api.Order{
			{Op: api.OrderMode, Id: 3, Num: 2}, {Op: api.OrderRemove, Id: 12}, {Op: api.OrderRemove, Id: 13}, {Op: api.OrderVip, Id: 9, Addr: 8, Port: 1, Proto: 6, Num: 1},
			{Op: api.OrderAdd, Id: 10, Vip: 9, Addr: 44, Num: 4}, {Op: api.OrderDrain, Id: 10}, {Op: api.OrderWeight, Id: 11, Num: 7}, {Op: api.OrderAdd, Id: 12, Vip: 3, Addr: 102, Num: 2},
		}},
	} {
		for _, last := range []uint64{0, 41, 1<<62 - 1} {
			want := slices.Clone(x.want)
			for i := range want {
				want[i].Count = last + uint64(i) + 1
			}
			a, b := usual(), with(func(f *api.Farm) { *f = api.Farm{Vips: slices.Clone(x.b.Vips), Backends: slices.Clone(x.b.Backends)} })
			if got, ok := Between(a, b, last); !ok || !slices.Equal(got, want) {
				t.Error(x.name, got, ok)
			}
			if !reflect.DeepEqual(a, usual()) || !reflect.DeepEqual(b, x.b) {
				t.Error(x.name, "a farm is changed")
			}
		}
	}
	if got, ok := Between(api.Farm{}, api.Farm{}, 0); !ok || len(got) != 0 {
		t.Error(got, ok)
	}
	got, ok := Between(api.Farm{}, usual(), 0)
	want := []int{api.OrderVip, api.OrderVip, api.OrderAdd, api.OrderAdd, api.OrderDrain, api.OrderAdd}
	if !ok || !slices.EqualFunc(got, want, func(o api.Order, op int) bool { return o.Op == op }) {
		t.Error(got, ok)
	}
}

func TestBetweenOfNone(t *testing.T) {
	bad := with(func(f *api.Farm) { f.Backends[0].Weight = 9 })
	for i, x := range []struct {
		a, b api.Farm
		last uint64
	}{
		{bad, usual(), 0}, {usual(), bad, 0}, {bad, bad, 0},
		{usual(), usual(), 1 << 62}, {usual(), usual(), math.MaxUint64},
		{usual(), api.Farm{}, 0},
		{usual(), with(func(f *api.Farm) { f.Vips, f.Backends = f.Vips[:1], f.Backends[:2] }), 0},
		{usual(), with(func(f *api.Farm) { f.Vips[1].Id = 6; f.Backends[2].Vip = 6 }), 0},
		{usual(), with(func(f *api.Farm) { f.Vips[0].Addr++ }), 0},
		{usual(), with(func(f *api.Farm) { f.Vips[0].Port++ }), 0},
		{usual(), with(func(f *api.Farm) { f.Vips[0].Proto = 17 }), 0},
	} {
		if got, ok := Between(x.a, x.b, x.last); ok || len(got) != 0 {
			t.Error(i, got, ok)
		}
	}
}

// P48.2

func TestApply(t *testing.T) {
	s := command.State{Farm: usual(), Last: 7}
	l := []api.Order{{Op: api.OrderDrain, Id: 11, Count: 8}, {Op: api.OrderRemove, Id: 12, Count: 20}, {Op: api.OrderStats, Count: 21}}
	got, e := Apply(s, l)
	want := with(func(f *api.Farm) { f.Backends[0].Life = api.Draining; f.Backends = slices.Delete(f.Backends, 1, 2) })
	if e != api.OK || got.Last != 21 || !reflect.DeepEqual(got.Farm, want) || !reflect.DeepEqual(s.Farm, usual()) {
		t.Error(got, e)
	}
	for i, x := range []struct {
		o    api.Order
		e    api.Errno
		last uint64
	}{{api.Order{Op: api.OrderStats, Count: 20}, api.ErrOld, 20}, {api.Order{Op: 9, Count: 30}, api.ErrForm, 20}, {api.Order{Op: api.OrderRemove, Id: 12, Count: 30}, api.ErrNone, 20}} {
		got, e := Apply(s, slices.Insert(slices.Clone(l), 2, x.o))
		if e != x.e || got.Last != x.last || !reflect.DeepEqual(got.Farm, want) {
			t.Error(i, got, e)
		}
	}
	if got, e := Apply(s, []api.Order{{Op: 9, Count: 8}, l[0]}); e != api.ErrForm || got.Last != 7 || !reflect.DeepEqual(got.Farm, usual()) {
		t.Error(got, e)
	}
	got, e = Apply(s, nil)
	if e != api.OK || got.Last != 7 || !reflect.DeepEqual(got.Farm, usual()) {
		t.Error(got, e)
	}
	got.Farm.Vips[0].Id, got.Farm.Backends[0].Id = 77, 77
	if !reflect.DeepEqual(s.Farm, usual()) {
		t.Error("the farm is shared")
	}
}

func TestLike(t *testing.T) {
	up := with(func(f *api.Farm) { f.Backends[0].Up, f.Backends[1].Up, f.Backends[2].Up = false, false, true })
	if !Like(usual(), usual()) || !Like(usual(), up) || !Like(api.Farm{}, api.Farm{Vips: []api.Vip{}, Backends: []api.Backend{}}) {
		t.Error("farms that are the same aren't alike")
	}
	if !reflect.DeepEqual(up.Backends[1].Up, false) {
		t.Error("a farm is changed")
	}
	for i, change := range []func(f *api.Farm){
		func(f *api.Farm) { f.Vips = f.Vips[:1] }, func(f *api.Farm) { f.Backends = f.Backends[:2] }, func(f *api.Farm) { f.Vips = append(f.Vips, api.Vip{}) },
		func(f *api.Farm) { f.Vips[0].Id++ }, func(f *api.Farm) { f.Vips[0].Addr++ }, func(f *api.Farm) { f.Vips[1].Port++ }, func(f *api.Farm) { f.Vips[1].Proto++ }, func(f *api.Farm) { f.Vips[0].Mode++ },
		func(f *api.Farm) { f.Backends[0].Id++ }, func(f *api.Farm) { f.Backends[0].Vip++ }, func(f *api.Farm) { f.Backends[0].Addr++ }, func(f *api.Farm) { f.Backends[2].Weight++ }, func(f *api.Farm) { f.Backends[2].Life++ },
	} {
		if Like(usual(), with(change)) || Like(with(change), usual()) {
			t.Error(i)
		}
	}
}

func TestMoved(t *testing.T) {
	for i, x := range []struct {
		t, u []int
		want int
	}{
		{nil, nil, 0}, {nil, []int{}, 0}, {[]int{1, 2, 3}, []int{1, 2, 3}, 0}, {[]int{1, 2, 3}, []int{1, 3, 2}, 2}, {[]int{1, 2}, []int{1, 2, 0}, 1}, {[]int{1, 2, 0, 0}, []int{3}, 4}, {nil, []int{0, 0}, 2}, {[]int{1, 2, 3}, []int{2, 3}, 3},
	} {
		if got := Moved(x.t, x.u); got != x.want || Moved(x.u, x.t) != x.want {
			t.Error(i, got)
		}
	}
}

// P48.3

// chance answers a farm by chance that has these Vips; ids are few, so that farms have many in common.
func chance(r *rand.Rand, vips []api.Vip) api.Farm {
	f := api.Farm{}
	for _, v := range vips {
		f, _ = farm.AddVip(f, v)
	}
	for range r.Intn(3) {
		f, _ = farm.AddVip(f, api.Vip{Id: 1 + r.Intn(6), Addr: 9, Port: uint16(1 + r.Intn(9)), Proto: []byte{6, 17}[r.Intn(2)], Mode: 1})
	}
	for _, v := range f.Vips {
		f, _ = farm.Mode(f, v.Id, 1+r.Intn(2))
	}
	for range r.Intn(20) {
		id := 1 + r.Intn(20)
		if len(f.Vips) > 0 {
			f, _ = farm.AddBackend(f, api.Backend{Id: id, Vip: f.Vips[r.Intn(len(f.Vips))].Id, Addr: 1 + uint32(r.Intn(2)), Weight: 1 + r.Intn(2)})
		}
		if r.Intn(3) == 0 {
			f, _ = farm.Drain(f, id)
		}
		f, _ = farm.Set(f, id, r.Intn(2) == 0)
	}
	return f
}

func TestBetweenIsApplied(t *testing.T) {
	r := rand.New(rand.NewSource(48))
	for range 2000 {
		a := chance(r, nil)
		b := chance(r, a.Vips)
		last := r.Uint64() >> 2
		l, ok := Between(a, b, last)
		if !ok {
			t.Fatal(a, b)
		}
		s, e := Apply(command.State{Farm: a, Last: last}, l)
		if e != api.OK || !Like(s.Farm, b) || s.Last != last+uint64(len(l)) {
			t.Fatal(a, b, l, s, e)
		}
		for _, x := range a.Backends {
			y, there := farm.Get(s.Farm, x.Id)
			if removed := slices.ContainsFunc(l, func(o api.Order) bool { return o.Op == api.OrderRemove && o.Id == x.Id }); there && !removed && x.Up != y.Up {
				t.Fatal(a, b, l, s)
			}
		}
		if l, ok := Between(s.Farm, b, 0); !ok || len(l) != 0 {
			t.Fatal(l)
		}
	}
}
