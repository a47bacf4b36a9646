package command

import (
	"math"
	"math/rand"
	"slices"
	"testing"

	"linkboy/api"
	"linkboy/farm"
)

// usual answers a state behind order 10.
func usual() State {
	return State{
		Farm: api.Farm{
			Vips: []api.Vip{{Id: 1, Addr: 9, Port: 80, Proto: 6, Mode: api.Direct}, {Id: 2, Addr: 9, Port: 53, Proto: 17, Mode: api.Direct}},
			Backends: []api.Backend{
				{Id: 5, Vip: 1, Addr: 7, Weight: 1, Life: api.Serving, Up: true},
				{Id: 8, Vip: 2, Addr: 7, Weight: 2, Life: api.Serving},
			},
		},
		Last: 10,
	}
}

// same tells whether two states are alike, whether lists are nil or empty.
func same(a, b State) bool {
	return a.Last == b.Last && slices.Equal(a.Farm.Vips, b.Farm.Vips) && slices.Equal(a.Farm.Backends, b.Farm.Backends)
}

// P35.1

func TestDo(t *testing.T) {
	for i, x := range []struct {
		o      api.Order
		change func(f *api.Farm)
	}{
		{api.Order{Op: api.OrderVip, Id: 3, Addr: 4, Port: 5, Proto: 6, Num: 2, Vip: 99}, func(f *api.Farm) {
			f.Vips = append(f.Vips, api.Vip{Id: 3, Addr: 4, Port: 5, Proto: 6, Mode: api.Proxy})
		}},
		{api.Order{Op: api.OrderAdd, Id: 9, Vip: 2, Addr: 4, Num: 8, Port: 5, Proto: 6}, func(f *api.Farm) {
			f.Backends = append(f.Backends, api.Backend{Id: 9, Vip: 2, Addr: 4, Weight: 8, Life: api.Serving})
		}},
		{api.Order{Op: api.OrderRemove, Id: 5, Vip: 2, Num: 9}, func(f *api.Farm) { f.Backends = f.Backends[1:] }},
		{api.Order{Op: api.OrderDrain, Id: 5, Num: 9}, func(f *api.Farm) { f.Backends[0].Life = api.Draining }},
		{api.Order{Op: api.OrderWeight, Id: 5, Num: 7}, func(f *api.Farm) { f.Backends[0].Weight = 7 }},
		{api.Order{Op: api.OrderMode, Id: 1, Num: 2}, func(f *api.Farm) { f.Vips[0].Mode = api.Proxy }},
		{api.Order{Op: api.OrderStats, Id: 77, Vip: 77, Num: 77}, func(f *api.Farm) {}},
	} {
		for _, count := range []uint64{11, 12, math.MaxUint64} {
			x.o.Count = count
			want := usual()
			want.Last = count
			x.change(&want.Farm)
			s := usual()
			got, e := Do(s, x.o)
			if e != api.OK || !same(got, want) || !same(s, usual()) {
				t.Error(i, got, e)
			}
			got.Farm.Vips[0].Id, got.Farm.Backends[0].Id = 77, 77
			if !same(s, usual()) {
				t.Error(i, "the answer is shared")
			}
		}
		for _, count := range []uint64{0, 9, 10} {
			x.o.Count = count
			if got, e := Do(usual(), x.o); e != api.ErrOld || !same(got, usual()) {
				t.Error(i, count, got, e)
			}
		}
	}
}

func TestDoWrong(t *testing.T) {
	for i, x := range []struct {
		o    api.Order
		want api.Errno
	}{
		{api.Order{Count: 11, Op: api.OrderVip, Id: 3, Addr: 4, Port: 5, Proto: 6, Num: 3}, api.ErrArg},
		{api.Order{Count: 11, Op: api.OrderVip, Id: 2, Addr: 4, Port: 5, Proto: 6, Num: 1}, api.ErrThere},
		{api.Order{Count: 10, Op: api.OrderVip, Id: 2, Addr: 4, Port: 5, Proto: 6, Num: 1}, api.ErrOld},
		{api.Order{Count: 11, Op: api.OrderAdd, Id: 9, Vip: 3, Addr: 4, Num: 1}, api.ErrNone},
		{api.Order{Count: 11, Op: api.OrderAdd, Id: 9, Vip: 2, Addr: 4, Num: 9}, api.ErrArg},
		{api.Order{Count: 11, Op: api.OrderAdd, Id: 5, Vip: 2, Addr: 4, Num: 1}, api.ErrThere},
		{api.Order{Count: 11, Op: api.OrderRemove, Id: 6}, api.ErrNone},
		{api.Order{Count: 11, Op: api.OrderDrain, Id: 6}, api.ErrNone},
		{api.Order{Count: 11, Op: api.OrderWeight, Id: 6, Num: 1}, api.ErrNone},
		{api.Order{Count: 11, Op: api.OrderWeight, Id: 5, Num: 0}, api.ErrArg},
		{api.Order{Count: 11, Op: api.OrderMode, Id: 2, Num: api.Proxy}, api.ErrArg},
		{api.Order{Count: 11, Op: api.OrderMode, Id: 3, Num: api.Proxy}, api.ErrNone},
		{api.Order{Count: 11}, api.ErrForm},
		{api.Order{Count: 11, Op: 8}, api.ErrForm},
		{api.Order{Count: 11, Op: -1}, api.ErrForm},
		{api.Order{Count: 10, Op: 8}, api.ErrOld},
		{api.Order{}, api.ErrOld},
	} {
		s := usual()
		got, e := Do(s, x.o)
		if e != x.want || !same(got, usual()) {
			t.Error(i, got, e)
		}
		got.Farm.Vips[0].Id, got.Farm.Backends[0].Id = 77, 77
		if !same(s, usual()) {
			t.Error(i, "the answer is shared")
		}
	}
	if s, e := Do(State{}, api.Order{}); e != api.ErrOld || !same(s, State{}) {
		t.Error(s, e)
	}
	if s, e := Do(State{}, api.Order{Count: 1, Op: api.OrderStats}); e != api.OK || !same(s, State{Last: 1}) {
		t.Error(s, e)
	}
	if s, e := Do(State{Last: math.MaxUint64}, api.Order{Count: math.MaxUint64, Op: api.OrderStats}); e != api.ErrOld || s.Last != math.MaxUint64 {
		t.Error(s, e)
	}
}

// P35.2

func TestCode(t *testing.T) {
	for e, want := range map[api.Errno]byte{api.OK: 0, api.ErrNil: 1, api.ErrCookie: 16, 254: 254, 255: 255, 256: 255, -1: 255, 257: 255, math.MaxInt: 255, math.MinInt: 255} {
		if got := Code(e); got != want {
			t.Error(e, got)
		}
	}
}

func TestGone(t *testing.T) {
	for i, x := range []struct {
		o  api.Order
		id int
		ok bool
	}{
		{api.Order{Count: 11, Op: api.OrderRemove, Id: 5}, 5, true},
		{api.Order{Count: 99, Op: api.OrderRemove, Id: 8}, 8, true},
		{api.Order{Count: 10, Op: api.OrderRemove, Id: 5}, 0, false},
		{api.Order{Count: 11, Op: api.OrderRemove, Id: 6}, 0, false},
		{api.Order{Count: 11, Op: api.OrderDrain, Id: 5}, 0, false},
		{api.Order{Count: 11, Op: api.OrderStats, Id: 5}, 0, false},
		{api.Order{Count: 11, Op: 8, Id: 5}, 0, false},
	} {
		s := usual()
		if id, ok := Gone(s, x.o); id != x.id || ok != x.ok || !same(s, usual()) {
			t.Error(i, id, ok)
		}
	}
}

// P35.3

func TestManyOrders(t *testing.T) {
	r := rand.New(rand.NewSource(35))
	for range 100 {
		s := State{}
		for range 200 {
			o := api.Order{Count: s.Last + uint64(r.Intn(3)), Op: r.Intn(9), Id: r.Intn(6), Vip: r.Intn(5), Addr: uint32(r.Intn(4)), Port: uint16(r.Intn(3)), Proto: byte(6 + 11*r.Intn(2)), Num: r.Intn(4)}
			next, e := Do(s, o)
			if o.Count <= s.Last && e != api.ErrOld || e != api.OK && !same(next, s) || !farm.Right(next.Farm) {
				t.Fatal(s, o, next, e)
			}
			id, gone := Gone(s, o)
			if _, there := farm.Get(next.Farm, id); gone != (e == api.OK && o.Op == api.OrderRemove) || gone && there {
				t.Fatal(s, o, id, gone)
			}
			if again, e2 := Do(next, o); e == api.OK && (e2 != api.ErrOld || !same(again, next)) {
				t.Fatal(next, o, again, e2)
			}
			s = next
		}
	}
}
