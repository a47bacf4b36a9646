package ether

import (
	"bytes"
	"math/rand"
	"reflect"
	"testing"

	"linkboy/api"
	"linkboy/roomy"
)

var (
	one = api.Mac{2, 0, 0, 0, 0, 1}
	two = api.Mac{6, 5, 4, 3, 2, 1}
)

// P4.1

func TestPutAndParse(t *testing.T) {
	for _, c := range []struct {
		f api.Frame
		b []byte
	}{
		{api.Frame{Dst: one, Src: two, Type: api.TypeIP}, []byte{2, 0, 0, 0, 0, 1, 6, 5, 4, 3, 2, 1, 8, 0}},
		{api.Frame{Dst: All(), Src: one, Type: api.TypeARP, Data: []byte{7, 8, 9}}, []byte{255, 255, 255, 255, 255, 255, 2, 0, 0, 0, 0, 1, 8, 6, 7, 8, 9}},
		{api.Frame{Type: 1536, Data: []byte{0}}, []byte{0, 0, 0, 0, 0, 0, 0, 0, 0, 0, 0, 0, 6, 0, 0}},
		{api.Frame{Dst: two, Src: All(), Type: 65535}, []byte{6, 5, 4, 3, 2, 1, 255, 255, 255, 255, 255, 255, 255, 255}},
	} {
		if got := Put(c.f); !bytes.Equal(got, c.b) {
			t.Errorf("%v: % x", c.f, got)
		}
		got, e := Parse(c.b)
		if e != api.OK || got.Dst != c.f.Dst || got.Src != c.f.Src || got.Type != c.f.Type || !bytes.Equal(got.Data, c.f.Data) {
			t.Errorf("% x: %v %d", c.b, got, e)
		}
	}
}

func TestPutOfAnyType(t *testing.T) {
	for _, typ := range []uint16{0, 1, 46, 1535} {
		want := append(make([]byte, 12), byte(typ>>8), byte(typ), 9)
		if got := Put(api.Frame{Type: typ, Data: []byte{9}}); !bytes.Equal(got, want) {
			t.Errorf("%d: % x", typ, got)
		}
	}
}

func TestParseRefuses(t *testing.T) {
	whole := Put(api.Frame{Dst: one, Src: two, Type: 1536})
	for n := range len(whole) {
		if f, e := Parse(whole[:n]); e != api.ErrShort || !reflect.DeepEqual(f, api.Frame{}) {
			t.Errorf("%d bytes: %v %d", n, f, e)
		}
	}
	if f, e := Parse(nil); e != api.ErrShort || !reflect.DeepEqual(f, api.Frame{}) {
		t.Errorf("nil: %v %d", f, e)
	}
	for _, typ := range []uint16{0, 1, 255, 256, 1500, 1535} {
		b := Put(api.Frame{Dst: one, Src: two, Type: typ, Data: []byte{1, 2}})
		if f, e := Parse(b); e != api.ErrForm || !reflect.DeepEqual(f, api.Frame{}) {
			t.Errorf("type %d: %v %d", typ, f, e)
		}
		if _, e := Parse(b[:13]); e != api.ErrShort {
			t.Errorf("type %d, 13 bytes: %d", typ, e)
		}
	}
}

func TestNothingIsShared(t *testing.T) {
	data := roomy.Bytes(1, 2, 3)
	b := Put(api.Frame{Dst: one, Src: two, Type: api.TypeIP, Data: data})
	if !roomy.Apart(data, b) || !roomy.Untouched(data, 1, 2, 3) {
		t.Error("Put changes or shares Data")
	}
	in := roomy.Bytes(b...)
	f, _ := Parse(in)
	if !roomy.Apart(in, f.Data) || !roomy.Untouched(in, b...) {
		t.Error("Parse changes or shares bytes")
	}
	f, _ = Parse(in[:14])
	if !roomy.Apart(in, f.Data) {
		t.Error("Parse shares what stands behind")
	}
}

// P4.2

func TestAll(t *testing.T) {
	if got := All(); got != (api.Mac{0xff, 0xff, 0xff, 0xff, 0xff, 0xff}) {
		t.Error(got)
	}
}

func TestGroupAndUnicast(t *testing.T) {
	for _, c := range []struct {
		m              api.Mac
		group, unicast bool
	}{
		{api.Mac{}, false, false},
		{All(), true, false},
		{one, false, true},
		{two, false, true},
		{api.Mac{1}, true, false},
		{api.Mac{1, 0, 0x5e, 0, 0, 1}, true, false},
		{api.Mac{0xff}, true, false},
		{api.Mac{0xfe, 255, 255, 255, 255, 255}, false, true},
		{api.Mac{0x33, 0x33}, true, false},
		{api.Mac{0, 1}, false, true},
		{api.Mac{0, 1, 1, 1, 1, 1}, false, true},
		{api.Mac{0, 0, 0, 0, 0, 1}, false, true},
		{api.Mac{128}, false, true},
		{api.Mac{129}, true, false},
	} {
		if Group(c.m) != c.group || Unicast(c.m) != c.unicast {
			t.Errorf("%x: %v %v", c.m, Group(c.m), Unicast(c.m))
		}
	}
}

func TestMine(t *testing.T) {
	for _, c := range []struct {
		dst, m api.Mac
		want   bool
	}{
		{one, one, true},
		{one, two, false},
		{All(), one, true},
		{All(), All(), true},
		{one, All(), false},
		{api.Mac{}, one, false},
		{api.Mac{}, api.Mac{}, true},
		{api.Mac{2, 0, 0, 0, 0, 2}, one, false},
		{api.Mac{3, 0, 0, 0, 0, 1}, one, false},
		{api.Mac{255, 255, 255, 255, 255, 254}, one, false},
		{api.Mac{1, 0, 0x5e, 0, 0, 1}, one, false},
	} {
		if got := Mine(api.Frame{Dst: c.dst, Src: c.m}, c.m); got != c.want {
			t.Errorf("to %x, at %x: %v", c.dst, c.m, got)
		}
	}
}

// P4.3

func TestFramesComeBack(t *testing.T) {
	r := rand.New(rand.NewSource(4))
	for range 2000 {
		f := api.Frame{Type: uint16(1536 + r.Intn(65536-1536)), Data: make([]byte, r.Intn(60))}
		r.Read(f.Dst[:])
		r.Read(f.Src[:])
		r.Read(f.Data)
		b := Put(f)
		got, e := Parse(b)
		if e != api.OK || got.Dst != f.Dst || got.Src != f.Src || got.Type != f.Type || !bytes.Equal(got.Data, f.Data) || len(b) != 14+len(f.Data) {
			t.Errorf("%v: %v %d", f, got, e)
		}
		if again := Put(got); !bytes.Equal(again, b) {
			t.Errorf("% x: % x", b, again)
		}
	}
}
