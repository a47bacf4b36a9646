package tun

import (
	"bytes"
	"math"
	"math/rand"
	"reflect"
	"testing"

	"linkboy/api"
	"linkboy/ipv4"
	"linkboy/octet"
	"linkboy/roomy"
)

func conf(mtu int) api.Config {
	return api.Config{Addrs: [2]uint32{100, 200}, MTU: mtu}
}

// usual answers a packet that is borne.
func usual() api.Packet {
	return api.Packet{TOS: 9, ID: 8, DF: true, TTL: 7, Proto: 6, Src: 5, Dst: 4, Options: []byte{1, 1, 1, 0}, Data: []byte{1, 2, 3}}
}

func put(p api.Packet) []byte {
	b, _ := ipv4.Put(p)
	return b
}

// P29.1

func TestWrap(t *testing.T) {
	b := put(usual())
	want := api.Packet{TOS: 9, ID: 77, DF: true, TTL: 64, Proto: 4, Src: 200, Dst: 300, Data: b}
	if p, e := Wrap(conf(1500), b, 300, 77); e != api.OK || !reflect.DeepEqual(p, want) {
		t.Error(p, e)
	}
	if p, e := Wrap(conf(1500), octet.Join(b, []byte{7, 7}), 300, 77); e != api.OK || !reflect.DeepEqual(p, want) {
		t.Error("what stands behind plays a part", p, e)
	}
	in := usual()
	in.TOS, in.DF, in.MF, in.Off, in.TTL = 0, false, true, 5, 0
	want = api.Packet{TTL: 64, Proto: 4, Src: 200, Data: put(in)}
	if p, e := Wrap(conf(1500), put(in), 0, 0); e != api.OK || !reflect.DeepEqual(p, want) {
		t.Error("of a piece", p, e)
	}
	if e := ipv4.Check(want); e != api.OK {
		t.Error(e)
	}
}

// TestWrapAsItStands has a sum that Put would write in another way, and options that aren't ended.
func TestWrapAsItStands(t *testing.T) {
	for id := range 65536 {
		in := usual()
		in.ID = uint16(id)
		b := put(in)
		if b[10] != 0 || b[11] != 0 {
			continue
		}
		b[10], b[11] = 255, 255
		if p, e := Wrap(conf(1500), b, 1, 2); e != api.OK || !bytes.Equal(p.Data, b) {
			t.Error(p, e)
		}
		return
	}
	t.Error("no sum is 0")
}

func TestWrapWrong(t *testing.T) {
	b := put(usual())
	wrong := octet.Join(b)
	wrong[1]++
	four := octet.Join(b)
	four[0] = 68
	for _, x := range []struct {
		b    []byte
		mtu  int
		want api.Errno
	}{
		{nil, 1500, api.ErrShort}, {b[:19], 0, api.ErrShort}, {b[:len(b)-1], 1500, api.ErrShort}, {wrong, 0, api.ErrSum}, {four, 0, api.ErrForm},
		{b, len(b) + 19, api.ErrBig}, {b, 0, api.ErrBig}, {b, -1, api.ErrBig}, {b, math.MinInt, api.ErrBig},
	} {
		if p, e := Wrap(conf(x.mtu), x.b, 1, 2); e != x.want || !reflect.DeepEqual(p, api.Packet{}) {
			t.Error(x, p, e)
		}
	}
}

func TestWrapSizes(t *testing.T) {
	for _, x := range []struct {
		size, mtu int
		want      api.Errno
	}{
		{1480, 1500, api.OK}, {1481, 1500, api.ErrBig}, {1500, 1500, api.ErrBig}, {20, 40, api.OK}, {20, 39, api.ErrBig}, {556, 576, api.OK}, {557, 576, api.ErrBig}, {1481, math.MaxInt, api.OK},
	} {
		b := put(api.Packet{Data: make([]byte, x.size-20)})
		b = append(b, make([]byte, 30)...)
		if p, e := Wrap(conf(x.mtu), b, 1, 2); e != x.want || e == api.OK && len(p.Data) != x.size {
			t.Error(x, e)
		}
	}
}

func TestApart(t *testing.T) {
	raw := put(usual())
	b := roomy.Bytes(raw...)
	p, _ := Wrap(conf(1500), b, 1, 2)
	if !roomy.Untouched(b, raw...) || !roomy.Apart(p.Data, b) {
		t.Error("what is wrapped is shared")
	}
	p.Data = b
	got, e := Open(p)
	if e != api.OK || !roomy.Untouched(b, raw...) || !roomy.Apart(got, b) {
		t.Error("what is opened is shared")
	}
}

// P29.2

func TestOpen(t *testing.T) {
	b := put(usual())
	p := api.Packet{Proto: 4, Data: b, Options: []byte{1}, DF: true}
	if got, e := Open(p); e != api.OK || !bytes.Equal(got, b) {
		t.Error(got, e)
	}
	p.Data = octet.Join(b, []byte{7, 7, 7})
	if got, e := Open(p); e != api.OK || !bytes.Equal(got, b) {
		t.Error("what stands behind plays a part", got, e)
	}
}

func TestOpenWrong(t *testing.T) {
	b := put(usual())
	wrong := octet.Join(b)
	wrong[1]++
	for _, x := range []struct {
		p    api.Packet
		want api.Errno
	}{
		{api.Packet{}, api.ErrForm},
		{api.Packet{Proto: 6, Data: b}, api.ErrForm},
		{api.Packet{Proto: 5, MF: true, Data: b}, api.ErrForm},
		{api.Packet{Proto: 4, MF: true, Data: b}, api.ErrRange},
		{api.Packet{Proto: 4, Off: 1, Data: b}, api.ErrRange},
		{api.Packet{Proto: 4, Off: 1}, api.ErrRange},
		{api.Packet{Proto: 4}, api.ErrShort},
		{api.Packet{Proto: 4, Data: b[:len(b)-1]}, api.ErrShort},
		{api.Packet{Proto: 4, Data: wrong}, api.ErrSum},
		{api.Packet{Proto: 4, Data: make([]byte, 20)}, api.ErrForm},
	} {
		if got, e := Open(x.p); e != x.want || len(got) != 0 {
			t.Error(x, got, e)
		}
	}
}

// P29.3

func TestBorne(t *testing.T) {
	r := rand.New(rand.NewSource(29))
	for range 3000 {
		in := api.Packet{TOS: byte(r.Uint32()), ID: uint16(r.Uint32()), DF: r.Intn(2) == 0, MF: r.Intn(2) == 0, Off: uint16(r.Intn(8192)), TTL: byte(r.Uint32()), Proto: byte(r.Uint32()), Src: r.Uint32(), Dst: r.Uint32()}
		in.Options, in.Data = make([]byte, 4*r.Intn(11)), make([]byte, r.Intn(1420))
		r.Read(in.Options)
		r.Read(in.Data)
		b := put(in)
		p, e := Wrap(conf(1500), octet.Join(b, make([]byte, r.Intn(5))), r.Uint32(), uint16(r.Uint32()))
		if e != api.OK {
			t.Fatal(in, e)
		}
		back, e := ipv4.Parse(put(p))
		if e != api.OK {
			t.Fatal(in, e)
		}
		if got, e := Open(back); e != api.OK || !bytes.Equal(got, b) {
			t.Fatal(in, got, e)
		}
	}
}
