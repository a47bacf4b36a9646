package udp

import (
	"bytes"
	"math/rand"
	"reflect"
	"testing"

	"linkboy/api"
	"linkboy/octet"
	"linkboy/roomy"
	"linkboy/sum"
)

const (
	one = 10<<24 | 1
	two = 10<<24 | 2
)

// same tells whether two datagrams are alike, and nil and empty lists too.
func same(a, b api.Datagram) bool {
	return a.Src == b.Src && a.Dst == b.Dst && a.Bare == b.Bare && bytes.Equal(a.Data, b.Data)
}

// sample answers a datagram from one to two, and its bytes.
func sample() (api.Datagram, []byte) {
	return api.Datagram{Src: 0x1234, Dst: 53, Data: []byte{1, 2, 3}}, []byte{0x12, 0x34, 0, 0x35, 0, 11, 0xd5, 0x6a, 1, 2, 3}
}

// P8.1

func TestHead(t *testing.T) {
	for _, c := range []struct {
		src, dst uint32
		proto    byte
		n        int
		want     []byte
	}{
		{0x01020304, 0xf5f6f7f8, 17, 0x090a, []byte{1, 2, 3, 4, 0xf5, 0xf6, 0xf7, 0xf8, 0, 17, 9, 10}},
		{0, 0, 0, 0, make([]byte, 12)},
		{1, 2, 255, 65535, []byte{0, 0, 0, 1, 0, 0, 0, 2, 0, 255, 255, 255}},
		{1, 2, 6, 65536 + 7, []byte{0, 0, 0, 1, 0, 0, 0, 2, 0, 6, 0, 7}},
		{1, 2, 6, -1, []byte{0, 0, 0, 1, 0, 0, 0, 2, 0, 6, 255, 255}},
	} {
		if got := Head(c.src, c.dst, c.proto, c.n); !bytes.Equal(got, c.want) {
			t.Errorf("%x, %x, %d, %d: % x", c.src, c.dst, c.proto, c.n, got)
		}
	}
}

// P8.2

func TestPut(t *testing.T) {
	d, b := sample()
	bare := d
	bare.Bare = true
	for _, c := range []struct {
		src, dst uint32
		d        api.Datagram
		want     []byte
	}{
		{one, two, d, b},
		{one, two, bare, []byte{0x12, 0x34, 0, 0x35, 0, 11, 0, 0, 1, 2, 3}},
		{one, two, api.Datagram{Src: 1, Dst: 2, Bare: true}, []byte{0, 1, 0, 2, 0, 8, 0, 0}},
		{0, 0, api.Datagram{}, []byte{0, 0, 0, 0, 0, 8, 0xff, 0xde}},
		{one, two, api.Datagram{Src: 60377, Dst: 2}, []byte{0xeb, 0xd9, 0, 2, 0, 8, 0xff, 0xff}},
		{one, two, api.Datagram{Src: 60377, Dst: 2, Bare: true}, []byte{0xeb, 0xd9, 0, 2, 0, 8, 0, 0}},
	} {
		if got, e := Put(c.src, c.dst, c.d); !bytes.Equal(got, c.want) || e != api.OK {
			t.Errorf("%v: % x %d", c.d, got, e)
		}
	}
}

func TestPutOfTooMuch(t *testing.T) {
	for _, bare := range []bool{false, true} {
		for _, n := range []int{65528, 65536, 70000} {
			if got, e := Put(one, two, api.Datagram{Bare: bare, Data: make([]byte, n)}); len(got) != 0 || e != api.ErrArg {
				t.Errorf("%d: %d bytes, %d", n, len(got), e)
			}
		}
		d := api.Datagram{Src: 5, Bare: bare, Data: bytes.Repeat([]byte{7}, 65527)}
		b, e := Put(one, two, d)
		if n, _ := octet.Get16(b, 4); len(b) != 65535 || n != 65535 || e != api.OK {
			t.Errorf("%d bytes, %d", len(b), e)
		}
		if got, e := Parse(one, two, b); !same(got, d) || e != api.OK {
			t.Error("the greatest isn't its bytes'", e)
		}
	}
}

// P8.3

func TestParse(t *testing.T) {
	d, b := sample()
	if got, e := Parse(one, two, b); !same(got, d) || e != api.OK {
		t.Error(got, e)
	}
	if got, e := Parse(two, one, b); !same(got, d) || e != api.OK {
		t.Error("the other way round the sum is the same", got, e)
	}
	if got, e := Parse(one, two, append(bytes.Clone(b), 4, 5, 6)); !same(got, d) || e != api.OK {
		t.Error("with bytes behind", got, e)
	}
	b[6], b[7], d.Bare = 0, 0, true
	if got, e := Parse(one, 99, b); !same(got, d) || e != api.OK {
		t.Error("without a sum", got, e)
	}
	if got, e := Parse(one, two, []byte{0xeb, 0xd9, 0, 2, 0, 8, 0xff, 0xff}); !same(got, api.Datagram{Src: 60377, Dst: 2}) || e != api.OK {
		t.Error("a sum of 65535", got, e)
	}
}

func TestParseRefuses(t *testing.T) {
	_, b := sample()
	with := func(at int, n uint16) []byte {
		out, _ := octet.Set16(b, at, n)
		return out
	}
	refused := func(name string, src, dst uint32, b []byte, want api.Errno) {
		if got, e := Parse(src, dst, b); e != want || !reflect.DeepEqual(got, api.Datagram{}) {
			t.Errorf("%s: %v %d", name, got, e)
		}
	}
	for n := range len(b) {
		refused("too few", one, two, b[:n], api.ErrShort)
	}
	refused("nil", one, two, nil, api.ErrShort)
	for n := range uint16(8) {
		refused("a number below 8", one, two, with(4, n), api.ErrForm)
		refused("a number below 8, and none behind", one, two, with(4, n)[:8], api.ErrForm)
		refused("a number below 8, and too few", one, two, with(4, n)[:7], api.ErrShort)
	}
	refused("one too many", one, two, with(4, 12), api.ErrShort)
	refused("65535", one, two, with(4, 65535), api.ErrShort)
	bare, _ := octet.Set16(with(4, 12), 6, 0)
	refused("one too many, without a sum", one, two, bare, api.ErrShort)
	for at := range b {
		bad := bytes.Clone(b)
		bad[at] ^= 1
		if at != 4 && at != 5 {
			refused("another byte", one, two, bad, api.ErrSum)
		}
	}
	refused("one too few", one, two, with(4, 10), api.ErrSum)
	refused("another source", one+1, two, b, api.ErrSum)
	refused("another aim", one, two+256, b, api.ErrSum)
	// As a segment's bytes these would be right: the false head has UDP's number.
	s := sum.Of(Head(one, two, api.ProtoTCP, len(b)), with(6, 0))
	refused("another protocol", one, two, with(6, s), api.ErrSum)
}

func TestNothingIsShared(t *testing.T) {
	for _, bare := range []bool{false, true} {
		data := roomy.Bytes(1, 2, 3)
		b, _ := Put(one, two, api.Datagram{Bare: bare, Data: data})
		if !roomy.Apart(data, b) || !roomy.Untouched(data, 1, 2, 3) {
			t.Error("Put changes or shares what was handed in")
		}
		in := roomy.Bytes(b...)
		got, _ := Parse(one, two, in)
		if !roomy.Apart(in, got.Data) || !roomy.Untouched(in, b...) {
			t.Error("Parse changes or shares what was handed in")
		}
	}
}

// P8.4

func TestDatagramsComeBack(t *testing.T) {
	r := rand.New(rand.NewSource(8))
	for range 3000 {
		d := api.Datagram{Src: uint16(r.Uint32()), Dst: uint16(r.Uint32()), Bare: r.Intn(3) == 0, Data: make([]byte, r.Intn(40))}
		r.Read(d.Data)
		src, dst := r.Uint32(), r.Uint32()
		b, e := Put(src, dst, d)
		if e != api.OK {
			t.Errorf("%v: %d", d, e)
		}
		if got, e := Parse(src, dst, append(b, d.Data...)); !same(got, d) || e != api.OK {
			t.Errorf("%v: %v %d", d, got, e)
		}
	}
}

// TestNoSumIsNone goes through all ports: a datagram that isn't Bare never looks so.
func TestNoSumIsNone(t *testing.T) {
	for port := range 1 << 16 {
		d := api.Datagram{Src: uint16(port), Dst: 9}
		b, _ := Put(one, two, d)
		if got, e := Parse(one, two, b); !same(got, d) || e != api.OK {
			t.Errorf("%d: %v %d", port, got, e)
		}
	}
}
