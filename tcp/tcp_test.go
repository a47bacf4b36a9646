package tcp

import (
	"bytes"
	"math/rand"
	"reflect"
	"testing"

	"linkboy/api"
	"linkboy/octet"
	"linkboy/roomy"
	"linkboy/sum"
	"linkboy/udp"
)

const (
	one = 10<<24 | 1
	two = 10<<24 | 2
)

// same tells whether two segments are alike, and nil and empty lists too.
func same(a, b api.Segment) bool {
	lists := bytes.Equal(a.Options, b.Options) && bytes.Equal(a.Data, b.Data)
	a.Options, a.Data, b.Options, b.Data = nil, nil, nil, nil
	return lists && reflect.DeepEqual(a, b)
}

// put answers the bytes, from one to two, of a segment that may be.
func put(t *testing.T, s api.Segment) []byte {
	t.Helper()
	b, e := Put(one, two, s)
	if e != api.OK {
		t.Fatalf("%v: %d", s, e)
	}
	return b
}

// full answers a segment that has something in each field.
func full() api.Segment {
	return api.Segment{
		Src: 0x0102, Dst: 0x0304, Seq: 0x05060708, Ack: 0x090a0b0c, Res: 13, Flags: 0xd8, Window: 0x0e0f, Urgent: 0x1011,
		Options: []byte{2, 4, 5, 180, 1, 1, 1, 0}, Data: []byte{9, 8, 7},
	}
}

// P9.1

func TestPutAndParse(t *testing.T) {
	for _, c := range []struct {
		src, dst uint32
		s        api.Segment
		b        []byte
	}{
		{
			one, two, api.Segment{Src: 0x1234, Dst: 80, Seq: 0x01020304, Ack: 0xa1a2a3a4, Flags: api.SYN, Window: 65535, Options: []byte{2, 4, 5, 180}},
			[]byte{0x12, 0x34, 0, 80, 1, 2, 3, 4, 0xa1, 0xa2, 0xa3, 0xa4, 0x60, 2, 0xff, 0xff, 0x28, 0x53, 0, 0, 2, 4, 5, 180},
		},
		{
			0xc0a80001, 0xc0a800c7, api.Segment{Src: 0xabcd, Dst: 0xef01, Seq: 0xfffffffe, Res: 15, Flags: 255, Window: 0x1234, Urgent: 0x5678, Data: []byte{1, 2, 3}},
			[]byte{0xab, 0xcd, 0xef, 1, 0xff, 0xff, 0xff, 0xfe, 0, 0, 0, 0, 0x5f, 0xff, 0x12, 0x34, 0x16, 0x4d, 0x56, 0x78, 1, 2, 3},
		},
		{0, 0, api.Segment{}, []byte{0, 0, 0, 0, 0, 0, 0, 0, 0, 0, 0, 0, 0x50, 0, 0, 0, 0xaf, 0xe5, 0, 0}},
	} {
		if got, e := Put(c.src, c.dst, c.s); !bytes.Equal(got, c.b) || e != api.OK {
			t.Errorf("%v: % x %d", c.s, got, e)
		}
		if got, e := Parse(c.src, c.dst, c.b); !same(got, c.s) || e != api.OK {
			t.Errorf("% x: %v %d", c.b, got, e)
		}
	}
}

func TestMayBe(t *testing.T) {
	for _, c := range []struct {
		name               string
		res, options, data int
		want               api.Errno
	}{
		{"nothing", 0, 0, 0, api.OK},
		{"the greatest Res", 15, 0, 0, api.OK},
		{"too great a Res", 16, 0, 0, api.ErrArg},
		{"much too great a Res", 255, 0, 0, api.ErrArg},
		{"as many options as may be", 0, 40, 0, api.OK},
		{"too many options", 0, 44, 0, api.ErrArg},
		{"far too many options", 0, 400, 0, api.ErrArg},
		{"options of 1", 0, 1, 0, api.ErrArg},
		{"options of 2", 0, 2, 0, api.ErrArg},
		{"options of 3", 0, 3, 0, api.ErrArg},
		{"options of 4", 0, 4, 0, api.OK},
		{"options of 39", 0, 39, 0, api.ErrArg},
		{"as much data as may be", 0, 0, 65515, api.OK},
		{"too much data", 0, 0, 65516, api.ErrArg},
		{"much too much data", 0, 0, 65536 + 10, api.ErrArg},
		{"as much data as may be behind options", 0, 40, 65475, api.OK},
		{"too much data behind options", 0, 40, 65476, api.ErrArg},
	} {
		s := api.Segment{Res: byte(c.res), Options: make([]byte, c.options), Data: make([]byte, c.data)}
		if got := Check(s); got != c.want {
			t.Errorf("%s: Check: %d", c.name, got)
		}
		b, e := Put(one, two, s)
		if e != c.want || e == api.OK && len(b) != 20+c.options+c.data || e != api.OK && len(b) != 0 {
			t.Errorf("%s: Put: %d bytes, %d", c.name, len(b), e)
		}
		if e != api.OK {
			continue
		}
		if got, e := Parse(one, two, b); e != api.OK || !same(got, s) {
			t.Errorf("%s: Parse: %d", c.name, e)
		}
	}
}

// TestNoSumIsLeftOut: 0 is a sum like others here.
func TestNoSumIsLeftOut(t *testing.T) {
	s := full()
	s.Urgent = 0
	b := put(t, s)
	s.Urgent, _ = octet.Get16(b, 16)
	b = put(t, s)
	if n, _ := octet.Get16(b, 16); n != 0 {
		t.Errorf("% x", b)
	}
	if got, e := Parse(one, two, b); e != api.OK || !same(got, s) {
		t.Error(got, e)
	}
}

// P9.2

func TestParseRefuses(t *testing.T) {
	b := put(t, full())
	refused := func(name string, src, dst uint32, b []byte, want api.Errno) {
		if got, e := Parse(src, dst, b); e != want || !reflect.DeepEqual(got, api.Segment{}) {
			t.Errorf("%s: %v %d", name, got, e)
		}
	}
	with := func(at int, x byte) []byte {
		out := bytes.Clone(b)
		out[at] = x
		return out
	}
	refused("nil", one, two, nil, api.ErrShort)
	for n := range 28 {
		refused("too few", one, two, b[:n], api.ErrShort)
	}
	for words := range byte(5) {
		refused("a head that is too small", one, two, with(12, words<<4|13), api.ErrForm)
		refused("a head that is too small, of 20", one, two, with(12, words<<4|13)[:20], api.ErrForm)
		refused("a head that is too small, and too few", one, two, with(12, words<<4|13)[:19], api.ErrShort)
	}
	refused("a head of 8 words", one, two, with(12, 0x80), api.ErrShort)
	refused("a head of 15 words", one, two, with(12, 0xff), api.ErrShort)
	refused("a head of 6 words", one, two, with(12, 0x6d), api.ErrSum)
	refused("a head without data", one, two, b[:28], api.ErrSum)
	for at := range b {
		bad := bytes.Clone(b)
		bad[at] ^= 1
		refused("another byte", one, two, bad, api.ErrSum)
	}
	refused("a byte behind", one, two, append(bytes.Clone(b), 0), api.ErrSum)
	refused("another source", one+1, two, b, api.ErrSum)
	refused("another aim", one, two-256, b, api.ErrSum)
	none, _ := octet.Set16(b, 16, 0)
	bad, _ := octet.Set16(none, 16, sum.Of(udp.Head(one, two, api.ProtoUDP, len(b)), none))
	refused("another protocol", one, two, bad, api.ErrSum)
}

func TestParseRefusesTooMuch(t *testing.T) {
	for n, want := range map[int]api.Errno{65535: api.OK, 65536: api.ErrForm, 65537: api.ErrForm, 70000: api.ErrForm} {
		b := make([]byte, n)
		b[12] = 0x50
		b, _ = octet.Set16(b, 16, sum.Of(udp.Head(one, two, api.ProtoTCP, n), b))
		if got, e := Parse(one, two, b); e != want || e != api.OK && !reflect.DeepEqual(got, api.Segment{}) {
			t.Errorf("%d: %d", n, e)
		}
	}
}

func TestNothingIsShared(t *testing.T) {
	s := full()
	s.Options, s.Data = roomy.Bytes(1, 1, 1, 0), roomy.Bytes(5, 6)
	b := put(t, s)
	if !roomy.Apart(s.Options, b) || !roomy.Apart(s.Data, b) || !roomy.Untouched(s.Options, 1, 1, 1, 0) || !roomy.Untouched(s.Data, 5, 6) {
		t.Error("Put changes or shares what was handed in")
	}
	in := roomy.Bytes(b...)
	got, _ := Parse(one, two, in)
	if !roomy.Apart(in, got.Options) || !roomy.Apart(in, got.Data) || !roomy.Apart(got.Data, got.Options) || !roomy.Untouched(in, b...) {
		t.Error("Parse changes or shares what was handed in")
	}
}

// P9.3

func TestHas(t *testing.T) {
	for _, c := range []struct {
		is, flags byte
		want      bool
	}{
		{0, 0, true}, {255, 0, true}, {255, 255, true}, {api.SYN, api.SYN, true}, {api.SYN, api.ACK, false}, {api.SYN | api.ACK, api.SYN | api.ACK, true},
		{api.SYN, api.SYN | api.ACK, false}, {api.ACK, api.SYN | api.ACK, false}, {api.SYN | api.ACK | api.URG, api.SYN | api.URG, true}, {0, api.FIN, false}, {64, 64, true},
	} {
		if got := Has(api.Segment{Flags: c.is}, c.flags); got != c.want {
			t.Errorf("%d, %d: %v", c.is, c.flags, got)
		}
	}
}

func TestSpaceAndNext(t *testing.T) {
	for _, c := range []struct {
		flags byte
		data  int
		want  uint32
	}{
		{0, 0, 0}, {api.SYN, 3, 4}, {api.SYN, 0, 1}, {api.FIN, 0, 1}, {api.SYN | api.FIN, 0, 2}, {api.SYN | api.FIN | api.ACK, 10, 12}, {api.FIN | api.ACK, 5, 6},
		{api.RST | api.PSH | api.ACK | api.URG | 64 | 128, 0, 0}, {api.ACK, 65515, 65515}, {api.SYN | api.FIN, 65536, 65538},
	} {
		for _, seq := range []uint32{0, 7, 0xffffffff, 0xfffffffe, 0x80000000} {
			s := api.Segment{Seq: seq, Ack: 99, Flags: c.flags, Options: make([]byte, 8), Data: make([]byte, c.data)}
			if Space(s) != c.want || Next(s) != seq+c.want {
				t.Errorf("%d, %d bytes, at %d: %d %d", c.flags, c.data, seq, Space(s), Next(s))
			}
		}
	}
	if got := Next(api.Segment{Seq: 0xffffffff, Flags: api.SYN, Data: []byte{1, 2}}); got != 2 {
		t.Error(got)
	}
}

func TestPlain(t *testing.T) {
	want := api.Segment{Src: 1, Dst: 2, Seq: 3, Ack: 4, Flags: 5, Window: 65535}
	if got := Plain(1, 2, 3, 4, 5); !same(got, want) {
		t.Error(got)
	}
	if got := Plain(0, 0, 0, 0, 0); !same(got, api.Segment{Window: 65535}) {
		t.Error(got)
	}
}

// P9.4

func TestSegmentsComeBack(t *testing.T) {
	r := rand.New(rand.NewSource(9))
	for range 3000 {
		s := api.Segment{
			Src: uint16(r.Uint32()), Dst: uint16(r.Uint32()), Seq: r.Uint32(), Ack: r.Uint32(), Res: byte(r.Intn(16)), Flags: byte(r.Intn(256)),
			Window: uint16(r.Uint32()), Urgent: uint16(r.Uint32()), Options: make([]byte, 4*r.Intn(11)), Data: make([]byte, r.Intn(40)),
		}
		r.Read(s.Options)
		r.Read(s.Data)
		src, dst := r.Uint32(), r.Uint32()
		b, e := Put(src, dst, s)
		if e != api.OK {
			t.Errorf("%v: %d", s, e)
		}
		if got, e := Parse(src, dst, b); !same(got, s) || e != api.OK {
			t.Errorf("%v: %v %d", s, got, e)
		}
	}
}
