package ipv4

import (
	"bytes"
	"math/rand"
	"reflect"
	"testing"

	"linkboy/api"
	"linkboy/octet"
	"linkboy/roomy"
	"linkboy/sum"
)

// plain answers a packet without options, and its bytes.
func plain() (api.Packet, []byte) {
	p := api.Packet{DF: true, TTL: 64, Proto: 17, Src: 0xc0a80001, Dst: 0xc0a800c7, Data: make([]byte, 95)}
	head := []byte{0x45, 0, 0, 0x73, 0, 0, 0x40, 0, 0x40, 0x11, 0xb8, 0x61, 0xc0, 0xa8, 0, 1, 0xc0, 0xa8, 0, 0xc7}
	return p, append(head, p.Data...)
}

// full answers a packet that has something in each field.
func full() api.Packet {
	return api.Packet{
		TOS: 0xab, ID: 0x1234, MF: true, Off: 0x1abc, TTL: 7, Proto: 6, Src: 0x01020304, Dst: 0x05060708,
		Options: []byte{7, 4, 4, 0, 1, 1, 1, 0}, Data: []byte{9, 8, 7},
	}
}

// same tells whether two packets are alike, and nil and empty lists too.
func same(a, b api.Packet) bool {
	lists := bytes.Equal(a.Options, b.Options) && bytes.Equal(a.Data, b.Data)
	a.Options, a.Data, b.Options, b.Data = nil, nil, nil, nil
	return lists && reflect.DeepEqual(a, b)
}

// put answers the bytes of a packet that may be.
func put(t *testing.T, p api.Packet) []byte {
	t.Helper()
	b, e := Put(p)
	if e != api.OK {
		t.Fatalf("%v: %d", p, e)
	}
	return b
}

// righted answers bytes with the sum of their head's first bytes made right.
func righted(b []byte, size int) []byte {
	b, _ = octet.Set16(b, 10, 0)
	b, _ = octet.Set16(b, 10, sum.Of(b[:size]))
	return b
}

// P6.1

func TestPut(t *testing.T) {
	p, b := plain()
	if got := put(t, p); !bytes.Equal(got, b) {
		t.Errorf("% x", got)
	}
	if got := put(t, api.Packet{}); len(got) != 20 || got[0] != 69 {
		t.Errorf("% x", got)
	}
	want := []byte{
		0x47, 0xab, 0, 31, 0x12, 0x34, 0x3a, 0xbc, 7, 6, 0, 0, 1, 2, 3, 4, 5, 6, 7, 8,
		7, 4, 4, 0, 1, 1, 1, 0, 9, 8, 7,
	}
	if got := put(t, full()); !bytes.Equal(got, righted(want, 28)) || !sum.Right(got[:28]) {
		t.Errorf("% x", got)
	}
}

func TestPutFlags(t *testing.T) {
	for _, c := range []struct {
		p    api.Packet
		want uint16
	}{
		{api.Packet{}, 0},
		{api.Packet{DF: true}, 0x4000},
		{api.Packet{MF: true}, 0x2000},
		{api.Packet{DF: true, MF: true, Off: 8191}, 0x7fff},
		{api.Packet{Off: 1}, 1},
	} {
		if got, _ := octet.Get16(put(t, c.p), 6); got != c.want {
			t.Errorf("%v: %x", c.p, got)
		}
	}
}

func TestMayBe(t *testing.T) {
	for _, c := range []struct {
		name               string
		options, data, off int
		want               api.Errno
	}{
		{"nothing", 0, 0, 0, api.OK},
		{"as many options as may be", 40, 0, 0, api.OK},
		{"too many options", 44, 0, 0, api.ErrArg},
		{"far too many options", 400, 0, 0, api.ErrArg},
		{"options of 1", 1, 0, 0, api.ErrArg},
		{"options of 2", 2, 0, 0, api.ErrArg},
		{"options of 3", 3, 0, 0, api.ErrArg},
		{"options of 4", 4, 0, 0, api.OK},
		{"options of 38", 38, 0, 0, api.ErrArg},
		{"options of 41", 41, 0, 0, api.ErrArg},
		{"the farthest off", 0, 0, 8191, api.OK},
		{"too far off", 0, 0, 8192, api.ErrArg},
		{"much too far off", 0, 0, 65535, api.ErrArg},
		{"as much data as may be", 0, 65515, 0, api.OK},
		{"too much data", 0, 65516, 0, api.ErrArg},
		{"much too much data", 0, 65536 + 10, 0, api.ErrArg},
		{"as much data as may be behind options", 40, 65475, 0, api.OK},
		{"too much data behind options", 40, 65476, 0, api.ErrArg},
	} {
		p := api.Packet{Options: make([]byte, c.options), Data: make([]byte, c.data), Off: uint16(c.off)}
		if got := Check(p); got != c.want {
			t.Errorf("%s: Check: %d", c.name, got)
		}
		b, e := Put(p)
		if e != c.want || e == api.OK && len(b) != 20+c.options+c.data || e != api.OK && len(b) != 0 {
			t.Errorf("%s: Put: %d bytes, %d", c.name, len(b), e)
		}
	}
}

// P6.2

func TestParse(t *testing.T) {
	p, b := plain()
	if got, e := Parse(b); !same(got, p) || e != api.OK {
		t.Error(got, e)
	}
	if got, e := Parse(append(b, 1, 2, 3)); !same(got, p) || e != api.OK {
		t.Error("with bytes behind", got, e)
	}
	if got, e := Parse(put(t, full())); !same(got, full()) || e != api.OK {
		t.Error(got, e)
	}
	head := put(t, api.Packet{Options: make([]byte, 40)})
	if got, e := Parse(head); len(got.Options) != 40 || len(got.Data) != 0 || e != api.OK {
		t.Error("a greatest head alone", got, e)
	}
}

func TestParseTakesASumOf65535(t *testing.T) {
	b := put(t, api.Packet{})
	b = righted(b, 20)
	s, _ := octet.Get16(b, 10)
	b, _ = octet.Set16(b, 4, s) // then the sum of the others is full
	b = righted(b, 20)
	if s, _ = octet.Get16(b, 10); s != 0 {
		t.Fatalf("%x", s)
	}
	b, _ = octet.Set16(b, 10, 65535)
	if _, e := Parse(b); e != api.OK {
		t.Error(e)
	}
}

// wrong is a packet that is refused, and why.
type wrong struct {
	name string
	b    []byte
	want api.Errno
}

// wrongs answers packets in which one thing or several are wrong, in the order in which they are looked at.
func wrongs(t *testing.T) []wrong {
	b := put(t, full())
	with := func(at int, x byte) []byte {
		out := bytes.Clone(b)
		out[at] = x
		return out
	}
	long := func(n uint16) []byte {
		out, _ := octet.Set16(b, 2, n)
		return out
	}
	both := long(32)
	both[6] |= 128
	out := []wrong{
		{"nil", nil, api.ErrShort},
		{"a first byte of 68", righted(with(0, 68), 20), api.ErrForm},
		{"a first byte of 80", righted(with(0, 80), 20), api.ErrForm},
		{"a first byte of 0", with(0, 0), api.ErrForm},
		{"a first byte of 0x65", with(0, 0x65), api.ErrForm},
		{"a first byte of 255, and few bytes", with(0, 255)[:20], api.ErrForm},
		{"a first byte of 68, and fewer", with(0, 68)[:19], api.ErrShort},
		{"a head that isn't all there, nor right", with(1, 0)[:27], api.ErrShort},
		{"a head of 15 words, not all there", with(0, 79), api.ErrShort},
		{"another TOS", with(1, 0xaa), api.ErrSum},
		{"another sum", with(11, b[11]^1), api.ErrSum},
		{"other options", with(27, 1), api.ErrSum},
		{"a wrong sum, the highest bit and a wrong number", with(6, 128), api.ErrSum},
		{"the highest bit", righted(with(6, 0xba), 28), api.ErrForm},
		{"the highest bit, and too many bytes", righted(both, 28), api.ErrForm},
		{"no bytes in all", righted(long(0), 28), api.ErrForm},
		{"fewer bytes than the head", righted(long(27), 28), api.ErrForm},
		{"a byte too many", righted(long(32), 28), api.ErrShort},
		{"65535 bytes", righted(long(65535), 28), api.ErrShort},
	}
	for n := range 20 {
		out = append(out, wrong{"fewer than 20", b[:n], api.ErrShort})
	}
	for n := 20; n < len(b); n++ {
		out = append(out, wrong{"fewer than all", b[:n], api.ErrShort})
	}
	return out
}

func TestParseRefuses(t *testing.T) {
	for _, c := range wrongs(t) {
		if got, e := Parse(c.b); e != c.want || !reflect.DeepEqual(got, api.Packet{}) {
			t.Errorf("%s (%d bytes): %v %d", c.name, len(c.b), got, e)
		}
	}
	b, _ := octet.Set16(put(t, full()), 2, 28)
	if got, e := Parse(righted(b, 28)); e != api.OK || len(got.Data) != 0 {
		t.Error("as many bytes as the head", got, e)
	}
}

func TestNothingIsShared(t *testing.T) {
	p := full()
	p.Options, p.Data = roomy.Bytes(1, 1, 1, 0), roomy.Bytes(5, 6)
	b := put(t, p)
	if !roomy.Apart(p.Options, b) || !roomy.Apart(p.Data, b) || !roomy.Untouched(p.Options, 1, 1, 1, 0) || !roomy.Untouched(p.Data, 5, 6) {
		t.Error("Put changes or shares what was handed in")
	}
	in := roomy.Bytes(b...)
	got, _ := Parse(in)
	if !roomy.Apart(in, got.Options) || !roomy.Apart(in, got.Data) || !roomy.Apart(got.Data, got.Options) || !roomy.Untouched(in, b...) {
		t.Error("Parse changes or shares what was handed in")
	}
	turned, _ := Turn(in, 3)
	if !roomy.Apart(in, turned) || !roomy.Untouched(in, b...) {
		t.Error("Turn changes or shares what was handed in")
	}
}

// P6.3

func TestSize(t *testing.T) {
	for _, n := range []int{0, 1, 4, 40, 44} {
		if got := Size(api.Packet{Options: make([]byte, n), Data: make([]byte, 3)}); got != 20+n {
			t.Errorf("%d: %d", n, got)
		}
	}
}

func TestPart(t *testing.T) {
	for _, c := range []struct {
		p    api.Packet
		want bool
	}{
		{api.Packet{}, false}, {api.Packet{DF: true}, false}, {api.Packet{MF: true}, true}, {api.Packet{Off: 1}, true},
		{api.Packet{Off: 8191}, true}, {api.Packet{Off: 8192}, true}, {api.Packet{MF: true, Off: 5}, true},
	} {
		if got := Part(c.p); got != c.want {
			t.Errorf("%v: %v", c.p, got)
		}
	}
}

func TestTurn(t *testing.T) {
	for _, p := range []api.Packet{full(), {TTL: 255, Data: []byte{1}}, {TTL: 1, Proto: 255, Options: make([]byte, 40)}} {
		b := put(t, p)
		for ttl := range 256 {
			want := p
			want.TTL = byte(ttl)
			got, ok := Turn(append(bytes.Clone(b), 1, 2, 3), byte(ttl))
			if !ok || !bytes.Equal(got, put(t, want)) {
				t.Errorf("%v, to %d: % x %v", p, ttl, got, ok)
			}
		}
	}
}

// TestTurnTurns: the sum is turned, not made anew, so that one of 65535 turns as it stands.
func TestTurnTurns(t *testing.T) {
	b, _ := octet.Set16(put(t, api.Packet{TTL: 9, Proto: 1}), 4, 0)
	s, _ := octet.Get16(b, 10)
	b, _ = octet.Set16(b, 4, s)
	b, _ = octet.Set16(b, 10, 65535)
	for _, ttl := range []byte{0, 8, 9, 10, 255} {
		got, ok := Turn(b, ttl)
		n, _ := octet.Get16(got, 10)
		if !ok || n != sum.Turn(65535, 9<<8|1, uint16(ttl)<<8|1) || !sum.Right(got) {
			t.Errorf("to %d: % x %v", ttl, got, ok)
		}
	}
}

func TestTurnRefuses(t *testing.T) {
	for _, c := range wrongs(t) {
		if got, ok := Turn(c.b, 9); ok || len(got) != 0 {
			t.Errorf("%s (%d bytes): % x %v", c.name, len(c.b), got, ok)
		}
	}
}

// P6.4

// some answers a packet that may be.
func some(r *rand.Rand) api.Packet {
	p := api.Packet{
		TOS: byte(r.Intn(256)), ID: uint16(r.Intn(65536)), DF: r.Intn(2) == 0, MF: r.Intn(2) == 0, Off: uint16(r.Intn(8192)), TTL: byte(r.Intn(256)),
		Proto: byte(r.Intn(256)), Src: r.Uint32(), Dst: r.Uint32(), Options: make([]byte, 4*r.Intn(11)), Data: make([]byte, r.Intn(50)),
	}
	r.Read(p.Options)
	r.Read(p.Data)
	return p
}

func TestPacketsComeBack(t *testing.T) {
	r := rand.New(rand.NewSource(6))
	for range 2000 {
		p := some(r)
		b := put(t, p)
		got, e := Parse(b)
		if e != api.OK || !same(got, p) {
			t.Errorf("%v: %v %d", p, got, e)
		}
		if again := put(t, got); !bytes.Equal(again, b) {
			t.Errorf("% x: % x", b, again)
		}
	}
	p := api.Packet{Data: make([]byte, 65515)}
	p.Data[65514] = 1
	if got, e := Parse(put(t, p)); e != api.OK || !same(got, p) {
		t.Error("the greatest packet", e)
	}
}

// TestBytesAreTheirPackets goes through bytes that needn't be a packet: those that are one are its bytes.
func TestBytesAreTheirPackets(t *testing.T) {
	r := rand.New(rand.NewSource(7))
	taken := 0
	for range 20000 {
		b := make([]byte, 20+r.Intn(60))
		r.Read(b)
		b[0] = byte(66 + r.Intn(16))
		b[2], b[3] = 0, byte(r.Intn(80))
		size := min(len(b), 4*int(b[0]&15))
		if r.Intn(8) > 0 && size >= 20 {
			b = righted(b, size)
		}
		p, e := Parse(b)
		if e != api.OK {
			continue
		}
		taken++
		all := 20 + len(p.Options) + len(p.Data)
		if all != int(b[3]) || !bytes.Equal(put(t, p), b[:all]) {
			t.Errorf("% x: %v", b, p)
		}
	}
	if taken < 1000 {
		t.Error(taken)
	}
}
