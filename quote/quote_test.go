package quote

import (
	"math/rand"
	"testing"

	"linkboy/api"
	"linkboy/flow"
	"linkboy/icmp"
	"linkboy/ipv4"
	"linkboy/octet"
	"linkboy/roomy"
	"linkboy/sum"
)

// sample answers a packet that one could tell of.
func sample() api.Packet {
	return api.Packet{DF: true, ID: 9, TTL: 5, Proto: 6, Src: 0x01020304, Dst: 0xf5f6f7f8, Data: []byte{0xab, 0xcd, 0x12, 0x34, 5, 6, 7, 8, 9}}
}

// sampled is its flow.
var sampled = api.Flow{Src: 0x01020304, Dst: 0xf5f6f7f8, SrcPort: 0xabcd, DstPort: 0x1234, Proto: 6}

// put answers the bytes of a packet that may be.
func put(t *testing.T, p api.Packet) []byte {
	t.Helper()
	b, e := ipv4.Put(p)
	if e != api.OK {
		t.Fatalf("%v: %d", p, e)
	}
	return b
}

// with answers bytes with others from a place on, and the sum of the head of that size right again.
func with(b []byte, size, at int, x ...byte) []byte {
	b = octet.Join(b[:at], x, b[at+len(x):])
	b, _ = octet.Set16(b, 10, 0)
	b, _ = octet.Set16(b, 10, sum.Of(b[:size]))
	return b
}

// P12.1

func TestOf(t *testing.T) {
	options := sample()
	options.Options = make([]byte, 40)
	for _, typ := range []byte{3, 11, 12} {
		for n := 24; n <= 29; n++ {
			if got, e := Of(api.Icmp{Type: typ, Code: 7, Rest: 8, Data: put(t, sample())[:n]}); got != sampled || e != api.OK {
				t.Errorf("%d bytes: %v %d", n, got, e)
			}
		}
		if got, e := Of(api.Icmp{Type: typ, Data: put(t, options)[:64]}); got != sampled || e != api.OK {
			t.Error("with options", got, e)
		}
	}
	udp := sample()
	udp.Proto = 17
	want := sampled
	want.Proto = 17
	if got, e := Of(api.Icmp{Type: 3, Data: put(t, udp)}); got != want || e != api.OK {
		t.Error("UDP", got, e)
	}
}

// TestOfLooksAtNoMore: how many bytes there are in all, and the highest bit by Off, play no part.
func TestOfLooksAtNoMore(t *testing.T) {
	b := put(t, sample())
	for _, n := range [][]byte{{0, 0}, {0, 20}, {0, 22}, {255, 255}} {
		if got, e := Of(api.Icmp{Type: 3, Data: with(b, 20, 2, n...)}); got != sampled || e != api.OK {
			t.Error(n, got, e)
		}
	}
	if got, e := Of(api.Icmp{Type: 3, Data: with(b, 20, 6, 0xc0)}); got != sampled || e != api.OK {
		t.Error("the highest bit", got, e)
	}
}

func TestOfRefuses(t *testing.T) {
	b := put(t, sample())
	long := sample()
	long.Options = make([]byte, 8)
	l := put(t, long)
	for _, c := range []struct {
		name string
		typ  byte
		b    []byte
		want api.Errno
	}{
		{"an echo", 8, b, api.ErrState},
		{"an answer", 0, b, api.ErrState},
		{"type 5", 5, b, api.ErrState},
		{"type 255, of nothing", 255, nil, api.ErrState},
		{"nothing", 3, nil, api.ErrShort},
		{"one byte that is wrong", 3, []byte{9}, api.ErrShort},
		{"19 bytes", 3, b[:19], api.ErrShort},
		{"19 bytes, the first one wrong", 3, with(b, 20, 0, 68)[:19], api.ErrShort},
		{"a first byte of 68", 3, with(b, 20, 0, 68), api.ErrForm},
		{"a first byte of 80", 3, with(b, 20, 0, 80), api.ErrForm},
		{"a first byte of 0x65, of 20 bytes", 3, with(b, 20, 0, 0x65)[:20], api.ErrForm},
		{"a head that isn't all there", 3, l[:27], api.ErrShort},
		{"a head that isn't all there, nor right", 3, octet.Join(l[:20], []byte{9}, l[21:27]), api.ErrShort},
		{"a head of 15 words that isn't there", 3, with(b, 20, 0, 79), api.ErrShort},
		{"a wrong head", 3, octet.Join(b[:8], []byte{99}, b[9:]), api.ErrSum},
		{"wrong options", 3, octet.Join(l[:27], []byte{99}, l[28:]), api.ErrSum},
		{"a wrong head of a fragment, short", 3, octet.Join(b[:6], []byte{0x20, 7}, b[8:20]), api.ErrSum},
		{"a first fragment", 3, with(b, 20, 6, 0x20, 0), api.ErrRange},
		{"a last fragment", 3, with(b, 20, 6, 0, 1), api.ErrRange},
		{"the farthest fragment", 3, with(b, 20, 6, 0x1f, 0xff), api.ErrRange},
		{"a fragment at 4096", 3, with(b, 20, 6, 0x10, 0), api.ErrRange},
		{"a fragment of ICMP, short", 3, with(with(b, 20, 6, 0, 1), 20, 9, 1)[:20], api.ErrRange},
		{"a short fragment", 3, with(b, 20, 6, 0, 1)[:20], api.ErrRange},
		{"ICMP", 3, with(b, 20, 9, 1), api.ErrForm},
		{"IPIP", 11, with(b, 20, 9, 4), api.ErrForm},
		{"ICMP, short", 12, with(b, 20, 9, 1)[:20], api.ErrForm},
		{"no data", 3, b[:20], api.ErrShort},
		{"3 bytes of data", 3, b[:23], api.ErrShort},
		{"3 bytes of data behind options", 3, l[:31], api.ErrShort},
	} {
		if got, e := Of(api.Icmp{Type: c.typ, Data: c.b}); got != (api.Flow{}) || e != c.want {
			t.Errorf("%s: %v %d", c.name, got, e)
		}
	}
}

func TestOfKeepsData(t *testing.T) {
	b := put(t, sample())
	in := roomy.Bytes(b...)
	Of(api.Icmp{Type: 3, Data: in})
	if !roomy.Untouched(in, b...) {
		t.Error("what was handed in is changed")
	}
}

// P12.2

func TestOfWhatFailed(t *testing.T) {
	r := rand.New(rand.NewSource(12))
	for range 3000 {
		p := api.Packet{
			TOS: byte(r.Intn(256)), ID: uint16(r.Uint32()), DF: r.Intn(2) == 0, TTL: byte(r.Intn(256)), Proto: 6 + 11*byte(r.Intn(2)),
			Src: r.Uint32(), Dst: r.Uint32(), Data: make([]byte, 4+r.Intn(40)),
		}
		r.Read(p.Data)
		want, e := flow.Of(p)
		if e != api.OK {
			t.Errorf("%v: %d", p, e)
		}
		m := icmp.Failed(3, byte(r.Intn(16)), r.Uint32(), put(t, p))
		if got, e := Of(m); got != want || e != api.OK {
			t.Errorf("%v: %v %d", p, got, e)
		}
	}
}
