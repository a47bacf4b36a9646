package proxy

import (
	"math"
	"math/rand"
	"reflect"
	"testing"

	"linkboy/api"
	"linkboy/cookie"
	"linkboy/roomy"
	"linkboy/tcp"
)

var (
	one = api.Key{Lo: 1, Hi: 2}
	two = api.Key{Lo: 3, Hi: 4}
	who = api.Flow{Src: 0x0a000009, Dst: 0x0a000064, SrcPort: 40000, DstPort: 80, Proto: 6}
)

// secrets answers two keys.
func secrets() cookie.Secrets {
	return cookie.Secrets{Now: one, Last: two, Epoch: 5}
}

// begin answers a client's first segment.
func begin(seq uint32, options ...byte) api.Segment {
	return api.Segment{Src: 40000, Dst: 80, Seq: seq, Flags: api.SYN, Window: 500, Options: options}
}

// P38.1

func TestOffer(t *testing.T) {
	for _, x := range []struct {
		options []byte
		i       int
		mss     uint16
	}{
		{nil, 1, 536},
		{[]byte{2, 4, 5, 180}, 7, 1460},
		{[]byte{2, 4, 5, 179}, 6, 1440},
		{[]byte{2, 4, 255, 255}, 7, 1460},
		{[]byte{2, 4, 0, 0}, 0, 216},
		{[]byte{2, 4, 0, 215}, 0, 216},
		{[]byte{2, 4, 0, 216}, 0, 216},
		{[]byte{2, 4, 2, 23}, 0, 216},
		{[]byte{2, 4, 2, 24}, 1, 536},
		{[]byte{1, 3, 3, 7, 2, 4, 3, 228}, 2, 996},
		{[]byte{2, 4, 5}, 1, 536},
		{[]byte{2, 3, 5, 1}, 1, 536},
		{[]byte{0, 2, 4, 5, 180, 0, 0, 0}, 1, 536},
	} {
		want := api.Segment{Src: 80, Dst: 40000, Seq: cookie.Make(one, who, 1000, 5, x.i), Ack: 1001, Flags: 18, Window: 65535, Options: []byte{2, 4, byte(x.mss >> 8), byte(x.mss)}}
		if got := Offer(secrets(), who, begin(1000, x.options...)); !reflect.DeepEqual(got, want) {
			t.Error(x, got)
		}
		if cookie.Place(want.Seq) != x.i {
			t.Error(x)
		}
	}
	// The flow says between whom it goes, and the segment's ports play no part.
	s := begin(math.MaxUint32)
	s.Src, s.Dst, s.Ack, s.Flags = 1, 2, 3, 0
	if got := Offer(secrets(), who, s); got.Ack != 0 || got.Src != 80 || got.Dst != 40000 || got.Flags != 18 || got.Seq != cookie.Make(one, who, math.MaxUint32, 5, 1) {
		t.Error(got)
	}
}

func TestOfferIsApart(t *testing.T) {
	s := begin(1)
	s.Options = roomy.Bytes(2, 4, 5, 180)
	got := Offer(secrets(), who, s)
	if !roomy.Untouched(s.Options, 2, 4, 5, 180) || !roomy.Apart(got.Options, s.Options) {
		t.Error("the options are shared")
	}
}

// P38.2

// answer answers the segment of a client that takes up an offer.
func answer(k api.Key, epoch, i int) api.Segment {
	return api.Segment{Src: 40000, Dst: 80, Seq: 1001, Ack: cookie.Make(k, who, 1000, epoch, i) + 1, Flags: api.ACK}
}

func TestAccept(t *testing.T) {
	for i := range 8 {
		if got, ok := Accept(secrets(), who, answer(one, 5, i)); got != i || !ok {
			t.Error(i, got, ok)
		}
		if got, ok := Accept(secrets(), who, answer(two, 4, i)); got != i || !ok {
			t.Error(i, got, ok)
		}
		for j, s := range []api.Segment{answer(one, 4, i), answer(two, 5, i), answer(one, 6, i), answer(two, 3, i)} {
			if got, ok := Accept(secrets(), who, s); got != 0 || ok {
				t.Error(i, j, got, ok)
			}
		}
	}
	for flags := range 256 {
		s := answer(one, 5, 3)
		s.Flags = byte(flags)
		want := flags&api.ACK != 0 && flags&api.SYN == 0 && flags&api.RST == 0
		if got, ok := Accept(secrets(), who, s); ok != want || !ok && got != 0 || ok && got != 3 {
			t.Error(flags, got, ok)
		}
	}
	for i, change := range []func(s *api.Segment){func(s *api.Segment) { s.Seq++ }, func(s *api.Segment) { s.Seq-- }, func(s *api.Segment) { s.Ack++ }, func(s *api.Segment) { s.Ack-- }} {
		s := answer(one, 5, 3)
		change(&s)
		if got, ok := Accept(secrets(), who, s); got != 0 || ok {
			t.Error(i, got, ok)
		}
	}
	other := who
	other.Src++
	if got, ok := Accept(secrets(), other, answer(one, 5, 3)); got != 0 || ok {
		t.Error(got, ok)
	}
	s := answer(one, 5, 3)
	s.Src, s.Dst, s.Data, s.Window = 1, 2, []byte{7}, 0
	if got, ok := Accept(secrets(), who, s); got != 3 || !ok {
		t.Error("more than numbers and flags plays a part", got, ok)
	}
}

func TestOpen(t *testing.T) {
	want := api.Entry{Flow: who, Backend: 7, Phase: 1, Proxied: true, Port: 1025, Shift: 99, First: 49}
	if got := Open(who, 7, 1025, api.Segment{Seq: 50, Ack: 100}); got != want {
		t.Error(got)
	}
	want = api.Entry{Phase: 1, Proxied: true, Shift: math.MaxUint32, First: math.MaxUint32}
	if got := Open(api.Flow{}, 0, 0, api.Segment{}); got != want {
		t.Error(got)
	}
}

// P38.3

// entry answers one that isn't joined.
func entry() api.Entry {
	return api.Entry{Flow: who, Backend: 7, Phase: 1, At: 55, Proxied: true, Port: 1025, Shift: 99, First: 49}
}

func TestCall(t *testing.T) {
	for i, size := range map[int]uint16{0: 216, 7: 1460, 8: 0, -1: 0} {
		want := api.Segment{Src: 1025, Dst: 8080, Seq: 49, Flags: api.SYN, Window: 65535, Options: []byte{2, 4, byte(size >> 8), byte(size)}}
		if got := Call(entry(), 8080, i); !reflect.DeepEqual(got, want) {
			t.Error(i, got)
		}
	}
}

func TestJoin(t *testing.T) {
	for flags := range 256 {
		s := api.Segment{Seq: 1000, Ack: 50, Flags: byte(flags)}
		want, join := entry(), flags&18 == 18 && flags&api.RST == 0
		if join {
			want.Phase, want.Joined, want.Shift = 2, true, 901
		}
		if got, ok := Join(entry(), s); got != want || ok != join {
			t.Error(flags, got, ok)
		}
	}
	s := api.Segment{Seq: 1000, Ack: 50, Flags: api.SYN | api.ACK}
	joined := entry()
	joined.Joined = true
	if got, ok := Join(joined, s); got != joined || ok {
		t.Error(got, ok)
	}
	for _, n := range []uint32{0, 49, 51, 100} {
		s.Ack = n
		if got, ok := Join(entry(), s); got != entry() || ok {
			t.Error(n, got, ok)
		}
	}
	e := entry()
	e.First, e.Shift = math.MaxUint32, 1001
	s.Ack = 0
	if got, ok := Join(e, s); !ok || got.Shift != math.MaxUint32 || got.First != math.MaxUint32 {
		t.Error(got, ok)
	}
}

func TestGreet(t *testing.T) {
	want := api.Segment{Src: 1025, Dst: 8080, Seq: 50, Ack: 1001, Flags: api.ACK, Window: 65535}
	if got := Greet(entry(), 8080, api.Segment{Seq: 1000, Ack: 7, Flags: api.SYN, Data: []byte{1}}); !reflect.DeepEqual(got, want) {
		t.Error(got)
	}
	e := entry()
	e.First = math.MaxUint32
	if got := Greet(e, 1, api.Segment{Seq: math.MaxUint32}); got.Seq != 0 || got.Ack != 0 {
		t.Error(got)
	}
}

func TestRefuse(t *testing.T) {
	want := api.Segment{Src: 80, Dst: 40000, Seq: 100, Ack: 50, Flags: api.RST | api.ACK, Window: 65535}
	if got := Refuse(entry()); !reflect.DeepEqual(got, want) {
		t.Error(got)
	}
	if got := Refuse(api.Entry{Shift: math.MaxUint32, First: math.MaxUint32}); got.Seq != 0 || got.Ack != 0 {
		t.Error(got)
	}
}

// P38.4

func TestWhoAnswersIsAccepted(t *testing.T) {
	r := rand.New(rand.NewSource(38))
	s := secrets()
	for range 500 {
		f := api.Flow{Src: r.Uint32(), Dst: r.Uint32(), SrcPort: uint16(r.Uint32()), DstPort: uint16(r.Uint32()), Proto: 6}
		first := api.Segment{Src: f.SrcPort, Dst: f.DstPort, Seq: r.Uint32(), Flags: api.SYN}
		mss := uint16(r.Intn(1600))
		first.Options = []byte{2, 4, byte(mss >> 8), byte(mss)}
		offer := Offer(s, f, first)
		b, e := tcp.Put(f.Dst, f.Src, offer)
		if back, e2 := tcp.Parse(f.Dst, f.Src, b); e != api.OK || e2 != api.OK || !reflect.DeepEqual(back.Options, offer.Options) {
			t.Fatal(offer, e, e2)
		}
		reply := tcp.Plain(f.SrcPort, f.DstPort, offer.Ack, tcp.Next(offer), api.ACK)
		for _, keys := range []cookie.Secrets{s, cookie.Fresh(s, two)} {
			i, ok := Accept(keys, f, reply)
			if !ok || i != cookie.Index(mss) {
				t.Fatal(f, first, i, ok)
			}
		}
		entry := Open(f, 1, 2, reply)
		if entry.First != first.Seq || entry.Shift != offer.Seq {
			t.Fatal(entry)
		}
		// The backend's first number, less the offer's, is what numbers are shifted by.
		call := Call(entry, 8080, 3)
		n := r.Uint32()
		answer := tcp.Plain(8080, entry.Port, n, tcp.Next(call), api.SYN|api.ACK)
		if joined, ok := Join(entry, answer); !ok || offer.Seq+joined.Shift != n || Greet(joined, 8080, answer).Seq != reply.Seq {
			t.Fatal(joined, ok)
		}
	}
}
