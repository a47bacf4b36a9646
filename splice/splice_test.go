package splice

import (
	"bytes"
	"math"
	"math/rand"
	"reflect"
	"testing"

	"linkboy/api"
	"linkboy/octet"
	"linkboy/roomy"
	"linkboy/tcp"
)

// entry answers a proxied entry of a client at 9:40000, who came for 5:80.
func entry() api.Entry {
	f := api.Flow{Src: 9, Dst: 5, SrcPort: 40000, DstPort: 80, Proto: 6}
	return api.Entry{Flow: f, Backend: 3, Phase: 2, At: 7, Proxied: true, Joined: true, Port: 1025, Shift: 1000, First: 77}
}

func conf() api.Config {
	return api.Config{Addrs: [2]uint32{100, 200}}
}

// P28.1

func TestThere(t *testing.T) {
	want := Turn{Src: 200, Dst: 300, SrcPort: 1025, DstPort: 8080, Ack: 1000}
	if got := There(entry(), conf(), 300, 8080); got != want {
		t.Error(got)
	}
	if got := There(api.Entry{Shift: math.MaxUint32}, api.Config{}, 0, 0); got != (Turn{Ack: math.MaxUint32}) {
		t.Error(got)
	}
}

func TestHere(t *testing.T) {
	want := Turn{Src: 5, Dst: 9, SrcPort: 80, DstPort: 40000, Seq: math.MaxUint32 - 999}
	if got := Here(entry()); got != want {
		t.Error(got)
	}
	for shift, want := range map[uint32]uint32{0: 0, 1: math.MaxUint32, math.MaxUint32: 1, 1 << 31: 1 << 31} {
		if got := Here(api.Entry{Shift: shift}); got != (Turn{Seq: want}) {
			t.Error(shift, got)
		}
	}
}

// P28.2

// segment answers one whose fields are all told.
func segment() api.Segment {
	return api.Segment{Src: 1, Dst: 2, Seq: 10, Ack: 20, Res: 3, Flags: api.ACK | api.PSH, Window: 4, Urgent: 5, Options: []byte{1, 1, 1, 0}, Data: []byte{7, 8, 9}}
}

func TestApply(t *testing.T) {
	turn := Turn{Src: 91, Dst: 92, SrcPort: 81, DstPort: 82, Seq: 1000, Ack: 2000}
	want := segment()
	want.Src, want.Dst, want.Seq, want.Ack = 81, 82, 1010, 2020
	if got := Apply(turn, segment()); !reflect.DeepEqual(got, want) {
		t.Error(got)
	}
	for _, flags := range []byte{0, api.SYN, api.RST | api.FIN, 255 - api.ACK} {
		s := segment()
		s.Flags = flags
		if got := Apply(turn, s); got.Ack != 20 || got.Seq != 1010 || got.Flags != flags {
			t.Error(flags, got)
		}
	}
	if got := Apply(Turn{}, api.Segment{Src: 1, Dst: 2}); !reflect.DeepEqual(got, api.Segment{}) {
		t.Error(got)
	}
}

func TestApplyGoesRound(t *testing.T) {
	s := segment()
	s.Seq, s.Ack = math.MaxUint32, math.MaxUint32-1
	if got := Apply(Turn{Seq: 5, Ack: 1}, s); got.Seq != 4 || got.Ack != math.MaxUint32 {
		t.Error(got)
	}
	if got := Apply(Turn{Seq: 1, Ack: 2}, s); got.Seq != 0 || got.Ack != 0 {
		t.Error(got)
	}
}

// TestApplyIsApart has a segment that may not be, too: it stays as it is.
func TestApplyIsApart(t *testing.T) {
	s := segment()
	s.Options, s.Data, s.Res = roomy.Bytes(1, 2, 3), roomy.Bytes(4, 5), 200
	got := Apply(Turn{Seq: 1}, s)
	if !bytes.Equal(got.Options, []byte{1, 2, 3}) || !bytes.Equal(got.Data, []byte{4, 5}) || got.Res != 200 {
		t.Error(got)
	}
	if !roomy.Untouched(s.Options, 1, 2, 3) || !roomy.Untouched(s.Data, 4, 5) || !roomy.Apart(got.Options, s.Options) || !roomy.Apart(got.Data, s.Data) {
		t.Error("what is answered is shared")
	}
}

// P28.3

func TestBytes(t *testing.T) {
	turn := Turn{Src: 0x0a010001, Dst: 0x0a010009, SrcPort: 1025, DstPort: 8080, Seq: 1000, Ack: 1 << 31}
	b, _ := tcp.Put(9, 5, segment())
	raw := octet.Join(b)
	b = roomy.Bytes(b...)
	want, _ := tcp.Put(turn.Src, turn.Dst, Apply(turn, segment()))
	got, e := Bytes(9, 5, b, turn)
	if e != api.OK || !bytes.Equal(got, want) {
		t.Error(got, want, e)
	}
	if !roomy.Untouched(b, raw...) || !roomy.Apart(b, got) {
		t.Error("what was handed in is shared, or changed")
	}
	if _, e := tcp.Parse(turn.Src, turn.Dst, got); e != api.OK {
		t.Error(e)
	}
}

func TestBytesWrong(t *testing.T) {
	b, _ := tcp.Put(9, 5, segment())
	with := func(at int, x byte) []byte {
		l := octet.Join(b)
		l[at] = x
		return l
	}
	for _, x := range []struct {
		b    []byte
		want api.Errno
	}{
		{nil, api.ErrShort}, {b[:19], api.ErrShort}, {b[:23], api.ErrShort}, {with(12, 79), api.ErrForm}, {make([]byte, 65536), api.ErrForm},
		{b[:26], api.ErrSum}, {with(16, b[16]+1), api.ErrSum}, {with(0, 9), api.ErrSum},
	} {
		if got, e := Bytes(9, 5, x.b, Turn{Seq: 1}); e != x.want || len(got) != 0 {
			t.Error(len(x.b), got, e)
		}
	}
	if got, e := Bytes(9, 6, b, Turn{Src: 9, Dst: 5}); e != api.ErrSum || len(got) != 0 {
		t.Error("between others", got, e)
	}
}

// TestBytesOfTwoZeros has a sum that may stand as 0 or as 65535: turned it is right in both.
func TestBytesOfTwoZeros(t *testing.T) {
	s := segment()
	for n := range 65536 {
		s.Window = uint16(n)
		b, _ := tcp.Put(9, 5, s)
		if b[16] != 0 || b[17] != 0 {
			continue
		}
		turn := Turn{Src: 7, Dst: 8, SrcPort: 9, DstPort: 10, Seq: 11, Ack: 12}
		want, _ := tcp.Put(7, 8, Apply(turn, s))
		if got, e := Bytes(9, 5, b, turn); e != api.OK || !bytes.Equal(got, want) {
			t.Error(n, got, want, e)
		}
		b[16], b[17] = 255, 255
		if got, e := Bytes(9, 5, b, turn); e != api.OK || !bytes.Equal(got, want) {
			t.Error(n, got, want, e)
		}
		return
	}
	t.Error("no sum is 0")
}

// any32 answers a number, often one at an edge.
func any32(r *rand.Rand) uint32 {
	switch r.Intn(4) {
	case 0:
		return uint32(r.Intn(3)) - 1
	case 1:
		return uint32(r.Intn(3)-1) << 16
	}
	return r.Uint32()
}

func anySegment(r *rand.Rand) api.Segment {
	s := api.Segment{Src: uint16(any32(r)), Dst: uint16(any32(r)), Seq: any32(r), Ack: any32(r), Res: byte(r.Intn(16)), Flags: byte(r.Intn(256)), Window: uint16(any32(r))}
	s.Options, s.Data = make([]byte, 4*r.Intn(11)), make([]byte, r.Intn(9))
	r.Read(s.Options)
	r.Read(s.Data)
	return s
}

func anyTurn(r *rand.Rand) Turn {
	return Turn{Src: any32(r), Dst: any32(r), SrcPort: uint16(any32(r)), DstPort: uint16(any32(r)), Seq: any32(r), Ack: any32(r)}
}

func TestBytesOfPut(t *testing.T) {
	r := rand.New(rand.NewSource(28))
	for range 5000 {
		s, turn, src, dst := anySegment(r), anyTurn(r), any32(r), any32(r)
		b, _ := tcp.Put(src, dst, s)
		want, _ := tcp.Put(turn.Src, turn.Dst, Apply(turn, s))
		if got, e := Bytes(src, dst, b, turn); e != api.OK || !bytes.Equal(got, want) {
			t.Fatal(s, turn, src, dst, got, want, e)
		}
	}
}

// P28.4

func TestApplyBack(t *testing.T) {
	r := rand.New(rand.NewSource(284))
	for range 5000 {
		s, turn := anySegment(r), anyTurn(r)
		back := Turn{SrcPort: s.Src, DstPort: s.Dst, Seq: -turn.Seq, Ack: -turn.Ack}
		there := Apply(turn, s)
		if got := Apply(back, there); !reflect.DeepEqual(got, s) {
			t.Fatal(s, turn, got)
		}
		if !bytes.Equal(there.Data, s.Data) || tcp.Next(there) != tcp.Next(s)+turn.Seq {
			t.Fatal(s, turn, there)
		}
	}
}

// TestThereAndHere has one who answers what came: the numbers are those that were sent.
func TestThereAndHere(t *testing.T) {
	e := entry()
	for _, shift := range []uint32{0, 1, 1000, 1 << 31, math.MaxUint32} {
		e.Shift = shift
		s := segment()
		there := Apply(There(e, conf(), 300, 8080), s)
		answer := api.Segment{Src: there.Dst, Dst: there.Src, Seq: there.Ack, Ack: tcp.Next(there), Flags: api.ACK}
		here := Apply(Here(e), answer)
		if here.Seq != s.Ack || here.Ack != tcp.Next(s) || here.Src != 80 || here.Dst != 40000 {
			t.Error(shift, here)
		}
	}
}
