package arp

import (
	"bytes"
	"math/rand"
	"testing"

	"linkboy/api"
	"linkboy/ether"
	"linkboy/octet"
	"linkboy/roomy"
)

var (
	one = api.Mac{2, 0, 0, 0, 0, 1}
	two = api.Mac{6, 5, 4, 3, 2, 1}
)

const (
	ip1 = 10<<24 | 1
	ip2 = 10<<24 | 2
)

// sample answers a packet and its bytes.
func sample() (api.Arp, []byte) {
	p := api.Arp{Op: 2, SrcMac: two, SrcIP: 0x0a0b0c0d, DstMac: one, DstIP: 0xf1f2f3f4}
	return p, []byte{0, 1, 8, 0, 6, 4, 0, 2, 6, 5, 4, 3, 2, 1, 10, 11, 12, 13, 2, 0, 0, 0, 0, 1, 0xf1, 0xf2, 0xf3, 0xf4}
}

// P5.1

func TestPutAndParse(t *testing.T) {
	p, b := sample()
	if got := Put(p); !bytes.Equal(got, b) {
		t.Errorf("% x", got)
	}
	if got, e := Parse(b); got != p || e != api.OK {
		t.Error(got, e)
	}
	if got, e := Parse(append(bytes.Clone(b), 9, 9, 9)); got != p || e != api.OK {
		t.Error("with bytes behind", got, e)
	}
	p.Op, b[7] = 1, 1
	if got, e := Parse(b); got != p || e != api.OK {
		t.Error("a request", got, e)
	}
	if got := Put(api.Arp{Op: 0x0304}); !bytes.Equal(got, append([]byte{0, 1, 8, 0, 6, 4, 3, 4}, make([]byte, 20)...)) {
		t.Errorf("of an unknown Op: % x", got)
	}
}

func TestParseRefuses(t *testing.T) {
	_, b := sample()
	for n := range len(b) {
		if got, e := Parse(b[:n]); got != (api.Arp{}) || e != api.ErrShort {
			t.Errorf("%d bytes: %v %d", n, got, e)
		}
	}
	refused := func(name string, b []byte) {
		if got, e := Parse(b); got != (api.Arp{}) || e != api.ErrForm {
			t.Errorf("%s: %v %d", name, got, e)
		}
		if _, e := Parse(b[:27]); e != api.ErrShort {
			t.Errorf("%s, 27 bytes: %d", name, e)
		}
	}
	for at := range 6 {
		wrong := bytes.Clone(b)
		wrong[at] ^= 1 << at
		refused("another kind", wrong)
	}
	for _, op := range []uint16{0, 3, 4, 256, 257, 258, 512, 65535} {
		wrong, _ := octet.Set16(b, 6, op)
		refused("another Op", wrong)
	}
	for _, m := range []api.Mac{{}, ether.All(), {1}, {3, 0, 0, 0, 0, 1}} {
		wrong := bytes.Clone(b)
		copy(wrong[8:], m[:])
		refused("from none", wrong)
	}
}

func TestParseTakesAnyAim(t *testing.T) {
	p, _ := sample()
	for _, m := range []api.Mac{{}, ether.All(), {1}} {
		p.DstMac, p.SrcIP, p.DstIP = m, 0, 0
		if got, e := Parse(Put(p)); got != p || e != api.OK {
			t.Error(got, e)
		}
	}
}

func TestParseKeepsBytes(t *testing.T) {
	_, b := sample()
	in := roomy.Bytes(b...)
	Parse(in)
	if !roomy.Untouched(in, b...) {
		t.Error("what was handed in is changed")
	}
}

// P5.2

func TestAsk(t *testing.T) {
	if got := Ask(one, ip1, ip2); got != (api.Arp{Op: 1, SrcMac: one, SrcIP: ip1, DstIP: ip2}) {
		t.Error(got)
	}
}

func TestAnswer(t *testing.T) {
	if got := Answer(Ask(one, ip1, ip2), two); got != (api.Arp{Op: 2, SrcMac: two, SrcIP: ip2, DstMac: one, DstIP: ip1}) {
		t.Error(got)
	}
	p := api.Arp{Op: 7, SrcMac: one, SrcIP: 1, DstMac: ether.All(), DstIP: 2}
	if got := Answer(p, two); got != (api.Arp{Op: 2, SrcMac: two, SrcIP: 2, DstMac: one, DstIP: 1}) {
		t.Error(got)
	}
}

func TestFrame(t *testing.T) {
	p, b := sample()
	for _, to := range []api.Mac{one, ether.All(), {}} {
		f := Frame(p, to)
		if f.Dst != to || f.Src != p.SrcMac || f.Type != 0x0806 || !bytes.Equal(f.Data, b) {
			t.Error(f)
		}
	}
}

// P5.3

func TestWhoAsksIsTold(t *testing.T) {
	r := rand.New(rand.NewSource(5))
	for range 500 {
		var asker, asked api.Mac
		r.Read(asker[:])
		r.Read(asked[:])
		asker[0], asked[0] = 2, 4
		from, want := r.Uint32(), r.Uint32()
		question, e := Parse(Put(Ask(asker, from, want)))
		if e != api.OK || question != Ask(asker, from, want) {
			t.Error(question, e)
		}
		reply, e := Parse(Put(Answer(question, asked)))
		if e != api.OK || reply.SrcMac != asked || reply.SrcIP != want || reply.DstMac != asker || reply.DstIP != from {
			t.Error(reply, e)
		}
		back := Answer(reply, asker)
		if back.SrcMac != question.SrcMac || back.SrcIP != question.SrcIP || back.DstIP != question.DstIP {
			t.Error(back)
		}
	}
}
