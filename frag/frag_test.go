package frag

import (
	"bytes"
	"math"
	"math/rand"
	"slices"
	"testing"

	"linkboy/api"
	"linkboy/ipv4"
	"linkboy/roomy"
)

// bytesOf answers n bytes that differ.
func bytesOf(n int) []byte {
	b := make([]byte, n)
	for i := range b {
		b[i] = byte(i*7 + i>>8)
	}
	return b
}

// of answers a packet of n bytes of Data.
func of(n int) api.Packet {
	return api.Packet{TOS: 3, ID: 77, TTL: 9, Proto: 17, Src: 1, Dst: 2, Data: bytesOf(n)}
}

// same tells whether packets are the same.
func same(a, b api.Packet) bool {
	return a.TOS == b.TOS && a.ID == b.ID && a.DF == b.DF && a.MF == b.MF && a.Off == b.Off && a.TTL == b.TTL && a.Proto == b.Proto &&
		a.Src == b.Src && a.Dst == b.Dst && bytes.Equal(a.Options, b.Options) && bytes.Equal(a.Data, b.Data)
}

// cut answers the piece of a packet from a place on.
func cut(p api.Packet, at, n int, mf bool) api.Packet {
	p.Off += uint16(at / 8)
	p.MF, p.Data = mf, p.Data[at:at+n]
	return p
}

// P43.1

func TestSplit(t *testing.T) {
	options := of(100)
	options.Options = []byte{1, 2, 3, 4, 5, 6, 7, 8}
	part := of(100)
	part.Off, part.MF = 5, true
	for _, x := range []struct {
		name string
		p    api.Packet
		mtu  int
		want []api.Packet
	}{
		{"the example", of(100), 68, []api.Packet{cut(of(100), 0, 48, true), cut(of(100), 48, 48, true), cut(of(100), 96, 4, false)}},
		{"no multiple of 8", of(100), 75, []api.Packet{cut(of(100), 0, 48, true), cut(of(100), 48, 48, true), cut(of(100), 96, 4, false)}},
		{"more than the multiple is left", of(10), 29, []api.Packet{cut(of(10), 0, 8, true), cut(of(10), 8, 2, false)}},
		{"just so many", of(96), 68, []api.Packet{cut(of(96), 0, 48, true), cut(of(96), 48, 48, false)}},
		{"it fits", of(100), 120, []api.Packet{of(100)}},
		{"one too great", of(100), 119, []api.Packet{cut(of(100), 0, 96, true), cut(of(100), 96, 4, false)}},
		{"no data", of(0), 20, []api.Packet{of(0)}},
		{"a great mtu", of(65515), math.MaxInt, []api.Packet{of(65515)}},
		{"options", options, 78, []api.Packet{cut(options, 0, 48, true), cut(options, 48, 48, true), cut(options, 96, 4, false)}},
		{"a piece", part, 68, []api.Packet{cut(part, 0, 48, true), cut(part, 48, 48, true), cut(part, 96, 4, true)}},
		{"a piece that fits", part, 120, []api.Packet{part}},
		{"the least mtu", of(20), 28, []api.Packet{cut(of(20), 0, 8, true), cut(of(20), 8, 8, true), cut(of(20), 16, 4, false)}},
	} {
		if got, e := Split(x.p, x.mtu); e != api.OK || !slices.EqualFunc(got, x.want, same) {
			t.Error(x.name, got, e)
		}
	}
}

func TestSplitOfNone(t *testing.T) {
	changed := func(n int, change func(p *api.Packet)) api.Packet {
		p := of(n)
		change(&p)
		return p
	}
	for _, x := range []struct {
		name string
		p    api.Packet
		mtu  int
		want api.Errno
	}{
		{"no packet", changed(10, func(p *api.Packet) { p.Options = []byte{1} }), 100, api.ErrArg},
		{"no packet, DF", changed(100, func(p *api.Packet) { p.Off, p.DF = 8192, true }), 68, api.ErrArg},
		{"too much", of(65516), math.MaxInt, api.ErrArg},
		{"mtu 27", of(100), 27, api.ErrArg},
		{"mtu 27, DF", changed(100, func(p *api.Packet) { p.DF = true }), 27, api.ErrArg},
		{"mtu 0", of(0), 0, api.ErrArg},
		{"mtu below 0", of(0), math.MinInt, api.ErrArg},
		{"options", changed(100, func(p *api.Packet) { p.Options = make([]byte, 8) }), 35, api.ErrArg},
		{"DF", changed(100, func(p *api.Packet) { p.DF = true }), 119, api.ErrBig},
		{"Off 8192", changed(100, func(p *api.Packet) { p.Off = 8180 }), 68, api.ErrArg},
		{"Off 8192, DF", changed(100, func(p *api.Packet) { p.Off, p.DF = 8180, true }), 68, api.ErrBig},
	} {
		if got, e := Split(x.p, x.mtu); e != x.want || len(got) != 0 {
			t.Error(x.name, got, e)
		}
	}
	if got, e := Split(changed(100, func(p *api.Packet) { p.DF = true }), 120); e != api.OK || len(got) != 1 || !got[0].DF {
		t.Error(got, e)
	}
	if got, e := Split(changed(100, func(p *api.Packet) { p.Off = 8179 }), 68); e != api.OK || got[2].Off != 8191 {
		t.Error(got, e)
	}
}

func TestSplitIsApart(t *testing.T) {
	p := of(20)
	p.Data, p.Options = roomy.Bytes(bytesOf(20)...), roomy.Bytes(1, 2, 3, 4)
	for _, mtu := range []int{100, 32} {
		l, e := Split(p, mtu)
		if e != api.OK || !roomy.Untouched(p.Data, bytesOf(20)...) || !roomy.Untouched(p.Options, 1, 2, 3, 4) {
			t.Error(l, e)
		}
		for i, x := range l {
			if !roomy.Apart(x.Data, p.Data) || !roomy.Apart(x.Options, p.Options) || i > 0 && (!roomy.Apart(x.Data, l[i-1].Data) || !roomy.Apart(x.Options, l[i-1].Options)) {
				t.Error("a piece is shared", i)
			}
		}
	}
}

// P43.2

func TestJoin(t *testing.T) {
	p := of(100)
	a, b, c := cut(p, 0, 48, true), cut(p, 48, 48, true), cut(p, 96, 4, false)
	for i, l := range [][]api.Packet{{a, b, c}, {c, b, a}, {b, c, a}, {a, b, c, b, a, c}, {a, cut(p, 8, 80, true), b, c}, {cut(p, 96, 4, false), cut(p, 0, 96, true)}, {p}, {p, p}} {
		if got, e := Join(l); e != api.OK || !same(got, p) {
			t.Error(i, got, e)
		}
	}
	if got, e := Join([]api.Packet{of(0)}); e != api.OK || !same(got, of(0)) {
		t.Error(got, e)
	}
	// One that only ends the whole has no Data of its own.
	if got, e := Join([]api.Packet{cut(of(96), 96, 0, false), cut(of(96), 0, 96, true)}); e != api.OK || !same(got, of(96)) {
		t.Error(got, e)
	}
}

// TestJoinFirst has pieces tell bytes, and heads, otherwise: the first one in the row does.
func TestJoinFirst(t *testing.T) {
	p, q := of(32), of(32)
	for i := range q.Data {
		q.Data[i] = 255
	}
	q.TOS, q.TTL, q.DF, q.Options = 8, 7, true, []byte{1, 1, 1, 1}
	got, e := Join([]api.Packet{cut(p, 8, 16, true), cut(q, 0, 16, true), cut(p, 0, 24, true), cut(q, 16, 16, false)})
	want := q
	want.Data = slices.Concat(q.Data[:8], p.Data[8:24], q.Data[24:])
	if e != api.OK || !same(got, want) {
		t.Error(got, e)
	}
	got, e = Join([]api.Packet{cut(p, 0, 8, true), cut(q, 0, 16, true), cut(q, 16, 16, false)})
	want = p
	want.Data = slices.Concat(p.Data[:8], q.Data[8:])
	if e != api.OK || !same(got, want) {
		t.Error(got, e)
	}
}

func TestJoinOfNone(t *testing.T) {
	p := of(100)
	a, b, c := cut(p, 0, 48, true), cut(p, 48, 48, true), cut(p, 96, 4, false)
	other := func(x api.Packet, change func(x *api.Packet)) api.Packet {
		change(&x)
		return x
	}
	far := other(of(8), func(x *api.Packet) { x.Off, x.MF = 8191, true })
	for _, x := range []struct {
		name string
		l    []api.Packet
		want api.Errno
	}{
		{"none", nil, api.ErrEmpty},
		{"another ID", []api.Packet{a, b, other(c, func(x *api.Packet) { x.ID++ })}, api.ErrArg},
		{"another Src", []api.Packet{a, other(b, func(x *api.Packet) { x.Src++ }), c}, api.ErrArg},
		{"another Dst", []api.Packet{other(a, func(x *api.Packet) { x.Dst++ }), b, c}, api.ErrArg},
		{"another Proto", []api.Packet{a, b, c, other(a, func(x *api.Packet) { x.Proto++ })}, api.ErrArg},
		{"unlike ones of no form", []api.Packet{cut(p, 0, 7, true), other(c, func(x *api.Packet) { x.ID++ })}, api.ErrArg},
		{"no Data", []api.Packet{a, b, c, cut(p, 48, 0, true)}, api.ErrForm},
		{"no multiple of 8", []api.Packet{a, b, c, cut(p, 48, 12, true)}, api.ErrForm},
		{"two ends", []api.Packet{a, b, c, cut(p, 96, 3, false)}, api.ErrForm},
		{"two ends, the greater ahead", []api.Packet{c, cut(p, 48, 8, false), a, b}, api.ErrForm},
		{"behind the end", []api.Packet{a, b, c, cut(of(200), 96, 8, true)}, api.ErrForm},
		{"behind the end, ahead in the row", []api.Packet{cut(of(200), 96, 8, true), a, b, c}, api.ErrForm},
		{"far behind the end", []api.Packet{a, b, c, far}, api.ErrForm},
		{"no end", []api.Packet{a, b}, api.ErrNone},
		{"no end, no beginning", []api.Packet{b}, api.ErrNone},
		{"no beginning", []api.Packet{b, c}, api.ErrNone},
		{"a gap", []api.Packet{a, c}, api.ErrNone},
		{"a gap of eight", []api.Packet{a, cut(p, 56, 40, true), c}, api.ErrNone},
		{"only an end", []api.Packet{cut(p, 96, 0, false)}, api.ErrNone},
		{"a gap, too great", []api.Packet{far, other(of(8), func(x *api.Packet) { x.Off = 8192 })}, api.ErrNone},
		{"too great", []api.Packet{of(65516)}, api.ErrBig},
		{"too great by options", []api.Packet{other(of(65512), func(x *api.Packet) { x.Options = make([]byte, 4) })}, api.ErrBig},
		{"no options", []api.Packet{other(of(8), func(x *api.Packet) { x.Options = make([]byte, 3) })}, api.ErrBig},
		{"too great in pieces", []api.Packet{cut(of(70000), 0, 65520, true), cut(of(70000), 65520, 4480, false)}, api.ErrBig},
	} {
		if got, e := Join(x.l); e != x.want || !same(got, api.Packet{}) {
			t.Error(x.name, e)
		}
	}
	if got, e := Join([]api.Packet{cut(of(65515), 65512, 3, false), cut(of(65515), 0, 65512, true)}); e != api.OK || !same(got, of(65515)) {
		t.Error(e)
	}
}

func TestJoinIsApart(t *testing.T) {
	p := of(8)
	p.Data, p.Options = roomy.Bytes(bytesOf(8)...), roomy.Bytes(1, 2, 3, 4)
	l := []api.Packet{p, p}
	got, e := Join(l)
	if e != api.OK || !roomy.Apart(got.Data, p.Data) || !roomy.Apart(got.Options, p.Options) || !roomy.Untouched(p.Data, bytesOf(8)...) || !roomy.Untouched(p.Options, 1, 2, 3, 4) {
		t.Error(got, e)
	}
	l = []api.Packet{cut(of(16), 8, 8, false), cut(of(16), 0, 8, true)}
	Join(l)
	if l[0].Off != 1 || l[1].Off != 0 {
		t.Error("the row is changed")
	}
}

// P43.3

func TestSplitIsJoined(t *testing.T) {
	r := rand.New(rand.NewSource(43))
	for range 400 {
		p := of(r.Intn(3000))
		p.Options = make([]byte, 4*r.Intn(11))
		mtu := 68 + r.Intn(1500)
		l, e := Split(p, mtu)
		if e != api.OK {
			t.Fatal(e)
		}
		for _, x := range l {
			if ipv4.Check(x) != api.OK || ipv4.Size(x)+len(x.Data) > mtu {
				t.Fatal(x)
			}
		}
		// Pieces are split once more, and some come twice.
		var all []api.Packet
		for _, x := range l {
			if more, e := Split(x, 68+r.Intn(1500)); e == api.OK && r.Intn(2) == 0 {
				all = append(all, more...)
			} else {
				all = append(all, x)
			}
			if r.Intn(4) == 0 {
				all = append(all, x)
			}
		}
		r.Shuffle(len(all), func(i, j int) { all[i], all[j] = all[j], all[i] })
		if got, e := Join(all); e != api.OK || !same(got, p) {
			t.Fatal(got, e)
		}
		if len(l) > 1 {
			if got, e := Join(l[1:]); e != api.ErrNone {
				t.Fatal(got, e)
			}
		}
	}
}
