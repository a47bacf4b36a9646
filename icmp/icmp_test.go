package icmp

import (
	"bytes"
	"math/rand"
	"reflect"
	"testing"

	"linkboy/api"
	"linkboy/roomy"
	"linkboy/sum"
)

// same tells whether two messages are alike, and nil and empty lists too.
func same(a, b api.Icmp) bool {
	return a.Type == b.Type && a.Code == b.Code && a.Rest == b.Rest && bytes.Equal(a.Data, b.Data)
}

// P7.1

func TestPutAndParse(t *testing.T) {
	for _, c := range []struct {
		m api.Icmp
		b []byte
	}{
		{api.Icmp{Type: 8, Rest: 0x00010002}, []byte{8, 0, 247, 252, 0, 1, 0, 2}},
		{api.Icmp{}, []byte{0, 0, 255, 255, 0, 0, 0, 0}},
		{api.Icmp{Type: 3, Code: 4, Rest: 0x000005dc, Data: []byte{1, 2, 3}}, []byte{3, 4, 0xf3, 0x1d, 0, 0, 5, 0xdc, 1, 2, 3}},
		{api.Icmp{Type: 255, Code: 255, Rest: 0xffffffff, Data: []byte{255, 255}}, []byte{255, 255, 0, 0, 255, 255, 255, 255, 255, 255}},
	} {
		if got := Put(c.m); !bytes.Equal(got, c.b) {
			t.Errorf("%v: % x", c.m, got)
		}
		if got, e := Parse(c.b); !same(got, c.m) || e != api.OK {
			t.Errorf("% x: %v %d", c.b, got, e)
		}
	}
}

func TestParseRefuses(t *testing.T) {
	b := Put(api.Icmp{Type: 8, Code: 1, Rest: 0x01020304, Data: []byte{5, 6, 7}})
	for n := range 8 {
		if got, e := Parse(b[:n]); e != api.ErrShort || !reflect.DeepEqual(got, api.Icmp{}) {
			t.Errorf("%d bytes: %v %d", n, got, e)
		}
	}
	if _, e := Parse([]byte{0, 0, 255, 255}); e != api.ErrShort {
		t.Error("few bytes that are right", e)
	}
	if got, e := Parse(make([]byte, 8)); e != api.ErrSum || !reflect.DeepEqual(got, api.Icmp{}) {
		t.Error("zeros", got, e)
	}
	for at := range b {
		bad := bytes.Clone(b)
		bad[at] ^= 16
		if got, e := Parse(bad); e != api.ErrSum || !reflect.DeepEqual(got, api.Icmp{}) {
			t.Errorf("wrong at %d: %v %d", at, got, e)
		}
	}
	if _, e := Parse(append(b, 1)); e != api.ErrSum {
		t.Error("what stands behind plays a part", e)
	}
}

func TestNothingIsShared(t *testing.T) {
	data := roomy.Bytes(1, 2, 3)
	m := api.Icmp{Type: 8, Data: data}
	if !roomy.Apart(data, Put(m)) || !roomy.Apart(data, Ask(1, 2, data).Data) || !roomy.Apart(data, Answer(m).Data) || !roomy.Apart(data, Failed(3, 0, 0, data).Data) {
		t.Error("what was handed in is shared")
	}
	if !roomy.Untouched(data, 1, 2, 3) {
		t.Error("what was handed in is changed")
	}
	b := Put(m)
	in := roomy.Bytes(b...)
	got, _ := Parse(in)
	if !roomy.Apart(in, got.Data) || !roomy.Untouched(in, b...) {
		t.Error("Parse changes or shares what was handed in")
	}
	long := roomy.Bytes(make([]byte, 40)...)
	if !roomy.Apart(long, Failed(3, 0, 0, long).Data) {
		t.Error("Failed shares what was handed in")
	}
}

// P7.2

func TestAsk(t *testing.T) {
	for _, c := range []struct {
		id, seq uint16
		data    []byte
		rest    uint32
	}{
		{1, 2, nil, 0x00010002}, {0xffff, 0, []byte{1}, 0xffff0000}, {0, 0xffff, []byte{1, 2, 3}, 0x0000ffff}, {0xabcd, 0x1234, []byte{}, 0xabcd1234},
	} {
		if got := Ask(c.id, c.seq, c.data); !same(got, api.Icmp{Type: 8, Rest: c.rest, Data: c.data}) {
			t.Errorf("%x, %x: %v", c.id, c.seq, got)
		}
	}
}

func TestAnswer(t *testing.T) {
	for _, m := range []api.Icmp{
		{Type: 8, Rest: 0x12345678, Data: []byte{1, 2, 3}}, {Type: 8, Code: 7, Rest: 1}, {Type: 3, Code: 4, Data: []byte{9}}, {},
	} {
		want := m
		want.Type = 0
		if got := Answer(m); !same(got, want) {
			t.Errorf("%v: %v", m, got)
		}
	}
}

func TestIdent(t *testing.T) {
	for _, c := range []struct {
		rest    uint32
		id, seq uint16
	}{
		{0, 0, 0}, {0x00010002, 1, 2}, {0xffff0000, 0xffff, 0}, {0x0000ffff, 0, 0xffff}, {0xabcd1234, 0xabcd, 0x1234},
	} {
		if id, seq := Ident(api.Icmp{Rest: c.rest}); id != c.id || seq != c.seq {
			t.Errorf("%x: %x %x", c.rest, id, seq)
		}
	}
}

func TestFailed(t *testing.T) {
	b := make([]byte, 100)
	for i := range b {
		b[i] = byte(i + 1)
	}
	for _, n := range []int{0, 1, 20, 27, 28, 29, 60, 100} {
		want := api.Icmp{Type: 11, Code: 3, Rest: 0x01020304, Data: b[:min(n, 28)]}
		if got := Failed(11, 3, 0x01020304, b[:n:n]); !same(got, want) {
			t.Errorf("%d bytes: %v", n, got)
		}
	}
	if got := Failed(0, 255, 0xffffffff, nil); !same(got, api.Icmp{Code: 255, Rest: 0xffffffff}) {
		t.Error(got)
	}
}

func TestAbout(t *testing.T) {
	for typ := range 256 {
		want := typ == 3 || typ == 11 || typ == 12
		if got := About(api.Icmp{Type: byte(typ)}); got != want {
			t.Errorf("%d: %v", typ, got)
		}
	}
}

// P7.3

func TestMessagesComeBack(t *testing.T) {
	r := rand.New(rand.NewSource(7))
	for range 2000 {
		m := api.Icmp{Type: byte(r.Intn(256)), Code: byte(r.Intn(256)), Rest: r.Uint32(), Data: make([]byte, r.Intn(40))}
		r.Read(m.Data)
		b := Put(m)
		if got, e := Parse(b); e != api.OK || !same(got, m) || !sum.Right(b) {
			t.Errorf("%v: %v %d", m, got, e)
		}
		ask := Ask(uint16(r.Uint32()), uint16(r.Uint32()), m.Data)
		answer, e := Parse(Put(Answer(ask)))
		if e != api.OK || answer.Type != 0 || answer.Rest != ask.Rest || !bytes.Equal(answer.Data, m.Data) {
			t.Errorf("%v: %v %d", ask, answer, e)
		}
	}
}
