package pcap

import (
	"bytes"
	"math"
	"math/rand"
	"slices"
	"testing"

	"linkboy/api"
	"linkboy/roomy"
)

// started are the bytes with which each file begins.
var started = []byte{0xd4, 0xc3, 0xb2, 0xa1, 2, 0, 4, 0, 0, 0, 0, 0, 0, 0, 0, 0, 0xff, 0xff, 0, 0, 1, 0, 0, 0}

// record answers the bytes of a record whose numbers of bytes are these.
func record(has, whole byte, data ...byte) []byte {
	return append([]byte{4, 3, 2, 1, 0x3f, 0x42, 0x0f, 0, has, 0, 0, 0, whole, 0, 0, 0}, data...)
}

// with answers a file of these bytes behind its beginning.
func with(l ...[]byte) []byte {
	return append(slices.Clone(started), bytes.Join(l, nil)...)
}

// same tells whether records are the same.
func same(a, b Record) bool {
	return a.Sec == b.Sec && a.Usec == b.Usec && bytes.Equal(a.Data, b.Data)
}

var (
	one  = Record{Sec: 0x01020304, Usec: 999999, Data: []byte{7, 8, 9}}
	none = Record{}
)

// P46.1

func TestPut(t *testing.T) {
	for i, x := range []struct {
		l    []Record
		want []byte
	}{
		{nil, started},
		{[]Record{one}, with(record(3, 3, 7, 8, 9))},
		{[]Record{none}, with(make([]byte, 16))},
		{[]Record{one, none, one}, with(record(3, 3, 7, 8, 9), make([]byte, 16), record(3, 3, 7, 8, 9))},
		{[]Record{{Sec: math.MaxUint32}}, with([]byte{255, 255, 255, 255}, make([]byte, 12))},
		{[]Record{{Data: make([]byte, 65535)}}, with([]byte{0, 0, 0, 0, 0, 0, 0, 0, 255, 255, 0, 0, 255, 255, 0, 0}, make([]byte, 65535))},
	} {
		if got, e := Put(x.l...); e != api.OK || !bytes.Equal(got, x.want) || Size(x.l...) != len(x.want) {
			t.Error(i, got, e)
		}
	}
}

func TestPutOfNone(t *testing.T) {
	for i, l := range [][]Record{{{Usec: 1000000}}, {{Usec: math.MaxUint32}}, {{Data: make([]byte, 65536)}}, {one, {Usec: 1000000}, one}, {one, {Data: make([]byte, 65536)}}} {
		if got, e := Put(l...); e != api.ErrArg || len(got) != 0 || Size(l...) != 0 {
			t.Error(i, len(got), e)
		}
	}
}

func TestParse(t *testing.T) {
	for i, x := range []struct {
		b    []byte
		want []Record
	}{
		{started, nil},
		{with(record(3, 3, 7, 8, 9)), []Record{one}},
		{with(make([]byte, 16), record(3, 3, 7, 8, 9), make([]byte, 16)), []Record{none, one, none}},
	} {
		if got, e := Parse(x.b); e != api.OK || !slices.EqualFunc(got, x.want, same) {
			t.Error(i, got, e)
		}
	}
}

func TestParseOfNone(t *testing.T) {
	late := record(3, 3, 7, 8, 9)
	late[4] = 0x40
	for i, x := range []struct {
		b []byte
		e api.Errno
	}{
		{nil, api.ErrShort}, {started[:23], api.ErrShort}, {make([]byte, 23), api.ErrShort}, {make([]byte, 24), api.ErrForm}, {make([]byte, 99), api.ErrForm},
		{with(record(3, 3, 7, 8)), api.ErrShort}, {with(record(3, 3)), api.ErrShort}, {with(record(3, 3)[:15]), api.ErrShort}, {with([]byte{1}), api.ErrShort}, {with(record(3, 3, 7, 8, 9), []byte{1}), api.ErrShort},
		{with(record(3, 4, 7, 8, 9, 10)), api.ErrForm}, {with(record(3, 2, 7, 8, 9)), api.ErrForm}, {with(record(3, 4)), api.ErrForm}, {with(late), api.ErrForm}, {with(late[:16]), api.ErrForm}, {with(late[:15]), api.ErrShort},
		{with(record(3, 3, 7, 8, 9), late, []byte{1}), api.ErrForm}, {with(record(3, 3, 7, 8, 9, 1), late), api.ErrForm},
		{with([]byte{0, 0, 0, 0, 0, 0, 0, 0, 0, 0, 1, 0, 0, 0, 1, 0}, make([]byte, 65536)), api.ErrForm},
		{with([]byte{0, 0, 0, 0, 0, 0, 0, 0, 255, 255, 255, 255, 255, 255, 255, 255}), api.ErrForm},
		{with([]byte{0, 0, 0, 0, 255, 255, 255, 255, 0, 0, 0, 0, 0, 0, 0, 0}), api.ErrForm},
		{with([]byte{0, 0, 0, 0, 0, 0, 0, 0, 255, 255, 0, 0, 255, 255, 0, 0}, make([]byte, 65534)), api.ErrShort},
	} {
		if got, e := Parse(x.b); e != x.e || len(got) != 0 {
			t.Error(i, got, e)
		}
		if got, e := Cut(x.b, 0); e != x.e || len(got) != 0 {
			t.Error(i, "cut", got, e)
		}
	}
	for i := range started {
		b := slices.Clone(started)
		b[i] ^= 1
		if _, e := Parse(b); e != api.ErrForm {
			t.Error(i, e)
		}
	}
}

func TestApart(t *testing.T) {
	r := Record{Data: roomy.Bytes(7, 8, 9)}
	b, _ := Put(r)
	if !roomy.Untouched(r.Data, 7, 8, 9) || !roomy.Apart(b, r.Data) {
		t.Error("a record is shared")
	}
	in := roomy.Bytes(b...)
	l, _ := Parse(in)
	c, _ := Cut(in, 1)
	if !roomy.Untouched(in, b...) || !roomy.Apart(l[0].Data, in) || !roomy.Apart(c, in) {
		t.Error("a file is shared")
	}
	one, _ := Put()
	one[0]++
	if two, _ := Put(); !bytes.Equal(two, started) {
		t.Error("the beginning is shared")
	}
}

// P46.2

func TestCut(t *testing.T) {
	file := with(make([]byte, 16), record(3, 3, 7, 8, 9), make([]byte, 16))
	for n, want := range [][]byte{started, with(make([]byte, 16)), with(make([]byte, 16), record(3, 3, 7, 8, 9)), file} {
		if got, e := Cut(file, n); e != api.OK || !bytes.Equal(got, want) {
			t.Error(n, got, e)
		}
	}
	for _, n := range []int{-1, 4, math.MaxInt, math.MinInt} {
		if got, e := Cut(file, n); e != api.ErrRange || len(got) != 0 {
			t.Error(n, got, e)
		}
		if got, e := Cut(file[:len(file)-1], n); e != api.ErrShort || len(got) != 0 {
			t.Error(n, got, e)
		}
	}
	if got, e := Cut(started, 1); e != api.ErrRange || len(got) != 0 {
		t.Error(got, e)
	}
}

func TestPutIsRead(t *testing.T) {
	r := rand.New(rand.NewSource(46))
	for range 200 {
		var l []Record
		all := slices.Clone(started)
		for range r.Intn(8) {
			x := Record{Sec: r.Uint32(), Usec: uint32(r.Intn(1000000)), Data: make([]byte, r.Intn(300))}
			r.Read(x.Data)
			l = append(l, x)
			one, _ := Put(x)
			all = append(all, one[24:]...)
		}
		b, e := Put(l...)
		got, e2 := Parse(b)
		if e != api.OK || e2 != api.OK || !slices.EqualFunc(got, l, same) || !bytes.Equal(b, all) || Size(l...) != len(b) {
			t.Fatal(e, e2)
		}
		n := r.Intn(len(l) + 1)
		c, _ := Cut(b, n)
		if want, _ := Put(l[:n]...); !bytes.Equal(c, want) {
			t.Fatal(n)
		}
	}
}
