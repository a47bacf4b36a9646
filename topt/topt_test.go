package topt

import (
	"bytes"
	"math/rand"
	"testing"

	"linkboy/api"
	"linkboy/roomy"
)

// same tells whether two rows of options are alike, and nil and empty lists too.
func same(a, b []api.Option) bool {
	for i := range a {
		if i >= len(b) || a[i].Kind != b[i].Kind || !bytes.Equal(a[i].Data, b[i].Data) {
			return false
		}
	}
	return len(a) == len(b)
}

// of answers an option of a kind that has this many bytes of Data.
func of(kind byte, n int) api.Option {
	return api.Option{Kind: kind, Data: bytes.Repeat([]byte{kind + 1}, n)}
}

// P10.1

func TestOf(t *testing.T) {
	for _, c := range []struct {
		b    []byte
		want []api.Option
	}{
		{nil, nil},
		{[]byte{0}, nil},
		{[]byte{0, 2}, nil},
		{[]byte{0, 0, 5, 1}, nil},
		{[]byte{1}, []api.Option{{Kind: 1}}},
		{[]byte{1, 1, 1}, []api.Option{{Kind: 1}, {Kind: 1}, {Kind: 1}}},
		{[]byte{2, 4, 5, 180}, []api.Option{{Kind: 2, Data: []byte{5, 180}}}},
		{[]byte{4, 2}, []api.Option{{Kind: 4}}},
		{[]byte{3, 3, 7, 1}, []api.Option{{Kind: 3, Data: []byte{7}}, {Kind: 1}}},
		{[]byte{1, 3, 3, 7, 1, 0, 9}, []api.Option{{Kind: 1}, {Kind: 3, Data: []byte{7}}, {Kind: 1}}},
		{[]byte{5, 4, 0, 1, 2, 3, 0, 0, 1}, []api.Option{{Kind: 5, Data: []byte{0, 1}}, {Kind: 2, Data: []byte{0}}}},
		{[]byte{2, 4, 0, 0, 2, 4, 1, 1}, []api.Option{{Kind: 2, Data: []byte{0, 0}}, {Kind: 2, Data: []byte{1, 1}}}},
		{append([]byte{255, 255}, make([]byte, 253)...), []api.Option{{Kind: 255, Data: make([]byte, 253)}}},
	} {
		if got, e := Of(c.b); !same(got, c.want) || e != api.OK {
			t.Errorf("% x: %v %d", c.b, got, e)
		}
	}
}

func TestOfRefuses(t *testing.T) {
	for _, c := range []struct {
		b    []byte
		want api.Errno
	}{
		{[]byte{2}, api.ErrShort},
		{[]byte{255}, api.ErrShort},
		{[]byte{1, 1, 2}, api.ErrShort},
		{[]byte{4, 2, 8}, api.ErrShort},
		{[]byte{2, 0}, api.ErrForm},
		{[]byte{2, 1}, api.ErrForm},
		{[]byte{2, 0, 0, 0}, api.ErrForm},
		{[]byte{2, 1, 0, 0}, api.ErrForm},
		{[]byte{2, 3}, api.ErrShort},
		{[]byte{2, 4, 5}, api.ErrShort},
		{[]byte{2, 4, 5, 180, 3}, api.ErrShort},
		{[]byte{2, 255, 5, 180}, api.ErrShort},
		{[]byte{1, 2, 1, 3}, api.ErrForm},
		{[]byte{3, 1, 2}, api.ErrForm},
		{[]byte{3, 9, 2, 1}, api.ErrShort},
		{[]byte{4, 2, 5, 0, 6}, api.ErrForm},
		{append([]byte{255, 255}, make([]byte, 252)...), api.ErrShort},
	} {
		if got, e := Of(c.b); len(got) != 0 || e != c.want {
			t.Errorf("% x: %v %d", c.b, got, e)
		}
	}
}

func TestNothingIsShared(t *testing.T) {
	in := roomy.Bytes(2, 4, 5, 180, 8, 4, 1, 2)
	l, _ := Of(in)
	if len(l) != 2 || !roomy.Apart(in, l[0].Data) || !roomy.Apart(in, l[1].Data) || !roomy.Apart(l[0].Data, l[1].Data) {
		t.Error("Of shares", l)
	}
	MSS(in)
	Without(in)
	if !roomy.Untouched(in, 2, 4, 5, 180, 8, 4, 1, 2) {
		t.Error("what was handed in is changed")
	}
	data := roomy.Bytes(1, 2, 3)
	b, _ := Put(api.Option{Kind: 9, Data: data})
	if !roomy.Apart(data, b) || !roomy.Untouched(data, 1, 2, 3) {
		t.Error("Put changes or shares what was handed in")
	}
}

// P10.2

func TestPut(t *testing.T) {
	for _, c := range []struct {
		l    []api.Option
		want []byte
	}{
		{nil, nil},
		{[]api.Option{{Kind: 1}}, []byte{1, 1, 1, 1}},
		{[]api.Option{{Kind: 1, Data: []byte{}}, {Kind: 1}, {Kind: 1}, {Kind: 1}, {Kind: 1}}, bytes.Repeat([]byte{1}, 8)},
		{[]api.Option{{Kind: 4}}, []byte{4, 2, 1, 1}},
		{[]api.Option{{Kind: 3, Data: []byte{7}}}, []byte{3, 3, 7, 1}},
		{[]api.Option{{Kind: 2, Data: []byte{5, 180}}}, []byte{2, 4, 5, 180}},
		{[]api.Option{{Kind: 2, Data: []byte{5, 180}}, {Kind: 1}, {Kind: 3, Data: []byte{9}}, {Kind: 255, Data: []byte{0}}}, []byte{2, 4, 5, 180, 1, 3, 3, 9, 255, 3, 0, 1}},
		{[]api.Option{of(9, 38)}, append([]byte{9, 40}, bytes.Repeat([]byte{10}, 38)...)},
	} {
		if got, e := Put(c.l...); !bytes.Equal(got, c.want) || e != api.OK {
			t.Errorf("%v: % x %d", c.l, got, e)
		}
	}
}

func TestPutOfMany(t *testing.T) {
	for _, c := range []struct {
		name string
		l    []api.Option
		size int
	}{
		{"37 bytes of Data", []api.Option{of(9, 37)}, 40},
		{"38 bytes of Data, and one behind", []api.Option{of(9, 38), {Kind: 1}}, -1},
		{"one, and 38 bytes of Data", []api.Option{{Kind: 1}, of(9, 38)}, -1},
		{"39 bytes of Data", []api.Option{of(9, 39)}, -1},
		{"254 bytes of Data", []api.Option{of(9, 254)}, -1},
		{"300 bytes of Data", []api.Option{of(9, 300)}, -1},
		{"20 and 20", []api.Option{of(9, 18), of(8, 18)}, 40},
		{"20 and 19", []api.Option{of(9, 18), of(8, 17)}, 40},
		{"20 and 17", []api.Option{of(9, 18), of(8, 15)}, 40},
		{"20 and 16", []api.Option{of(9, 18), of(8, 14)}, 36},
		{"20 and 21", []api.Option{of(9, 18), of(8, 19)}, -1},
		{"kind 0", []api.Option{{Kind: 0}}, -1},
		{"kind 0 with Data", []api.Option{{Kind: 0, Data: []byte{1}}}, -1},
		{"kind 0 behind", []api.Option{{Kind: 4}, {Kind: 0}}, -1},
		{"kind 1 with Data", []api.Option{{Kind: 1, Data: []byte{1}}}, -1},
		{"kind 1 with Data behind", []api.Option{{Kind: 4}, {Kind: 1}, {Kind: 1, Data: []byte{1}}}, -1},
	} {
		got, e := Put(c.l...)
		if c.size >= 0 && (e != api.OK || len(got) != c.size) || c.size < 0 && (e != api.ErrArg || len(got) != 0) {
			t.Errorf("%s: % x %d", c.name, got, e)
		}
	}
	ones := make([]api.Option, 41)
	for i := range ones {
		ones[i].Kind = 1
	}
	if got, e := Put(ones[:40]...); len(got) != 40 || e != api.OK {
		t.Error(len(got), e)
	}
	if got, e := Put(ones...); len(got) != 0 || e != api.ErrArg {
		t.Error(len(got), e)
	}
}

// P10.3

func TestMSS(t *testing.T) {
	for _, c := range []struct {
		b    []byte
		want uint16
		ok   bool
	}{
		{nil, 0, false},
		{[]byte{2, 4, 5, 180}, 1460, true},
		{[]byte{2, 4, 0, 0}, 0, true},
		{[]byte{1, 4, 2, 2, 4, 255, 254, 3, 3, 7}, 65534, true},
		{[]byte{2, 4, 0, 1, 2, 4, 0, 2}, 1, true},
		{[]byte{2, 3, 9, 2, 4, 0, 2}, 2, true},
		{[]byte{2, 5, 9, 9, 9, 2, 2, 2, 4, 0, 2}, 2, true},
		{[]byte{2, 2}, 0, false},
		{[]byte{2, 5, 9, 9, 9}, 0, false},
		{[]byte{8, 4, 5, 180}, 0, false},
		{[]byte{0, 2, 4, 5, 180}, 0, false},
		{[]byte{1, 1, 1}, 0, false},
		{[]byte{2, 4, 5}, 0, false},
		{[]byte{2, 4, 5, 180, 3}, 0, false},
		{[]byte{2, 4, 5, 180, 3, 1}, 0, false},
		{[]byte{2, 4, 5, 180, 0, 3}, 1460, true},
	} {
		if got, ok := MSS(c.b); got != c.want || ok != c.ok {
			t.Errorf("% x: %d %v", c.b, got, ok)
		}
	}
}

func TestPutMSS(t *testing.T) {
	for n, want := range map[uint16][]byte{1460: {2, 4, 5, 180}, 0: {2, 4, 0, 0}, 65535: {2, 4, 255, 255}, 256: {2, 4, 1, 0}} {
		got := PutMSS(n)
		if back, ok := MSS(got); !bytes.Equal(got, want) || back != n || !ok {
			t.Errorf("%d: % x, %d %v", n, got, back, ok)
		}
	}
}

func TestWithout(t *testing.T) {
	for _, c := range []struct {
		b    []byte
		want bool
	}{
		{nil, true},
		{[]byte{0}, true},
		{[]byte{1, 2, 4, 5, 180, 3, 3, 7, 4, 2}, true},
		{[]byte{5, 2}, false},
		{[]byte{1, 5, 2, 1}, false},
		{[]byte{4, 2, 8, 3, 1}, false},
		{[]byte{255, 2}, false},
		{[]byte{4, 2, 0, 5, 2}, true},
		{[]byte{4, 2, 0, 9}, true},
		{[]byte{4}, false},
		{[]byte{4, 1}, false},
		{[]byte{4, 3}, false},
		{[]byte{1, 2, 4, 5}, false},
		{[]byte{1, 3, 3, 5}, true},
	} {
		if got := Without(c.b); got != c.want {
			t.Errorf("% x: %v", c.b, got)
		}
	}
}

// P10.4

func TestOptionsComeBack(t *testing.T) {
	r := rand.New(rand.NewSource(10))
	taken := 0
	for range 5000 {
		var l []api.Option
		size := 0
		for range r.Intn(7) {
			o := api.Option{Kind: byte(r.Intn(10))}
			if o.Kind > 1 || r.Intn(10) == 0 {
				o.Data = make([]byte, r.Intn(12))
				r.Read(o.Data)
			}
			if o.Kind == 1 {
				size++
			} else {
				size += 2 + len(o.Data)
			}
			l = append(l, o)
		}
		b, e := Put(l...)
		if e != api.OK {
			continue
		}
		taken++
		for len(b) > size {
			l = append(l, api.Option{Kind: 1})
			size++
		}
		if got, e := Of(b); e != api.OK || !same(got, l) || len(b)%4 != 0 || len(b) > 40 {
			t.Errorf("%v: % x: %v %d", l, b, got, e)
		}
	}
	if taken < 1000 {
		t.Error(taken)
	}
}
