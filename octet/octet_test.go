package octet

import (
	"bytes"
	"math"
	"math/rand"
	"testing"
	"testing/quick"

	"linkboy/api"
	"linkboy/roomy"
)

// untouched fails if a roomy slice isn't what it was, its room included.
func untouched(t *testing.T, got []byte, want ...byte) {
	t.Helper()
	if !roomy.Untouched(got, want...) {
		t.Errorf("what was handed in is changed: % x", got[:cap(got)])
	}
}

// separate fails if an answer shares memory with what was handed in.
func separate(t *testing.T, in, out []byte) {
	t.Helper()
	if !roomy.Apart(in, out) {
		t.Error("an answer shares memory with what was handed in")
	}
}

// fixed lets a test try the same inputs in every run.
func fixed() *quick.Config {
	return &quick.Config{MaxCount: 500, Rand: rand.New(rand.NewSource(1))}
}

// outside are places that no slice of six bytes has, for numbers of any size.
var outside = []int{-1, -2, -4, math.MinInt, math.MinInt + 1, 6, 7, 1 << 31, 1 << 62, math.MaxInt - 3, math.MaxInt - 1, math.MaxInt}

// P1.1

func TestGet16(t *testing.T) {
	b := []byte{0x01, 0x02, 0xff, 0xfe, 0x00, 0x80}
	for at, want := range []uint16{0x0102, 0x02ff, 0xfffe, 0xfe00, 0x0080} {
		if n, ok := Get16(b, at); n != want || !ok {
			t.Errorf("at %d: %x %v", at, n, ok)
		}
	}
	for _, at := range append([]int{5}, outside...) {
		if n, ok := Get16(b, at); n != 0 || ok {
			t.Errorf("at %d: %x %v", at, n, ok)
		}
	}
	for _, b := range [][]byte{nil, {}, {9}, roomy.Bytes(9)} {
		if n, ok := Get16(b, 0); n != 0 || ok {
			t.Errorf("of %v: %x %v", b, n, ok)
		}
	}
}

func TestGet32(t *testing.T) {
	b := []byte{0x01, 0x02, 0xff, 0xfe, 0x00, 0x80}
	for at, want := range []uint32{0x0102fffe, 0x02fffe00, 0xfffe0080} {
		if n, ok := Get32(b, at); n != want || !ok {
			t.Errorf("at %d: %x %v", at, n, ok)
		}
	}
	for _, at := range append([]int{3, 4, 5}, outside...) {
		if n, ok := Get32(b, at); n != 0 || ok {
			t.Errorf("at %d: %x %v", at, n, ok)
		}
	}
	for _, b := range [][]byte{nil, {}, {9, 9, 9}, roomy.Bytes(9, 9, 9)} {
		if n, ok := Get32(b, 0); n != 0 || ok {
			t.Errorf("of %v: %x %v", b, n, ok)
		}
	}
}

func TestPut16(t *testing.T) {
	if got := Put16(nil, 258); !bytes.Equal(got, []byte{1, 2}) {
		t.Error(got)
	}
	for _, b := range [][]byte{nil, {}} {
		if got := Put16(b); len(got) != 0 {
			t.Error(got)
		}
	}
	in := roomy.Bytes(7, 8)
	got := Put16(in, 0x0102, 0, 0xffff, 0x8001)
	if !bytes.Equal(got, []byte{7, 8, 1, 2, 0, 0, 255, 255, 0x80, 1}) {
		t.Error(got)
	}
	separate(t, in, got)
	separate(t, in, Put16(in))
	untouched(t, in, 7, 8)
}

func TestPut32(t *testing.T) {
	if got := Put32(nil, 0x01020304); !bytes.Equal(got, []byte{1, 2, 3, 4}) {
		t.Error(got)
	}
	for _, b := range [][]byte{nil, {}} {
		if got := Put32(b); len(got) != 0 {
			t.Error(got)
		}
	}
	in := roomy.Bytes(7)
	got := Put32(in, 0x80000001, 0, 0xffffffff)
	if !bytes.Equal(got, []byte{7, 0x80, 0, 0, 1, 0, 0, 0, 0, 255, 255, 255, 255}) {
		t.Error(got)
	}
	separate(t, in, got)
	separate(t, in, Put32(in))
	untouched(t, in, 7)
}

func TestPutKeepsNumbers(t *testing.T) {
	short, long := []uint16{1, 0xffff}, []uint32{1, 0xffffffff}
	Put16(nil, short...)
	Put32(nil, long...)
	if short[0] != 1 || short[1] != 0xffff || long[0] != 1 || long[1] != 0xffffffff {
		t.Error(short, long)
	}
}

func TestSet16(t *testing.T) {
	in := roomy.Bytes(1, 2, 3, 4, 5, 6)
	for at, want := range [][]byte{
		{0xab, 0xcd, 3, 4, 5, 6}, {1, 0xab, 0xcd, 4, 5, 6}, {1, 2, 0xab, 0xcd, 5, 6},
		{1, 2, 3, 0xab, 0xcd, 6}, {1, 2, 3, 4, 0xab, 0xcd},
	} {
		got, ok := Set16(in, at, 0xabcd)
		if !ok || !bytes.Equal(got, want) {
			t.Errorf("at %d: % x %v", at, got, ok)
		}
		separate(t, in, got)
	}
	untouched(t, in, 1, 2, 3, 4, 5, 6)
	for _, at := range append([]int{5}, outside...) {
		if got, ok := Set16(in, at, 9); len(got) != 0 || ok {
			t.Errorf("at %d: % x %v", at, got, ok)
		}
	}
	for _, b := range [][]byte{nil, {}, {9}, roomy.Bytes(9)} {
		if got, ok := Set16(b, 0, 9); len(got) != 0 || ok {
			t.Errorf("of %v: % x %v", b, got, ok)
		}
	}
	untouched(t, in, 1, 2, 3, 4, 5, 6)
}

// P1.2

func TestCut(t *testing.T) {
	in := roomy.Bytes(1, 2, 3, 4, 5, 6)
	for at := 0; at <= 6; at++ {
		for n := 0; n <= 6-at; n++ {
			got, ok := Cut(in, at, n)
			if !ok || !bytes.Equal(got, in[at:at+n]) {
				t.Errorf("at %d, %d bytes: % x %v", at, n, got, ok)
			}
			separate(t, in, got)
		}
	}
	untouched(t, in, 1, 2, 3, 4, 5, 6)
	for _, b := range [][]byte{nil, {}} {
		if got, ok := Cut(b, 0, 0); len(got) != 0 || !ok {
			t.Errorf("nothing of nothing: % x %v", got, ok)
		}
	}
}

func TestCutRefuses(t *testing.T) {
	in := roomy.Bytes(1, 2, 3, 4, 5, 6)
	for _, c := range [][2]int{
		{0, 7}, {1, 6}, {5, 2}, {6, 1}, {7, 0}, {7, 1}, {7, -1}, {0, -1}, {3, -1}, {6, -6}, {-1, 0}, {-1, 1}, {-1, 2}, {-1, 7},
		{0, math.MaxInt}, {1, math.MaxInt}, {6, math.MaxInt}, {math.MaxInt, 0}, {math.MaxInt, 1}, {math.MaxInt, math.MaxInt},
		{0, math.MinInt}, {3, math.MinInt}, {math.MinInt, 0}, {math.MinInt, math.MaxInt}, {math.MinInt, math.MinInt}, {math.MaxInt, math.MinInt},
	} {
		if got, ok := Cut(in, c[0], c[1]); len(got) != 0 || ok {
			t.Errorf("at %d, %d bytes: % x %v", c[0], c[1], got, ok)
		}
	}
	if got, ok := Cut(nil, 0, 1); len(got) != 0 || ok {
		t.Errorf("of nil: % x %v", got, ok)
	}
	untouched(t, in, 1, 2, 3, 4, 5, 6)
}

func TestJoin(t *testing.T) {
	a, b := roomy.Bytes(1, 2), roomy.Bytes(3)
	for _, c := range []struct {
		l    [][]byte
		want []byte
	}{
		{nil, nil},
		{[][]byte{nil}, nil},
		{[][]byte{{}, nil, {}}, nil},
		{[][]byte{a}, []byte{1, 2}},
		{[][]byte{a, b}, []byte{1, 2, 3}},
		{[][]byte{b, a}, []byte{3, 1, 2}},
		{[][]byte{nil, a, {}, b, a, nil}, []byte{1, 2, 3, 1, 2}},
	} {
		got := Join(c.l...)
		if !bytes.Equal(got, c.want) {
			t.Errorf("of %v: %v", c.l, got)
		}
		separate(t, a, got)
		separate(t, b, got)
	}
	untouched(t, a, 1, 2)
	untouched(t, b, 3)
}

func TestSame(t *testing.T) {
	rows := [][]byte{{}, {0}, {0, 0}, {1, 2, 3}, {1, 2, 4}, {0, 2, 3}, {1, 2}, {2, 1}, {255}}
	for i, a := range rows {
		for j, b := range rows {
			if Same(a, bytes.Clone(b)) != (i == j) {
				t.Errorf("%v, %v: %v", a, b, i != j)
			}
		}
	}
	if !Same(nil, nil) || !Same(nil, []byte{}) || !Same([]byte{}, nil) || Same(nil, []byte{0}) || Same([]byte{0}, nil) {
		t.Error("nil isn't as an empty row")
	}
}

// P1.3

func TestHex(t *testing.T) {
	for _, c := range []struct {
		b    []byte
		want string
	}{
		{nil, ""}, {[]byte{}, ""}, {[]byte{171, 5}, "ab05"}, {[]byte{0}, "00"}, {[]byte{15, 16, 255}, "0f10ff"},
		{[]byte{0x01, 0x23, 0x45, 0x67, 0x89, 0xab, 0xcd, 0xef}, "0123456789abcdef"},
	} {
		if got := Hex(c.b); got != c.want {
			t.Errorf("%v: %q", c.b, got)
		}
	}
	in := roomy.Bytes(1, 2)
	Hex(in)
	untouched(t, in, 1, 2)
}

func TestUnhex(t *testing.T) {
	for _, c := range []struct {
		s    string
		want []byte
	}{
		{"", nil}, {"ab05", []byte{171, 5}}, {"00", []byte{0}}, {"0f10ff", []byte{15, 16, 255}},
		{"0123456789abcdef", []byte{0x01, 0x23, 0x45, 0x67, 0x89, 0xab, 0xcd, 0xef}},
	} {
		if got, e := Unhex(c.s); e != api.OK || !bytes.Equal(got, c.want) {
			t.Errorf("%q: %v %d", c.s, got, e)
		}
	}
}

func TestUnhexRefuses(t *testing.T) {
	for _, s := range []string{
		"0", "a", "000", "abc", "0g", "g0", "AB", "aB", "Ab", "00AF", " 00", "00 ", "0 0", " ", "  ", "0x00", "-1", "+1",
		"0:", "0/", "0`", "0@", "0G", "00\n", "\x00\x00", "é", "é1", "1é", "00é", "é00", "\xff\xff", "0\xff", "00\x80", "\xc3",
		"\uff10\uff11", "\u0660\u0661", "\u0130\u0161", "\U00010030\U00010061", "\ufffd\ufffd",
	} {
		if got, e := Unhex(s); len(got) != 0 || e != api.ErrForm {
			t.Errorf("%q: %v %d", s, got, e)
		}
	}
}

// TestUnhexIsHexBackward goes through all texts of two bytes: a text is bytes just if it is their Hex.
func TestUnhexIsHexBackward(t *testing.T) {
	of := map[string]byte{}
	for i := range 256 {
		of[Hex([]byte{byte(i)})] = byte(i)
	}
	if len(of) != 256 {
		t.Error(len(of))
	}
	for i := range 1 << 16 {
		s := string([]byte{byte(i >> 8), byte(i)})
		want, there := of[s]
		got, e := Unhex(s)
		if there && (e != api.OK || !bytes.Equal(got, []byte{want})) {
			t.Errorf("%q: %v %d", s, got, e)
		}
		if !there && (e != api.ErrForm || len(got) != 0) {
			t.Errorf("%q: %v %d", s, got, e)
		}
	}
}

// P1.4

func TestWhatWasPutIsGot(t *testing.T) {
	short := func(b []byte, n ...uint16) bool {
		got := Put16(b, n...)
		for i, want := range n {
			if x, ok := Get16(got, len(b)+2*i); x != want || !ok {
				return false
			}
		}
		head, ok := Cut(got, 0, len(b))
		return ok && Same(head, b) && len(got) == len(b)+2*len(n)
	}
	long := func(b []byte, n ...uint32) bool {
		got := Put32(b, n...)
		for i, want := range n {
			if x, ok := Get32(got, len(b)+4*i); x != want || !ok {
				return false
			}
		}
		head, ok := Cut(got, 0, len(b))
		return ok && Same(head, b) && len(got) == len(b)+4*len(n)
	}
	if err := quick.Check(func(b []byte, n []uint16) bool { return short(b, n...) }, fixed()); err != nil {
		t.Error(err)
	}
	if err := quick.Check(func(b []byte, n []uint32) bool { return long(b, n...) }, fixed()); err != nil {
		t.Error(err)
	}
}

func TestWhatWasSetIsGot(t *testing.T) {
	set := func(b []byte, n uint16) bool {
		for at := -1; at <= len(b); at++ {
			got, ok := Set16(b, at, n)
			if ok != (at >= 0 && at+2 <= len(b)) {
				return false
			}
			if !ok {
				continue
			}
			if x, there := Get16(got, at); x != n || !there {
				return false
			}
			if !Same(got[:at], b[:at]) || !Same(got[at+2:], b[at+2:]) {
				return false
			}
		}
		return true
	}
	if err := quick.Check(set, fixed()); err != nil {
		t.Error(err)
	}
}

func TestTextsAndPartsComeBack(t *testing.T) {
	back := func(b []byte) bool {
		got, e := Unhex(Hex(b))
		if e != api.OK || !Same(got, b) {
			return false
		}
		for at := range len(b) + 1 {
			head, one := Cut(b, 0, at)
			tail, two := Cut(b, at, len(b)-at)
			if !one || !two || !Same(Join(head, tail), b) {
				return false
			}
		}
		return true
	}
	if err := quick.Check(back, fixed()); err != nil {
		t.Error(err)
	}
}
