package addr

import (
	"math"
	"math/rand"
	"strings"
	"testing"

	"linkboy/api"
)

// ip answers the address of four numbers.
func ip(a, b, c, d uint32) uint32 {
	return a<<24 | b<<16 | c<<8 | d
}

// P3.1

func TestTextAndParse(t *testing.T) {
	for _, c := range []struct {
		a    uint32
		text string
	}{
		{167772415, "10.0.0.255"},
		{0, "0.0.0.0"},
		{math.MaxUint32, "255.255.255.255"},
		{1, "0.0.0.1"},
		{1 << 24, "1.0.0.0"},
		{ip(1, 2, 3, 4), "1.2.3.4"},
		{ip(127, 0, 0, 1), "127.0.0.1"},
		{ip(9, 10, 99, 100), "9.10.99.100"},
		{ip(249, 250, 199, 200), "249.250.199.200"},
		{ip(0, 255, 0, 255), "0.255.0.255"},
	} {
		if got := Text(c.a); got != c.text {
			t.Errorf("%x: %q", c.a, got)
		}
		if got, e := Parse(c.text); got != c.a || e != api.OK {
			t.Errorf("%q: %x %d", c.text, got, e)
		}
	}
}

func TestParseRefuses(t *testing.T) {
	for _, s := range []string{
		"", ".", "...", "....", "1", "1.2", "1.2.3", "1.2.3.", ".1.2.3", "1..2.3", "1.2..3", "1.2.3.4.", ".1.2.3.4", "1.2.3.4.5", "0.0.0.0.0", "0.1.2.3.4",
		"10.0.0.01", "00.0.0.0", "01.2.3.4", "1.02.3.4", "1.2.003.4", "0.0.0.00", "256.0.0.0", "0.256.0.0", "0.0.256.0", "0.0.0.256", "1.2.3.1000", "999.1.1.1",
		"1.2.3.4294967296", "1.2.3.4294967300", "4294967297.2.3.4", "1.2.3.18446744073709551620", "16909060", "1.2.772",
		" 1.2.3.4", "1.2.3.4 ", "1. 2.3.4", "1.2.3.4\n", "1.2.3.4\x00", "+1.2.3.4", "-1.2.3.4", "1.2.3.-4", "1.2.3.4/8", "1,2,3,4", "1:2:3:4", "0x1.2.3.4", "a.b.c.d", "1.2.3.a",
		"1.2.3.:", "1.2.3./", "\u0661.2.3.4", "1\uff0e2\uff0e3\uff0e4", "1.2.3.\uff14", "1.2.3.4\xff", "\xff.2.3.4", "1.2.3.4\u0301", "\U00010031.2.3.4", "localhost",
	} {
		if got, e := Parse(s); got != 0 || e != api.ErrForm {
			t.Errorf("%q: %x %d", s, got, e)
		}
	}
}

func TestMacTextAndParse(t *testing.T) {
	for _, c := range []struct {
		m    api.Mac
		text string
	}{
		{api.Mac{}, "00:00:00:00:00:00"},
		{api.Mac{255, 255, 255, 255, 255, 255}, "ff:ff:ff:ff:ff:ff"},
		{api.Mac{1, 2, 3, 4, 5, 6}, "01:02:03:04:05:06"},
		{api.Mac{0x02, 0x9a, 0xbc, 0xde, 0xf0, 0x1f}, "02:9a:bc:de:f0:1f"},
		{api.Mac{0, 0, 0, 0, 0, 10}, "00:00:00:00:00:0a"},
		{api.Mac{160}, "a0:00:00:00:00:00"},
	} {
		if got := MacText(c.m); got != c.text {
			t.Errorf("%x: %q", c.m, got)
		}
		if got, e := ParseMac(c.text); got != c.m || e != api.OK {
			t.Errorf("%q: %x %d", c.text, got, e)
		}
	}
}

func TestParseMacRefuses(t *testing.T) {
	for _, s := range []string{
		"", ":", ":::::", "01", "010203040506", "01:02:03:04:05", "01:02:03:04:05:", "01:02:03:04:05:6", "1:2:3:4:5:6", "01:02:03:04:05:06:", ":01:02:03:04:05:06",
		"01:02:03:04:05:06:07", "01:02:03:04:0506", "0102:03:04:05:06", "0:10:20:30:40:506", "01::02:03:04:05:06", "01:02:03:04::0506", "001:02:03:04:05:06",
		"01-02-03-04-05-06", "0102.0304.0506", "0A:00:00:00:00:00", "FF:FF:FF:FF:FF:FF", "0g:00:00:00:00:00", "00:00:00:00:00:0g", "00:00:00:00:00:0:",
		" 01:02:03:04:05:06", "01:02:03:04:05:06 ", "01:02:03:04:05:06\n", "01:02:03:04:05:0\u00e9", "01:02:03:04:05:\uff10\uff16", "01:02:03:04:05:06\xff", "01 02 03 04 05 06",
		strings.Repeat("01:", 100), strings.Repeat(":", 17),
	} {
		if got, e := ParseMac(s); got != (api.Mac{}) || e != api.ErrForm {
			t.Errorf("%q: %x %d", s, got, e)
		}
	}
}

// P3.2

func TestMask(t *testing.T) {
	for _, c := range []struct {
		bits int
		want uint32
	}{
		{math.MinInt, 0}, {-33, 0}, {-1, 0}, {0, 0}, {1, 1 << 31}, {2, 3 << 30}, {8, 0xff000000}, {9, 0xff800000}, {16, 0xffff0000}, {24, 0xffffff00},
		{30, 0xfffffffc}, {31, 0xfffffffe}, {32, 0xffffffff}, {33, 0xffffffff}, {64, 0xffffffff}, {65, 0xffffffff}, {1 << 32, 0xffffffff}, {math.MaxInt, 0xffffffff},
	} {
		if got := Mask(c.bits); got != c.want {
			t.Errorf("%d: %x", c.bits, got)
		}
	}
}

func TestIn(t *testing.T) {
	for _, c := range []struct {
		a, net uint32
		bits   int
		want   bool
	}{
		{ip(10, 1, 2, 3), ip(10, 0, 0, 0), 8, true},
		{ip(10, 1, 2, 3), ip(10, 9, 9, 9), 8, true},
		{ip(11, 1, 2, 3), ip(10, 1, 2, 3), 8, false},
		{ip(11, 1, 2, 3), ip(10, 1, 2, 3), 7, true},
		{ip(10, 1, 2, 3), ip(10, 1, 2, 2), 32, false},
		{ip(10, 1, 2, 3), ip(10, 1, 2, 2), 31, true},
		{ip(10, 1, 2, 3), ip(10, 1, 2, 3), 32, true},
		{ip(10, 1, 2, 3), ip(10, 1, 2, 2), 33, false},
		{ip(10, 1, 2, 3), ip(10, 1, 2, 2), math.MaxInt, false},
		{0, math.MaxUint32, 0, true},
		{0, math.MaxUint32, -1, true},
		{0, math.MaxUint32, math.MinInt, true},
		{0, 1 << 31, 1, false},
		{0, 1<<31 - 1, 1, true},
	} {
		if got := In(c.a, c.net, c.bits); got != c.want {
			t.Errorf("%s in %s by %d: %v", Text(c.a), Text(c.net), c.bits, got)
		}
	}
}

func TestSpecial(t *testing.T) {
	for _, c := range []struct {
		a    uint32
		want bool
	}{
		{0, true}, {1, false}, {ip(0, 255, 255, 255), false}, {ip(10, 0, 0, 1), false},
		{ip(126, 255, 255, 255), false}, {ip(127, 0, 0, 0), true}, {ip(127, 0, 0, 1), true}, {ip(127, 200, 3, 4), true}, {ip(127, 255, 255, 255), true}, {ip(128, 0, 0, 0), false},
		{ip(223, 255, 255, 255), false}, {ip(224, 0, 0, 0), true}, {ip(224, 0, 0, 1), true}, {ip(239, 255, 255, 255), true}, {ip(240, 0, 0, 0), true},
		{ip(255, 0, 0, 0), true}, {ip(255, 255, 255, 254), true}, {math.MaxUint32, true},
	} {
		if got := Special(c.a); got != c.want {
			t.Errorf("%s: %v", Text(c.a), got)
		}
	}
}

func TestHost(t *testing.T) {
	for _, c := range []struct {
		a, net uint32
		bits   int
		want   bool
	}{
		{ip(10, 0, 0, 1), ip(10, 0, 0, 0), 24, true},
		{ip(10, 0, 0, 1), ip(10, 0, 0, 77), 24, true},
		{ip(10, 0, 0, 254), ip(10, 0, 0, 0), 24, true},
		{ip(10, 0, 0, 0), ip(10, 0, 0, 0), 24, false},
		{ip(10, 0, 0, 0), ip(10, 0, 0, 77), 24, false},
		{ip(10, 0, 0, 255), ip(10, 0, 0, 0), 24, false},
		{ip(10, 0, 1, 1), ip(10, 0, 0, 0), 24, false},
		{ip(10, 0, 0, 255), ip(10, 0, 0, 0), 23, true},
		{ip(10, 0, 1, 0), ip(10, 0, 0, 0), 23, true},
		{ip(10, 0, 0, 4), ip(10, 0, 0, 4), 30, false},
		{ip(10, 0, 0, 5), ip(10, 0, 0, 4), 30, true},
		{ip(10, 0, 0, 6), ip(10, 0, 0, 4), 30, true},
		{ip(10, 0, 0, 7), ip(10, 0, 0, 4), 30, false},
		{ip(10, 0, 0, 4), ip(10, 0, 0, 4), 31, true},
		{ip(10, 0, 0, 5), ip(10, 0, 0, 4), 31, true},
		{ip(10, 0, 0, 6), ip(10, 0, 0, 4), 31, false},
		{ip(10, 0, 0, 4), ip(10, 0, 0, 4), 32, true},
		{ip(10, 0, 0, 5), ip(10, 0, 0, 4), 32, false},
		{ip(10, 0, 0, 4), ip(10, 0, 0, 4), 40, true},
		{ip(10, 0, 0, 5), ip(10, 0, 0, 4), math.MaxInt, false},
		{ip(1, 2, 3, 4), ip(200, 0, 0, 0), 0, true},
		{ip(1, 2, 3, 4), ip(200, 0, 0, 0), -5, true},
		{ip(1, 2, 3, 4), ip(200, 0, 0, 0), math.MinInt, true},
		{0, 0, 0, false}, {0, 0, 32, false}, {0, 0, 31, false}, {1, 0, 31, true},
		{math.MaxUint32, 0, 0, false}, {math.MaxUint32, math.MaxUint32, 32, false}, {math.MaxUint32, math.MaxUint32, 31, false},
		{ip(127, 0, 0, 1), ip(127, 0, 0, 0), 8, false},
		{ip(127, 0, 0, 1), ip(127, 0, 0, 1), 32, false},
		{ip(224, 0, 0, 1), ip(224, 0, 0, 0), 24, false},
		{ip(128, 0, 0, 0), 0, 1, false}, {ip(127, 255, 255, 255), 0, 1, false}, {ip(128, 0, 0, 0), ip(128, 0, 0, 0), 1, false}, {ip(128, 0, 0, 1), ip(128, 0, 0, 0), 1, true},
	} {
		if got := Host(c.a, c.net, c.bits); got != c.want {
			t.Errorf("%s in %s by %d: %v", Text(c.a), Text(c.net), c.bits, got)
		}
	}
}

// P3.3

func TestTextsComeBack(t *testing.T) {
	r := rand.New(rand.NewSource(3))
	edges := []uint32{0, 1, 9, 10, 99, 100, 127, 199, 200, 249, 250, 255}
	for range 5000 {
		a := ip(edges[r.Intn(len(edges))], edges[r.Intn(len(edges))], uint32(r.Intn(256)), uint32(r.Intn(256)))
		if got, e := Parse(Text(a)); got != a || e != api.OK {
			t.Errorf("%x: %x %d", a, got, e)
		}
		var m api.Mac
		r.Read(m[:])
		if got, e := ParseMac(MacText(m)); got != m || e != api.OK {
			t.Errorf("%x: %x %d", m, got, e)
		}
	}
}

// TestOtherTexts goes through texts that are nearly an address: what is taken is the text of what it is taken for.
func TestOtherTexts(t *testing.T) {
	r := rand.New(rand.NewSource(4))
	letters := "0129.:af"
	for range 20000 {
		text := []byte(Text(r.Uint32()))
		if r.Intn(2) == 0 {
			var m api.Mac
			r.Read(m[:])
			text = []byte(MacText(m))
		}
		at := r.Intn(len(text))
		switch r.Intn(3) {
		case 0:
			text[at] = letters[r.Intn(len(letters))]
		case 1:
			text = append(text[:at], text[at+1:]...)
		case 2:
			text = append(text[:at+1], text[at:]...)
		}
		s := string(text)
		if a, e := Parse(s); e == api.OK && Text(a) != s || e != api.OK && (a != 0 || e != api.ErrForm) {
			t.Errorf("%q: %x %d", s, a, e)
		}
		if m, e := ParseMac(s); e == api.OK && MacText(m) != s || e != api.OK && (m != api.Mac{} || e != api.ErrForm) {
			t.Errorf("%q: %x %d", s, m, e)
		}
	}
}
