package count

import (
	"bytes"
	"math"
	"math/rand"
	"strings"
	"testing"

	"linkboy/api"
	"linkboy/roomy"
)

// counted answers the counts 1, 2, 3 ..
func counted() Counts {
	var c Counts
	for k := range c {
		c[k] = uint32(k) + 1
	}
	return c
}

// P36.1

func TestAdd(t *testing.T) {
	for k := range 37 {
		want := counted()
		want[k]++
		if got := Add(counted(), k); got != want {
			t.Error(k, got)
		}
		c := counted()
		c[k] = math.MaxUint32 - 1
		want[k] = math.MaxUint32
		if got := Add(c, k); got != want {
			t.Error(k, got)
		}
		if got := Add(Add(c, k), k); got != want {
			t.Error(k, got)
		}
	}
	for _, k := range []int{-1, 37, 38, math.MinInt, math.MaxInt} {
		if got := Add(counted(), k); got != counted() {
			t.Error(k, got)
		}
	}
}

func TestSumAndLess(t *testing.T) {
	for _, x := range []struct{ a, b, sum, less uint32 }{
		{0, 0, 0, 0}, {1, 2, 3, 0}, {2, 1, 3, 1}, {5, 5, 10, 0}, {math.MaxUint32, 0, math.MaxUint32, math.MaxUint32}, {math.MaxUint32, 1, math.MaxUint32, math.MaxUint32 - 1},
		{math.MaxUint32, math.MaxUint32, math.MaxUint32, 0}, {1 << 31, 1 << 31, math.MaxUint32, 0}, {1 << 31, 1<<31 - 1, math.MaxUint32, 1}, {1<<31 - 1, 1<<31 - 1, math.MaxUint32 - 1, 0},
	} {
		for k := range 37 {
			a, b := counted(), counted()
			a[k], b[k] = x.a, x.b
			sum, less := Sum(a, b), Less(a, b)
			for i := range 37 {
				wantSum, wantLess := 2*(uint32(i)+1), uint32(0)
				if i == k {
					wantSum, wantLess = x.sum, x.less
				}
				if sum[i] != wantSum || less[i] != wantLess {
					t.Fatal(x, k, i, sum, less)
				}
			}
		}
	}
}

func TestBytes(t *testing.T) {
	var want []byte
	for k := range 37 {
		want = append(want, 0, 0, 0, byte(k)+1)
	}
	if got := Bytes(counted()); !bytes.Equal(got, want) {
		t.Error(got)
	}
	c := Counts{0: 0x01020304, 36: math.MaxUint32}
	got := Bytes(c)
	if len(got) != 148 || !bytes.Equal(got[:5], []byte{1, 2, 3, 4, 0}) || !bytes.Equal(got[143:], []byte{0, 255, 255, 255, 255}) {
		t.Error(got)
	}
}

func TestOf(t *testing.T) {
	b := roomy.Bytes(Bytes(counted())...)
	if c, ok := Of(b); c != counted() || !ok || !roomy.Untouched(b, Bytes(counted())...) {
		t.Error(c, ok)
	}
	for n := range 300 {
		l := bytes.Repeat([]byte{9}, n)
		if c, ok := Of(l); ok != (n == 148) || !ok && c != (Counts{}) {
			t.Error(n, c, ok)
		}
	}
}

// P36.2

const inOrder = "in, out, ring-full, giant, tx-full, no-buffer, queue-full, no-answer, ether, arp, ip, not-mine, fragment, expired, proto, header, no-vip, no-backend, too-big, untracked, tracked, cookie, bad-cookie, not-joined, joined, steered, lost, echo, order, refused, forged, replayed, probe, probe-good, probe-bad, forward, over"

func TestNames(t *testing.T) {
	l := strings.Split(inOrder, ", ")
	if len(l) != api.CntAll {
		t.Fatal(len(l))
	}
	for k, name := range l {
		if Name(k) != name {
			t.Error(k, Name(k))
		}
		if got, ok := Find(name); got != k || !ok {
			t.Error(name, got, ok)
		}
	}
	for _, k := range []int{-1, 37, 38, math.MinInt, math.MaxInt} {
		if Name(k) != "" {
			t.Error(k, Name(k))
		}
	}
	for _, s := range []string{"", "i", "In", "in ", "ring", "ring-full-", "forward 1", "all"} {
		if k, ok := Find(s); k != 0 || ok {
			t.Error(s, k, ok)
		}
	}
	for k, name := range map[int]string{api.CntIn: "in", api.CntNoVip: "no-vip", api.CntBadCookie: "bad-cookie", api.CntReplayed: "replayed", api.CntForward: "forward", api.CntOver: "over"} {
		if Name(k) != name {
			t.Error(k, Name(k))
		}
	}
}

func TestLines(t *testing.T) {
	for _, x := range []struct {
		c    Counts
		want string
	}{
		{Counts{}, ""},
		{Add(Counts{}, api.CntForward), "forward 1\n"},
		{Counts{0: 12, 8: math.MaxUint32, 36: 1}, "in 12\nether 4294967295\nover 1\n"},
	} {
		if got := Lines(x.c); got != x.want {
			t.Errorf("%q", got)
		}
	}
	if got := strings.Count(Lines(counted()), "\n"); got != 37 {
		t.Error(got)
	}
}

// P36.3

func TestCountsAreThoseOfTheirBytes(t *testing.T) {
	r := rand.New(rand.NewSource(36))
	seen := map[string]int{}
	for k := range 37 {
		seen[Name(k)]++
	}
	if len(seen) != 37 {
		t.Error(seen)
	}
	for range 500 {
		var c Counts
		for k := range c {
			c[k] = r.Uint32() >> r.Intn(32)
		}
		if got, ok := Of(Bytes(c)); got != c || !ok {
			t.Fatal(c, got, ok)
		}
	}
}
