package sum

import (
	"bytes"
	"math"
	"math/rand"
	"testing"

	"linkboy/octet"
	"linkboy/roomy"
)

// rest answers the ones sum in another way: what is left of the bytes as one great number by 65535; only if all bytes are 0 it is 0.
func rest(b []byte) uint16 {
	var n uint64
	zero := true
	for _, x := range b {
		n = (n<<8 | uint64(x)) % 65535
		zero = zero && x == 0
	}
	if len(b)%2 == 1 {
		n = n << 8 % 65535
	}
	if n == 0 && !zero {
		return 65535
	}
	return uint16(n)
}

// P2.1

func TestOnes(t *testing.T) {
	for _, c := range []struct {
		l    [][]byte
		want uint16
	}{
		{nil, 0},
		{[][]byte{nil, {}}, 0},
		{[][]byte{{0, 1, 242, 3}}, 61956},
		{[][]byte{{1}}, 256},
		{[][]byte{{0, 0, 0}}, 0},
		{[][]byte{{255}}, 65280},
		{[][]byte{{255, 255}}, 65535},
		{[][]byte{{255, 255, 255, 255}}, 65535},
		{[][]byte{{255, 255, 0, 1}}, 1},
		{[][]byte{{128, 0, 128, 0}}, 1},
		{[][]byte{{255, 254, 0, 1}}, 65535},
		{[][]byte{{0, 1, 0xf2, 3, 0xf4, 0xf5, 0xf6, 0xf7}}, 0xddf2},
		{[][]byte{{1}, {2}}, 0x0102},
		{[][]byte{{1}, {2, 3}, {4}, nil, {5}}, 0x0102 + 0x0304 + 0x0500},
		{[][]byte{{1, 2, 3}, {4}}, 0x0102 + 0x0304},
	} {
		if got := Ones(c.l...); got != c.want {
			t.Errorf("Ones of %v: %d", c.l, got)
		}
		if got := Of(c.l...); got != 65535-c.want {
			t.Errorf("Of of %v: %d", c.l, got)
		}
		if got := Right(c.l...); got != (c.want == 65535) {
			t.Errorf("Right of %v: %v", c.l, got)
		}
	}
	if got := Of([]byte{0, 1, 242, 3}); got != 3579 {
		t.Error(got)
	}
}

func TestOnesOfMany(t *testing.T) {
	r := rand.New(rand.NewSource(2))
	for n := range 300 {
		b := make([]byte, n)
		r.Read(b)
		want := rest(b)
		one, two := r.Intn(n+1), r.Intn(n+1)
		one, two = min(one, two), max(one, two)
		if got := Ones(b[:one], b[one:two], b[two:]); got != want {
			t.Errorf("%d bytes, cut at %d and %d: %d, not %d", n, one, two, got, want)
		}
	}
	long := bytes.Repeat([]byte{255}, 1<<20)
	if got := Ones(long, []byte{0, 7}); got != 7 {
		t.Error(got)
	}
}

func TestOnesKeepsBytes(t *testing.T) {
	a, b := roomy.Bytes(1, 2, 3), roomy.Bytes(4)
	Ones(a, b)
	Of(a, b)
	Right(a, b)
	if !roomy.Untouched(a, 1, 2, 3) || !roomy.Untouched(b, 4) {
		t.Error("what was handed in is changed")
	}
	l := [][]byte{a, b, nil}[:2]
	Of(l...)
	if l[:3][2] != nil {
		t.Error("what stands behind the rows is changed")
	}
}

// P2.2

func TestFold(t *testing.T) {
	for _, c := range []struct {
		n    uint64
		want uint16
	}{
		{0, 0}, {1, 1}, {65534, 65534}, {65535, 65535}, {65536, 1}, {65537, 2}, {131070, 65535}, {131071, 1},
		{0x1fffe, 0xffff}, {0xffffffff, 0xffff}, {0xfffeffff, 0xfffe}, {1 << 63, 1 << 15}, {1 << 32, 1},
		{math.MaxUint64, 65535}, {math.MaxUint64 - 1, 65534}, {math.MaxUint64 - 65535, 65535}, {0x0001000200030004, 10},
		{0xffff0000ffff0001, 1},
	} {
		if got := Fold(c.n); got != c.want {
			t.Errorf("%x: %x", c.n, got)
		}
	}
}

func TestFoldKeepsTheRest(t *testing.T) {
	r := rand.New(rand.NewSource(3))
	for range 2000 {
		n := r.Uint64() >> r.Intn(64)
		got := Fold(n)
		if uint64(got)%65535 != n%65535 || (got == 0) != (n == 0) {
			t.Errorf("%x: %x", n, got)
		}
	}
}

func TestTurn(t *testing.T) {
	for _, c := range []struct{ s, old, next, want uint16 }{
		{0xdd2f, 0x5555, 0x3285, 0x0000},
		{3579, 0, 0, 3579},
		{3579, 242<<8 | 3, 242<<8 | 4, 3578},
		{0, 0, 0, 0},
		{65535, 0, 0, 0},
		{65535, 7, 7, 0},
		{65535, 65535, 0, 65535},
		{65535, 0, 65535, 0},
		{0, 65535, 0, 0},
		{0, 1, 0, 1},
		{0, 0, 1, 65534},
		{1, 0, 1, 0},
		{0, 65535, 65535, 0},
	} {
		if got := Turn(c.s, c.old, c.next); got != c.want {
			t.Errorf("%x, %x, %x: %x, not %x", c.s, c.old, c.next, got, c.want)
		}
	}
}

func TestTurn32(t *testing.T) {
	for _, c := range []struct {
		s         uint16
		old, next uint32
		want      uint16
	}{
		{3579, 0x0001f203, 0x0001f204, 3578},
		{3579, 0x0001f203, 0x0002f203, 3578},
		{0, 0x00010002, 0x00030005, 65530},
		{0, 0, 0x0000ffff, 0},
		{65535, 0, 0, 0},
		{65535, 0xffffffff, 0, 65535},
		{0, 0xffff0000, 0, 0},
		{0, 0xffff0001, 0x00000001, 0},
		{65535, 0xffff0000, 0x00000001, 65534},
		{65535, 0x0000ffff, 0x00010000, 65534},
	} {
		if got := Turn32(c.s, c.old, c.next); got != c.want {
			t.Errorf("%x, %x, %x: %x, not %x", c.s, c.old, c.next, got, c.want)
		}
	}
}

// P2.3

func TestTurnIsTheNewSum(t *testing.T) {
	r := rand.New(rand.NewSource(4))
	few := []byte{0, 0, 1, 127, 128, 255}
	for i := range 5000 {
		b := make([]byte, 4+r.Intn(20))
		r.Read(b)
		if i%2 == 0 {
			for j := range b {
				b[j] = few[r.Intn(len(few))]
			}
		}
		at := 2 * r.Intn((len(b)-2)/2)
		old, _ := octet.Get32(b, at)
		next := r.Uint32() >> (16 * r.Intn(2)) << (16 * r.Intn(2))
		elder := Of(b)
		two, _ := octet.Set16(b, at, uint16(next>>16))
		if got, want := Turn(elder, uint16(old>>16), uint16(next>>16)), Of(two); got != want && Ones(two) != 0 {
			t.Errorf("% x, at %d %x: %x, not %x", b, at, next>>16, got, want)
		}
		four, _ := octet.Set16(two, at+2, uint16(next))
		if got, want := Turn32(elder, old, next), Of(four); got != want && Ones(two) != 0 && Ones(four) != 0 {
			t.Errorf("% x, at %d %x: %x, not %x", b, at, next, got, want)
		}
	}
}

func TestBytesWithTheirSumAreRight(t *testing.T) {
	r := rand.New(rand.NewSource(5))
	for range 2000 {
		b := make([]byte, 2+r.Intn(30))
		r.Read(b)
		at := 2 * r.Intn(len(b)/2)
		b, _ = octet.Set16(b, at, 0)
		if right, _ := octet.Set16(b, at, Of(b)); !Right(right) {
			t.Errorf("% x", right)
		}
		if wrong, _ := octet.Set16(b, at, Of(b)^1); Right(wrong) {
			t.Errorf("% x", wrong)
		}
	}
}
