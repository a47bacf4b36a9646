package cookie

import (
	"math"
	"math/rand"
	"testing"

	"linkboy/api"
)

var (
	one = api.Key{Lo: 1, Hi: 2}
	two = api.Key{Lo: 0x0123456789abcdef, Hi: 0xfedcba9876543210}
	who = api.Flow{Src: 0x0a000009, Dst: 0x0a000001, SrcPort: 40000, DstPort: 80, Proto: 6}
)

// P27.1

func TestSizes(t *testing.T) {
	for i, n := range []uint16{216, 536, 996, 1220, 1300, 1400, 1440, 1460} {
		if Size(i) != n || Index(n) != i || Index(n-1) != max(i-1, 0) || Index(n+1) != i {
			t.Error(i, n, Size(i), Index(n), Index(n-1), Index(n+1))
		}
	}
	for _, i := range []int{-1, 8, 9, math.MinInt, math.MaxInt} {
		if Size(i) != 0 {
			t.Error(i, Size(i))
		}
	}
	for n, want := range map[uint16]int{0: 0, 100: 0, 500: 0, 1000: 2, 1459: 6, 1500: 7, 65535: 7} {
		if Index(n) != want {
			t.Error(n, Index(n))
		}
	}
}

// P27.2

// TestMake holds numbers against those that another program told.
func TestMake(t *testing.T) {
	for _, x := range []struct {
		k        api.Key
		f        api.Flow
		isn      uint32
		epoch, i int
		want     uint32
	}{
		{one, who, 0, 0, 0, 0x0004106c},
		{one, who, 0x12345678, 5, 3, 0x2b592675},
		{two, who, 0xffffffff, 31, 7, 0xfffaf6ce},
		{two, who, 0xffffffff, 32, 8, 0x007ed303},
		{one, who, 1, -1, -5, 0x001690bb},
		{one, api.Flow{Src: 0xffffffff, SrcPort: 65535, Proto: 255}, 1, 4611686018427387937, 9, 0x099d60ce},
	} {
		if got := Make(x.k, x.f, x.isn, x.epoch, x.i); got != x.want {
			t.Errorf("%v %x", x, got)
		}
	}
}

func TestMakeGoesRound(t *testing.T) {
	for _, n := range []int{0, -1, math.MinInt} {
		if Make(one, who, 7, n, n) != Make(one, who, 7, 0, 0) {
			t.Error(n)
		}
	}
	if Make(one, who, 7, math.MaxInt, math.MaxInt) != Make(one, who, 7, 31, 7) || Make(one, who, 7, 64+9, 16+5) != Make(one, who, 7, 9, 5) {
		t.Error("numbers don't go round")
	}
}

func TestEpochAndPlace(t *testing.T) {
	for v, want := range map[uint32][2]int{0: {0, 0}, 1<<24 - 1: {0, 0}, 1 << 24: {0, 1}, 1<<27 - 1: {0, 7}, 1 << 27: {1, 0}, math.MaxUint32: {31, 7}, 0x2b592675: {5, 3}, 0x80000000: {16, 0}} {
		if Epoch(v) != want[0] || Place(v) != want[1] {
			t.Error(v, Epoch(v), Place(v))
		}
	}
	for epoch := range 40 {
		for i := range 10 {
			if v := Make(two, who, 3, epoch, i); Epoch(v) != epoch%32 || Place(v) != i%8 {
				t.Error(epoch, i, v)
			}
		}
	}
}

// P27.3

func TestRight(t *testing.T) {
	s := Secrets{Now: one, Last: two, Epoch: 5}
	now, last := Make(one, who, 9, 5, 3), Make(two, who, 9, 4, 6)
	if !Right(s, who, 9, now) || !Right(s, who, 9, last) {
		t.Error("a number of one of the two keys isn't right")
	}
	for _, v := range []uint32{Make(two, who, 9, 5, 3), Make(one, who, 9, 4, 3), Make(one, who, 9, 6, 3), Make(two, who, 9, 3, 3), Make(one, who, 9, 21, 3), now + 1, now ^ 1<<24, now ^ 1<<27, now ^ 1<<23, last - 1, 0} {
		if Right(s, who, 9, v) {
			t.Error(v)
		}
	}
	other := who
	other.SrcPort++
	for _, v := range []uint32{now, last} {
		if Right(s, who, 10, v) || Right(s, other, 9, v) || Right(Secrets{Epoch: 5}, who, 9, v) {
			t.Error(v)
		}
	}
}

// TestRightFirst has no key ahead of the first one, whatever stands there.
func TestRightFirst(t *testing.T) {
	for _, epoch := range []int{0, -1, -31, math.MinInt} {
		s := Secrets{Now: one, Last: two, Epoch: epoch}
		for e := range 32 {
			if Right(s, who, 9, Make(two, who, 9, e, 1)) {
				t.Error(epoch, e, "the one ahead counts")
			}
			if Right(s, who, 9, Make(one, who, 9, e, 1)) != (e == 0) {
				t.Error(epoch, e)
			}
		}
	}
}

// TestRightGoesRound has each of 32 epochs told, by many an epoch of the secrets.
func TestRightGoesRound(t *testing.T) {
	for _, epoch := range []int{1, 2, 31, 32, 33, 63, 64, 1000, 1 << 30, 1<<30 + 1, math.MaxInt} {
		s := Secrets{Now: one, Last: two, Epoch: epoch}
		for e := range 32 {
			if Right(s, who, 9, Make(one, who, 9, e, 1)) != (e == epoch%32) || Right(s, who, 9, Make(two, who, 9, e, 1)) != (e == (epoch-1)%32) {
				t.Error(epoch, e)
			}
		}
	}
}

func TestFresh(t *testing.T) {
	for epoch, want := range map[int]int{0: 1, 1: 2, 31: 32, -1: 1, math.MinInt: 1, 1<<30 - 1: 1 << 30, 1 << 30: 1<<30 + 1, 1<<30 + 1: 1<<30 + 1, math.MaxInt: 1<<30 + 1} {
		if s := Fresh(Secrets{Now: one, Last: api.Key{Lo: 9}, Epoch: epoch}, two); s != (Secrets{Now: two, Last: one, Epoch: want}) {
			t.Error(epoch, s)
		}
	}
	if s := Fresh(Secrets{}, one); s != (Secrets{Now: one, Epoch: 1}) {
		t.Error(s)
	}
}

func TestIssue(t *testing.T) {
	for _, epoch := range []int{0, 5, 33, -3, math.MaxInt} {
		s := Secrets{Now: one, Last: two, Epoch: epoch}
		if Issue(s, who, 9, 3) != Make(one, who, 9, max(epoch, 0)%32, 3) || Issue(s, who, 9, -3) != Make(one, who, 9, epoch, 0) || Issue(s, who, 9, 11) != Make(one, who, 9, epoch, 3) {
			t.Error(epoch)
		}
	}
}

// P27.4

func TestIssuedIsRight(t *testing.T) {
	r := rand.New(rand.NewSource(27))
	s := Secrets{Now: one}
	for n := range 200 {
		f := api.Flow{Src: r.Uint32(), Dst: r.Uint32(), SrcPort: uint16(r.Uint32()), DstPort: uint16(r.Uint32()), Proto: 6}
		isn, i := r.Uint32(), r.Intn(10)-1
		v := Issue(s, f, isn, i)
		next := Fresh(s, api.Key{Lo: r.Uint64(), Hi: r.Uint64()})
		later := Fresh(next, api.Key{Lo: r.Uint64(), Hi: r.Uint64()})
		if !Right(s, f, isn, v) || !Right(next, f, isn, v) || Right(later, f, isn, v) || Right(next, f, isn+1, v) {
			t.Error(n, f, isn, i)
		}
		s = next
	}
}
