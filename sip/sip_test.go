package sip

import (
	"math"
	"testing"

	"linkboy/api"
	"linkboy/roomy"
)

// key is that of the bytes 0 to 15.
var key = api.Key{Lo: 0x0706050403020100, Hi: 0x0f0e0d0c0b0a0908}

// counted answers the bytes 0, 1, 2 ..
func counted(n int) []byte {
	b := make([]byte, n)
	for i := range b {
		b[i] = byte(i)
	}
	return b
}

// sums are those, by key, of no bytes, of the byte 0, of the bytes 0 and 1 .. as the makers of SipHash-2-4 tell them.
var sums = []uint64{
	0x726fdb47dd0e0e31, 0x74f839c593dc67fd, 0x0d6c8009d9a94f5a, 0x85676696d7fb7e2d, 0xcf2794e0277187b7, 0x18765564cd99a68d, 0xcbc9466e58fee3ce, 0xab0200f58b01d137,
	0x93f5f5799a932462, 0x9e0082df0ba9e4b0, 0x7a5dbbc594ddb9f3, 0xf4b32f46226bada7, 0x751e8fbc860ee5fb, 0x14ea5627c0843d90, 0xf723ca908e7af2ee, 0xa129ca6149be45e5,
	0x3f2acc7f57c29bdb, 0x699ae9f52cbe4794, 0x4bc1b3f0968dd39c, 0xbb6dc91da77961bd, 0xbed65cf21aa2ee98, 0xd0f2cbb02e3b67c7, 0x93536795e3a33e88, 0xa80c038ccd5ccec8,
	0xb8ad50c6f649af94, 0xbce192de8a85b8ea, 0x17d835b85bbb15f3, 0x2f2e6163076bcfad, 0xde4daaaca71dc9a5, 0xa6a2506687956571, 0xad87a3535c49ef28, 0x32d892fad841c342,
	0x7127512f72f27cce, 0xa7f32346f95978e3, 0x12e0b01abb051238, 0x15e034d40fa197ae, 0x314dffbe0815a3b4, 0x027990f029623981, 0xcadcd4e59ef40c4d, 0x9abfd8766a33735c,
	0x0e3ea96b5304a7d0, 0xad0c42d6fc585992, 0x187306c89bc215a9, 0xd4a60abcf3792b95, 0xf935451de4f21df2, 0xa9538f0419755787, 0xdb9acddff56ca510, 0xd06c98cd5c0975eb,
	0xe612a3cb9ecba951, 0xc766e62cfcadaf96, 0xee64435a9752fe72, 0xa192d576b245165a, 0x0a8787bf8ecb74b2, 0x81b3e73d20b49b6f, 0x7fa8220ba3b2ecea, 0x245731c13ca42499,
	0xb78dbfaf3a8d83bd, 0xea1ad565322a1a0b, 0x60e61c23a3795013, 0x6606d7e446282b93, 0x6ca4ecb15c5f91e1, 0x9f626da15c9625f3, 0xe51b38608ef25f57, 0x958a324ceb064572,
}

// P13.1, P13.2

func TestSum(t *testing.T) {
	if got := Sum(key, counted(15)); got != 0xa129ca6149be45e5 {
		t.Errorf("%x", got)
	}
	for n, want := range sums {
		if got := Sum(key, counted(n)); got != want {
			t.Errorf("%d bytes: %x", n, got)
		}
	}
	if got := Sum(key, nil); got != sums[0] {
		t.Errorf("%x", got)
	}
}

func TestSumOfOtherKeys(t *testing.T) {
	for _, c := range []struct {
		k    api.Key
		n    int
		want uint64
	}{
		{key, 255, 0xa9c169fec74db21a},
		{key, 256, 0x999d0526d2a7bfd7},
		{key, 257, 0x8a817b8d55b29748},
		{key, 1000, 0xdb9b3ed69e31c9a6},
		{api.Key{}, 0, 0x1e924b9d737700d7},
		{api.Key{}, 8, 0xc72b1c24fc2f7938},
		{api.Key{}, 256, 0x9d3b1c289668a3d1},
		{api.Key{Lo: 1}, 0, 0x54e761ac4b1ca3de},
		{api.Key{Lo: 1}, 7, 0xf3bb3571f6da4e95},
		{api.Key{Hi: 1}, 0, 0xc4235c5247d6521c},
		{api.Key{Hi: 1}, 7, 0xcad359e18821a067},
		{api.Key{Lo: math.MaxUint64, Hi: math.MaxUint64}, 1, 0x63e8f5ae8073d111},
		{api.Key{Lo: math.MaxUint64, Hi: math.MaxUint64}, 1000, 0xeed296a18e541973},
		{api.Key{Lo: 1 << 63, Hi: 0x0123456789abcdef}, 8, 0x83340c298f5282ea},
		{api.Key{Lo: 1 << 63, Hi: 0x0123456789abcdef}, 257, 0xe7fc6317836217da},
	} {
		if got := Sum(c.k, counted(c.n)); got != c.want {
			t.Errorf("%x, %d bytes: %x", c.k, c.n, got)
		}
	}
}

func TestSumKeepsBytes(t *testing.T) {
	for n := range 20 {
		in := roomy.Bytes(counted(n)...)
		Sum(key, in)
		Under(key, in, 7)
		if !roomy.Untouched(in, counted(n)...) {
			t.Errorf("%d bytes are changed", n)
		}
	}
}

func TestUnder(t *testing.T) {
	for n, sum := range sums {
		b := counted(n)
		for _, by := range []int{1, 2, 3, 7, 251, 256, 65537, 1 << 32, 1 << 62, math.MaxInt} {
			if got := Under(key, b, by); uint64(got) != sum%uint64(by) {
				t.Errorf("%d bytes by %d: %d", n, by, got)
			}
		}
		for _, by := range []int{0, -1, -2, -251, math.MinInt} {
			if got := Under(key, b, by); got != 0 {
				t.Errorf("%d bytes by %d: %d", n, by, got)
			}
		}
	}
}
