package perm

import (
	"math"
	"math/rand"
	"slices"
	"testing"

	"linkboy/api"
	"linkboy/sip"
)

// primes are those from 2 to 251.
var primes = []int{
	2, 3, 5, 7, 11, 13, 17, 19, 23, 29, 31, 37, 41, 43, 47, 53, 59, 61, 67, 71, 73, 79, 83, 89, 97, 101, 103, 107, 109, 113,
	127, 131, 137, 139, 149, 151, 157, 163, 167, 173, 179, 181, 191, 193, 197, 199, 211, 223, 227, 229, 233, 239, 241, 251,
}

// others are numbers that are no such primes.
var others = []int{math.MinInt, -251, -7, -2, -1, 0, 1, 4, 6, 8, 9, 15, 25, 49, 121, 169, 221, 247, 249, 250, 252, 253, 255, 256, 257, 263, 509, 65537, math.MaxInt}

// P18.1

func TestPrime(t *testing.T) {
	for m := -300; m <= 1000; m++ {
		if Prime(m) != slices.Contains(primes, m) {
			t.Error(m, Prime(m))
		}
	}
	for _, m := range others {
		if Prime(m) {
			t.Error(m)
		}
	}
}

func TestOthersAreNothing(t *testing.T) {
	for _, m := range others {
		if a, b := Start(api.Key{Lo: 1}, 3, m); a != 0 || b != 0 {
			t.Error(m, a, b)
		}
		if l := Row(api.Key{Lo: 1}, 3, m); len(l) != 0 {
			t.Error(m, l)
		}
		for j := -1; j < 5; j++ {
			if n := At(api.Key{Lo: 1}, 3, m, j); n != 0 {
				t.Error(m, j, n)
			}
		}
	}
}

// P18.2

func TestStart(t *testing.T) {
	for _, k := range []api.Key{{}, {Lo: 1}, {Hi: 1}, {Lo: 0x0706050403020100, Hi: 0x0f0e0d0c0b0a0908}} {
		for _, c := range []struct {
			id int
			b  [4]byte
		}{
			{0, [4]byte{}}, {1, [4]byte{0, 0, 0, 1}}, {0x01020304, [4]byte{1, 2, 3, 4}}, {-1, [4]byte{255, 255, 255, 255}}, {1<<32 - 1, [4]byte{255, 255, 255, 255}},
			{1 << 32, [4]byte{}}, {1<<32 + 0x01020304, [4]byte{1, 2, 3, 4}}, {-1 << 31, [4]byte{128, 0, 0, 0}}, {math.MinInt, [4]byte{}}, {math.MaxInt, [4]byte{255, 255, 255, 255}},
		} {
			for _, m := range primes {
				first, step := Start(k, c.id, m)
				want := sip.Sum(k, append(c.b[:], 0, 0, 0, 0)) % uint64(m)
				by := sip.Sum(k, append(c.b[:], 0, 0, 0, 1))%uint64(m-1) + 1
				if first != int(want) || step != int(by) {
					t.Error(k, c.id, m, first, step)
				}
			}
		}
	}
}

// TestStartToldByAnother has numbers that another program told.
func TestStartToldByAnother(t *testing.T) {
	k := api.Key{Lo: 0x0706050403020100, Hi: 0x0f0e0d0c0b0a0908}
	for _, c := range []struct{ id, m, first, step int }{
		{0, 2, 1, 1}, {1, 2, 0, 1}, {0, 251, 191, 195}, {1, 251, 183, 40}, {2, 251, 174, 36}, {16, 13, 11, 1}, {-1, 251, 142, 201}, {77, 101, 54, 82},
	} {
		if first, step := Start(k, c.id, c.m); first != c.first || step != c.step {
			t.Error(c, first, step)
		}
	}
}

func TestOfTwoTheSecondIsOne(t *testing.T) {
	for id := range 50 {
		first, step := Start(api.Key{Lo: 5, Hi: 6}, id, 2)
		if step != 1 || first < 0 || first > 1 {
			t.Error(id, first, step)
		}
		if l := Row(api.Key{Lo: 5, Hi: 6}, id, 2); !slices.Equal(l, []int{first, 1 - first}) {
			t.Error(id, l)
		}
	}
}

func TestRowAndAt(t *testing.T) {
	r := rand.New(rand.NewSource(18))
	for range 200 {
		k := api.Key{Lo: r.Uint64(), Hi: r.Uint64()}
		id, m := r.Intn(100)-10, primes[r.Intn(len(primes))]
		first, step := Start(k, id, m)
		l := Row(k, id, m)
		if len(l) != m {
			t.Fatal(m, l)
		}
		place := first
		for j := range m {
			if l[j] != place || At(k, id, m, j) != place {
				t.Error(m, j, l[j], At(k, id, m, j), place)
			}
			place += step
			if place >= m {
				place -= m
			}
		}
		for _, j := range []int{-1, m, m + 1, 2 * m, -m, math.MinInt, math.MaxInt} {
			if n := At(k, id, m, j); n != 0 {
				t.Error(m, j, n)
			}
		}
	}
}

func TestRowIsNew(t *testing.T) {
	l := Row(api.Key{}, 1, 7)
	before := slices.Clone(l)
	again := Row(api.Key{}, 1, 7)
	for i := range again {
		again[i] = -1
	}
	if !slices.Equal(l, before) {
		t.Error(l)
	}
}

// P18.3

func TestRowHasEachOnce(t *testing.T) {
	for _, m := range primes {
		for id := range 40 {
			l := Row(api.Key{Lo: uint64(m), Hi: 9}, id, m)
			slices.Sort(l)
			for j := range m {
				if l[j] != j {
					t.Fatal(m, id, l)
				}
			}
		}
	}
}
