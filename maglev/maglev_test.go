package maglev

import (
	"math"
	"math/rand"
	"slices"
	"testing"

	"linkboy/api"
	"linkboy/perm"
)

var key = api.Key{Lo: 0x0706050403020100, Hi: 0x0f0e0d0c0b0a0908}

// plain fills a table word by word as the document says it, with no row kept.
func plain(k api.Key, m int, l []api.Backend) []int {
	var part []api.Backend
	seen := map[int]bool{}
	for _, b := range l {
		if b.Weight >= 1 && b.Weight <= 8 && !seen[b.Id] {
			seen[b.Id] = true
			part = append(part, b)
		}
	}
	if len(part) == 0 {
		return nil
	}
	table := map[int]int{}
	for {
		for _, b := range part {
			for range b.Weight {
				for j := 0; ; j++ {
					if j == m {
						out := make([]int, m)
						for p, id := range table {
							out[p] = id
						}
						return out
					}
					p := perm.At(k, b.Id, m, j)
					if _, have := table[p]; !have {
						table[p] = b.Id
						break
					}
				}
			}
		}
	}
}

// P19.1

func TestFillOfOne(t *testing.T) {
	for _, m := range []int{2, 3, 13, 251} {
		for w := 1; w <= 8; w++ {
			got := Fill(key, m, []api.Backend{{Id: 5, Weight: w}})
			if len(got) != m || Count(got, 5) != m {
				t.Error(m, w, got)
			}
		}
	}
}

func TestFillOfNobody(t *testing.T) {
	for _, l := range [][]api.Backend{nil, {}, {{Id: 1}}, {{Id: 1, Weight: 9}, {Id: 2, Weight: -1}, {Id: 3, Weight: math.MaxInt}, {Id: 4, Weight: math.MinInt}}} {
		if got := Fill(key, 13, l); len(got) != 0 {
			t.Error(l, got)
		}
	}
}

func TestFillOfOtherNumbers(t *testing.T) {
	for _, m := range []int{math.MinInt, -13, 0, 1, 4, 12, 250, 252, 257, 65537, math.MaxInt} {
		if got := Fill(key, m, []api.Backend{{Id: 1, Weight: 1}}); len(got) != 0 {
			t.Error(m, got)
		}
	}
}

// TestFillByHand has rows that are short enough to be gone through.
func TestFillByHand(t *testing.T) {
	one, two := perm.Row(key, 1, 3), perm.Row(key, 2, 3)
	want := make([]int, 3)
	want[one[0]] = 1
	rest := slices.DeleteFunc(slices.Clone(two), func(p int) bool { return p == one[0] })
	want[rest[0]] = 2
	want[rest[1]] = 1
	if got := Fill(key, 3, []api.Backend{{Id: 1, Weight: 1}, {Id: 2, Weight: 1}}); !slices.Equal(got, want) {
		t.Error(got, want)
	}
	want[rest[1]] = 2
	if got := Fill(key, 3, []api.Backend{{Id: 1, Weight: 1}, {Id: 2, Weight: 8}}); !slices.Equal(got, want) {
		t.Error(got, want)
	}
	if got := Fill(key, 3, []api.Backend{{Id: 2, Weight: 3}, {Id: 1, Weight: 8}}); !slices.Equal(got, []int{2, 2, 2}) {
		t.Error(got)
	}
}

// TestFillSkips has those of a wrong weight, and those whose Id was there, play no part; Vip, Addr, Life and Up don't count.
func TestFillSkips(t *testing.T) {
	want := Fill(key, 101, []api.Backend{{Id: 1, Weight: 1}, {Id: 2, Weight: 8}, {Id: 0, Weight: 3}})
	got := Fill(key, 101, []api.Backend{
		{Id: 7, Weight: 0}, {Id: 2, Weight: 9}, {Id: 1, Weight: 1, Vip: 3, Addr: 9}, {Id: 1, Weight: 5}, {Id: 2, Weight: 8, Life: api.Draining},
		{Id: 1, Weight: 2}, {Id: 8, Weight: -1}, {Id: 0, Weight: 0}, {Id: 0, Weight: 3, Life: api.Serving, Up: true}, {Id: 0, Weight: 0}, {Id: 2, Weight: 1},
	})
	if !slices.Equal(got, want) {
		t.Error(got, want)
	}
}

// TestFillHangsOnTheOrder has those who come first choose first.
func TestFillHangsOnTheOrder(t *testing.T) {
	l := []api.Backend{{Id: 1, Weight: 2}, {Id: 2, Weight: 2}, {Id: 3, Weight: 2}}
	a := Fill(key, 251, l)
	slices.Reverse(l)
	if slices.Equal(a, Fill(key, 251, l)) {
		t.Error("the order doesn't count")
	}
	if slices.Equal(a, Fill(api.Key{Lo: 1}, 251, l)) {
		t.Error("the key doesn't count")
	}
}

func TestFillOfMoreThanPlaces(t *testing.T) {
	var l []api.Backend
	for i := range 300 {
		l = append(l, api.Backend{Id: i + 1, Weight: 1 + i%8})
	}
	for _, m := range []int{2, 5, 251} {
		if got, want := Fill(key, m, l), plain(key, m, l); !slices.Equal(got, want) {
			t.Error(m, got, want)
		}
	}
	for i := range l {
		l[i].Weight = 1
	}
	got := Fill(key, 251, l)
	for i := range l {
		want := 1
		if i >= 251 {
			want = 0
		}
		if Count(got, l[i].Id) != want {
			t.Error(i, Count(got, l[i].Id))
		}
	}
}

func TestFillAgainstPlain(t *testing.T) {
	r := rand.New(rand.NewSource(19))
	for range 300 {
		k := api.Key{Lo: r.Uint64(), Hi: r.Uint64()}
		m := []int{2, 3, 5, 13, 31, 101, 251}[r.Intn(7)]
		var l []api.Backend
		for range r.Intn(17) {
			l = append(l, api.Backend{Id: r.Intn(24) - 2, Weight: r.Intn(11) - 1})
		}
		before := slices.Clone(l)
		got, want := Fill(k, m, l), plain(k, m, l)
		if !slices.Equal(got, want) {
			t.Fatal(k, m, l, got, want)
		}
		if !slices.Equal(l, before) {
			t.Fatal("what was handed in is changed")
		}
	}
}

// P19.2

func TestCount(t *testing.T) {
	l := []int{1, 2, 1, -3, 0, 1}
	for id, want := range map[int]int{1: 3, 2: 1, -3: 1, 0: 1, 5: 0} {
		if got := Count(l, id); got != want {
			t.Error(id, got)
		}
	}
	if Count(nil, 0) != 0 {
		t.Error("of nothing")
	}
}

func TestPick(t *testing.T) {
	l := []int{10, 0, -30}
	for n, want := range map[uint64]int{0: 10, 1: 0, 2: -30, 3: 10, 301: 0, math.MaxUint64: 10, math.MaxUint64 - 1: -30, 1 << 63: -30} {
		if got, ok := Pick(l, n); got != want || !ok {
			t.Error(n, got, ok)
		}
	}
	for _, n := range []uint64{0, 1, math.MaxUint64} {
		if got, ok := Pick(nil, n); got != 0 || ok {
			t.Error(n, got, ok)
		}
	}
}

// P19.3

func TestRounds(t *testing.T) {
	r := rand.New(rand.NewSource(193))
	for range 300 {
		m := []int{2, 13, 101, 251}[r.Intn(4)]
		var l []api.Backend
		for i := range 1 + r.Intn(16) {
			l = append(l, api.Backend{Id: i, Weight: 1 + r.Intn(8)})
		}
		table := Fill(key, m, l)
		sum := 0
		for _, b := range l {
			sum += b.Weight
		}
		rounds := m / sum
		for _, b := range l {
			if n := Count(table, b.Id); n < rounds*b.Weight || n > (rounds+1)*b.Weight {
				t.Error(m, l, b, n)
			}
		}
	}
}
