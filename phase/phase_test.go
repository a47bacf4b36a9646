package phase

import (
	"math"
	"testing"

	"linkboy/api"
)

const (
	fin = api.FIN
	syn = api.SYN
	rst = api.RST
	psh = api.PSH
	ack = api.ACK
	urg = api.URG
)

// P21.1

func TestFirst(t *testing.T) {
	for _, c := range []struct {
		flags byte
		want  int
	}{
		{0, 2}, {ack, 2}, {psh, 2}, {urg, 2}, {syn | ack, 2}, {syn | ack | psh | urg, 2}, {64 | 128, 2}, {psh | ack, 2},
		{syn, 1}, {syn | psh, 1}, {syn | urg, 1}, {syn | 64 | 128, 1},
		{fin, 3}, {fin | ack, 3}, {fin | syn, 3}, {fin | syn | ack, 3}, {fin | psh | urg, 3},
		{rst, 5}, {rst | ack, 5}, {rst | fin, 5}, {rst | syn, 5}, {rst | fin | syn | ack, 5}, {255, 5},
	} {
		if got := First(c.flags); got != c.want {
			t.Error(c, got)
		}
	}
}

// TestFirstOfAll goes through all flags, told by what is set.
func TestFirstOfAll(t *testing.T) {
	for f := range 256 {
		r, n, s, a := f>>2&1 == 1, f&1 == 1, f>>1&1 == 1, f>>4&1 == 1
		want := 2
		if s && !a {
			want = 1
		}
		if n {
			want = 3
		}
		if r {
			want = 5
		}
		if got := First(byte(f)); got != want {
			t.Error(f, got)
		}
	}
}

// P21.2

func TestNext(t *testing.T) {
	for _, c := range []struct {
		flags byte
		want  [3]int // of an opening, an open, a closing one
	}{
		{0, [3]int{1, 2, 3}}, {psh | urg, [3]int{1, 2, 3}}, {64 | 128, [3]int{1, 2, 3}},
		{ack, [3]int{2, 2, 3}}, {ack | psh, [3]int{2, 2, 3}}, {syn | ack, [3]int{2, 2, 3}},
		{syn, [3]int{1, 2, 1}}, {syn | psh | 64, [3]int{1, 2, 1}},
		{fin, [3]int{3, 3, 3}}, {fin | ack, [3]int{3, 3, 3}}, {fin | syn, [3]int{3, 3, 3}}, {fin | syn | ack, [3]int{3, 3, 3}},
		{rst, [3]int{5, 5, 5}}, {rst | ack, [3]int{5, 5, 5}}, {rst | fin | syn, [3]int{5, 5, 5}}, {255, [3]int{5, 5, 5}},
	} {
		for i, want := range c.want {
			if got := Next(i+1, c.flags); got != want {
				t.Error(i+1, c, got)
			}
		}
	}
}

func TestNextStays(t *testing.T) {
	for _, p := range []int{4, 5, 0, -1, 6, 7, math.MinInt, math.MaxInt} {
		for f := range 256 {
			if got := Next(p, byte(f)); got != p {
				t.Error(p, f, got)
			}
		}
	}
}

// P21.3

func TestWait(t *testing.T) {
	c := api.Config{Opening: 11, Open: 12, Closing: 13, Loose: 14, Age: 1, Retry: 2, Interval: 3, Timeout: 4}
	for p, want := range map[int]int{1: 11, 2: 12, 3: 13, 4: 14, 5: 0, 0: 0, -1: 0, 6: 0, math.MinInt: 0, math.MaxInt: 0} {
		if got := Wait(c, p); got != want {
			t.Error(p, got)
		}
	}
	if Wait(api.Config{Opening: -7}, 1) != -7 {
		t.Error("it isn't what the configuration says")
	}
}

func TestWord(t *testing.T) {
	for p, want := range map[int]string{1: "opening", 2: "open", 3: "closing", 4: "loose", 5: "gone", 0: "", -1: "", 6: "", math.MinInt: "", math.MaxInt: ""} {
		if got := Word(p); got != want {
			t.Error(p, got)
		}
	}
}

// P21.4

func TestGoneByResetAlone(t *testing.T) {
	for f := range 256 {
		reset := f&rst != 0
		if (First(byte(f)) == 5) != reset || Next(5, byte(f)) != 5 {
			t.Error(f)
		}
		for p := 1; p <= 3; p++ {
			if (Next(p, byte(f)) == 5) != reset {
				t.Error(p, f)
			}
		}
		if Next(4, byte(f)) == 5 {
			t.Error("a loose one is gone", f)
		}
	}
}
