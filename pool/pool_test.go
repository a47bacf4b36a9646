package pool

import (
	"bytes"
	"math"
	"math/rand"
	"testing"

	"linkboy/roomy"
)

// takes tells whether these are taken one by one.
func takes(t *testing.T, p *Pool, want ...int) {
	t.Helper()
	for _, w := range want {
		if i, ok := p.Take(); i != w || !ok {
			t.Errorf("%d, %v instead of %d", i, ok, w)
		}
	}
}

// none tells whether nothing is free.
func none(t *testing.T, p *Pool) {
	t.Helper()
	if i, ok := p.Take(); i != 0 || ok || p.Free() != 0 {
		t.Error(i, ok, p.Free())
	}
}

// P14.1

func TestNew(t *testing.T) {
	for _, c := range []struct{ n, want int }{
		{math.MinInt, 0}, {-1, 0}, {0, 0}, {1, 1}, {2, 2}, {255, 255}, {256, 256}, {257, 256}, {math.MaxInt, 256},
	} {
		p := New(c.n)
		if p.Size() != c.want || p.Free() != c.want {
			t.Error(c, p.Size(), p.Free())
		}
		for i := range c.want {
			takes(t, p, i)
			if p.Size() != c.want || p.Free() != c.want-1-i {
				t.Error(c, p.Size(), p.Free())
			}
		}
		none(t, p)
	}
}

func TestTakeAndGive(t *testing.T) {
	p := New(2)
	takes(t, p, 0, 1)
	none(t, p)
	if !p.Give(0) || p.Free() != 1 {
		t.Error("not given back", p.Free())
	}
	takes(t, p, 0)
	none(t, p)
}

func TestTakeTheLastGivenBack(t *testing.T) {
	p := New(5)
	takes(t, p, 0, 1, 2)
	p.Give(1)
	p.Give(0)
	p.Give(2)
	takes(t, p, 2, 0)
	p.Give(0)
	takes(t, p, 0, 1, 3)
	p.Give(3)
	takes(t, p, 3, 4)
	none(t, p)
	for _, i := range []int{4, 0, 3, 1, 2} {
		p.Give(i)
	}
	takes(t, p, 2, 1, 3, 0, 4)
	none(t, p)
}

func TestGiveRefuses(t *testing.T) {
	p := New(3)
	takes(t, p, 0, 1)
	p.Give(1)
	for _, i := range []int{1, 2, 3, 256, -1, math.MinInt, math.MaxInt} {
		if p.Give(i) || p.Free() != 2 {
			t.Error(i, p.Free())
		}
	}
	takes(t, p, 1, 2)
	none(t, p)
}

// P14.2

func TestWriteAndRead(t *testing.T) {
	p := New(3)
	takes(t, p, 0, 1)
	if len(p.Read(0)) != 0 || len(p.Read(1)) != 0 {
		t.Error("something is held before it is written")
	}
	if !p.Write(0, []byte{1, 2, 3}) || !p.Write(1, []byte{4}) {
		t.Error("not written")
	}
	if !bytes.Equal(p.Read(0), []byte{1, 2, 3}) || !bytes.Equal(p.Read(1), []byte{4}) || !bytes.Equal(p.Read(0), []byte{1, 2, 3}) {
		t.Error(p.Read(0), p.Read(1))
	}
	if !p.Write(0, []byte{5}) || !bytes.Equal(p.Read(0), []byte{5}) {
		t.Error(p.Read(0))
	}
	if !p.Write(0, nil) || len(p.Read(0)) != 0 || !bytes.Equal(p.Read(1), []byte{4}) {
		t.Error(p.Read(0), p.Read(1))
	}
}

func TestWriteUpToTheGreatest(t *testing.T) {
	p := New(1)
	takes(t, p, 0)
	b := bytes.Repeat([]byte{7}, 1515)
	if !p.Write(0, b[:1514]) || !bytes.Equal(p.Read(0), b[:1514]) {
		t.Error("1514 bytes aren't written")
	}
	p.Write(0, []byte{9})
	if p.Write(0, b) || !bytes.Equal(p.Read(0), []byte{9}) {
		t.Error("1515 bytes are written")
	}
}

func TestWriteAndReadOfThoseNotTaken(t *testing.T) {
	p := New(2)
	takes(t, p, 0)
	p.Write(0, []byte{3})
	for _, i := range []int{1, 2, 256, -1, math.MinInt, math.MaxInt} {
		if p.Write(i, []byte{1}) || len(p.Read(i)) != 0 {
			t.Error(i, p.Read(i))
		}
	}
	if !bytes.Equal(p.Read(0), []byte{3}) {
		t.Error(p.Read(0))
	}
	takes(t, p, 1)
	if len(p.Read(1)) != 0 {
		t.Error("what was written before it was taken is held", p.Read(1))
	}
}

func TestReadForgetsWhatWasGivenBack(t *testing.T) {
	p := New(1)
	takes(t, p, 0)
	p.Write(0, []byte{1, 2})
	p.Give(0)
	if len(p.Read(0)) != 0 || p.Write(0, []byte{3}) {
		t.Error("a free one holds something", p.Read(0))
	}
	takes(t, p, 0)
	if len(p.Read(0)) != 0 {
		t.Error(p.Read(0))
	}
}

func TestMemoryOfItsOwn(t *testing.T) {
	p := New(1)
	takes(t, p, 0)
	b := roomy.Bytes(1, 2, 3)
	p.Write(0, b)
	if !roomy.Untouched(b, 1, 2, 3) {
		t.Error("what was handed in is changed")
	}
	first, second := p.Read(0), p.Read(0)
	if !roomy.Apart(first, b) || !roomy.Apart(first, second) {
		t.Error("memory is shared")
	}
	b[0], first[1] = 9, 9
	if !bytes.Equal(p.Read(0), []byte{1, 2, 3}) {
		t.Error("what is held is changed from outside", p.Read(0))
	}
}

func TestNil(t *testing.T) {
	var p *Pool
	if i, ok := p.Take(); i != 0 || ok {
		t.Error(i, ok)
	}
	if p.Give(0) || p.Write(0, nil) || p.Read(0) != nil || p.Free() != 0 || p.Size() != 0 {
		t.Error("of nil something is answered")
	}
}

// P14.3

// TestAgainstRows holds a pool against plain rows, whatever is done.
func TestAgainstRows(t *testing.T) {
	r := rand.New(rand.NewSource(14))
	for range 200 {
		n := r.Intn(9)
		p := New(n)
		held := map[int][]byte{}
		var back []int
		fresh := 0
		for range 200 {
			i := r.Intn(n+2) - 1
			_, have := held[i]
			switch r.Intn(4) {
			case 0, 1:
				want, may := 0, true
				if len(back) > 0 {
					want, back = back[len(back)-1], back[:len(back)-1]
				} else if fresh < n {
					want, fresh = fresh, fresh+1
				} else {
					may = false
				}
				got, ok := p.Take()
				if got != want || ok != may {
					t.Fatal(got, ok, want, may)
				}
				if ok {
					held[got] = nil
				}
			case 2:
				if p.Give(i) != have {
					t.Fatal("give", i, have)
				}
				if have {
					delete(held, i)
					back = append(back, i)
				}
			case 3:
				b := []byte{byte(r.Intn(256)), byte(i)}
				if p.Write(i, b) != have {
					t.Fatal("write", i, have)
				}
				if have {
					held[i] = b
				}
			}
			for i := -1; i <= n; i++ {
				if !bytes.Equal(p.Read(i), held[i]) {
					t.Fatal(i, p.Read(i), held[i])
				}
			}
			if p.Size() != n || p.Free() != n-len(held) {
				t.Fatal(p.Size(), p.Free(), n, len(held))
			}
		}
	}
}
