package ring

import (
	"math"
	"math/rand"
	"testing"
)

// got is a number, and whether there is one.
type got struct {
	i  int
	ok bool
}

// is tells whether a call answers this.
func is(t *testing.T, what func() (int, bool), i int, ok bool) {
	t.Helper()
	if n, have := what(); n != i || have != ok {
		t.Errorf("%d, %v instead of %d, %v", n, have, i, ok)
	}
}

// counts tells whether so many are the device's, done, empty.
func counts(t *testing.T, r *Ring, posted, ready, room int) {
	t.Helper()
	if r.Posted() != posted || r.Ready() != ready || r.Room() != room || r.Size() != posted+ready+room {
		t.Error(r.Posted(), r.Ready(), r.Room(), r.Size())
	}
}

// owns tells whether these are the device's, and no others.
func owns(t *testing.T, r *Ring, want ...int) {
	t.Helper()
	own := map[int]bool{}
	for _, k := range want {
		own[k] = true
	}
	for k := -2 * r.Size(); k <= 2*r.Size(); k++ {
		if r.Own(k) != own[k] {
			t.Error(k, r.Own(k))
		}
	}
}

// P15.1

func TestNew(t *testing.T) {
	for _, c := range []struct{ n, want int }{
		{math.MinInt, 1}, {-1, 1}, {0, 1}, {1, 1}, {2, 2}, {63, 63}, {64, 64}, {65, 64}, {math.MaxInt, 64},
	} {
		r := New(c.n)
		counts(t, r, 0, 0, c.want)
		is(t, r.Next, 0, false)
		is(t, r.Reap, 0, false)
		if r.Done() {
			t.Error("done with nothing")
		}
		for i := range c.want {
			if !r.Post(i + 5) {
				t.Error(c, i)
			}
			counts(t, r, i+1, 0, c.want-i-1)
		}
		if r.Post(0) {
			t.Error("one too many", c)
		}
		counts(t, r, c.want, 0, 0)
	}
}

func TestOneDescriptor(t *testing.T) {
	r := New(1)
	if !r.Post(7) || r.Post(8) {
		t.Error("post")
	}
	is(t, r.Reap, 0, false)
	is(t, r.Next, 7, true)
	if !r.Done() || r.Done() || r.Post(8) {
		t.Error("done")
	}
	counts(t, r, 0, 1, 0)
	is(t, r.Next, 0, false)
	is(t, r.Reap, 7, true)
	is(t, r.Reap, 0, false)
	counts(t, r, 0, 0, 1)
	if !r.Post(8) {
		t.Error("post behind reap")
	}
	is(t, r.Next, 8, true)
}

func TestInTurn(t *testing.T) {
	r := New(3)
	r.Post(10)
	r.Post(10)
	r.Post(-30)
	is(t, r.Next, 10, true)
	is(t, r.Next, 10, true)
	r.Done()
	counts(t, r, 2, 1, 0)
	r.Done()
	is(t, r.Next, -30, true)
	if r.Post(40) {
		t.Error("posted where nothing was reaped")
	}
	counts(t, r, 1, 2, 0)
	is(t, r.Reap, 10, true)
	counts(t, r, 1, 1, 1)
	if !r.Post(math.MaxInt) || r.Post(60) {
		t.Error("post")
	}
	is(t, r.Next, -30, true)
	r.Done()
	is(t, r.Next, math.MaxInt, true)
	is(t, r.Reap, 10, true)
	is(t, r.Reap, -30, true)
	is(t, r.Reap, 0, false)
	counts(t, r, 1, 0, 2)
}

// P15.2

func TestOwn(t *testing.T) {
	r := New(3)
	owns(t, r)
	r.Post(7)
	owns(t, r, 0)
	r.Post(7)
	owns(t, r, 0, 1)
	r.Post(7)
	owns(t, r, 0, 1, 2)
	r.Done()
	owns(t, r, 1, 2)
	r.Post(7)
	owns(t, r, 1, 2)
	r.Reap()
	owns(t, r, 1, 2)
	r.Post(7)
	owns(t, r, 0, 1, 2)
	r.Done()
	r.Done()
	owns(t, r, 0)
	r.Reap()
	r.Post(7)
	owns(t, r, 0, 1)
	for _, k := range []int{3, 4, 64, -1, -3, math.MinInt, math.MaxInt} {
		if r.Own(k) {
			t.Error(k)
		}
	}
}

func TestNil(t *testing.T) {
	var r *Ring
	is(t, r.Next, 0, false)
	is(t, r.Reap, 0, false)
	if r.Post(1) || r.Done() || r.Own(0) || r.Own(-1) || r.Posted() != 0 || r.Ready() != 0 || r.Room() != 0 || r.Size() != 0 {
		t.Error("of nil something is answered")
	}
}

// P15.3

// TestAgainstRows holds a ring against plain rows, whatever is done.
func TestAgainstRows(t *testing.T) {
	rnd := rand.New(rand.NewSource(15))
	for range 300 {
		n := 1 + rnd.Intn(9)
		r := New(n)
		var device, done []got
		turn := 0
		for range 300 {
			switch rnd.Intn(4) {
			case 0, 1:
				b, may := rnd.Intn(1000), len(device)+len(done) < n
				if r.Post(b) != may {
					t.Fatal("post", may)
				}
				if may {
					device = append(device, got{b, true})
					turn++
				}
			case 2:
				if r.Done() != (len(device) > 0) {
					t.Fatal("done", device)
				}
				if len(device) > 0 {
					device, done = device[1:], append(done, device[0])
				}
			case 3:
				want := got{}
				if len(done) > 0 {
					want, done = done[0], done[1:]
				}
				is(t, r.Reap, want.i, want.ok)
			}
			first := got{}
			if len(device) > 0 {
				first = device[0]
			}
			is(t, r.Next, first.i, first.ok)
			counts(t, r, len(device), len(done), n-len(device)-len(done))
			var own []int
			for k := range len(device) {
				own = append(own, (turn-1-k)%n)
			}
			owns(t, r, own...)
		}
	}
}
