package cache

import (
	"bytes"
	"cmp"
	"math"
	"math/rand"
	"slices"
	"testing"

	"linkboy/api"
	"linkboy/roomy"
)

var (
	conf = api.Config{Cache: 3, Queue: 4, Age: 5, Retry: 2, Tries: 3}
	one  = api.Place{Nic: 0, Next: 1}
	two  = api.Place{Nic: 0, Next: 2}
	back = api.Place{Nic: 1, Next: 1}
	far  = api.Place{Nic: 1, Next: 0xffffffff}
	mac  = api.Mac{2, 0, 0, 0, 0, 1}
	none = api.Mac{}
)

// wants tells what becomes of a frame of one byte.
func wants(t *testing.T, c *Cache, p api.Place, b byte, ask bool, want api.Errno) {
	t.Helper()
	if got, e := c.Want(p, []byte{b}); got != ask || e != want {
		t.Errorf("%v: %v, %d", p, got, e)
	}
}

// finds tells whether a place has an address.
func finds(t *testing.T, c *Cache, p api.Place, m api.Mac, known bool) {
	t.Helper()
	if got, ok := c.Find(p); got != m || ok != known {
		t.Errorf("%v: %v, %v", p, got, ok)
	}
}

// learns tells whether these frames of one byte waited.
func learns(t *testing.T, c *Cache, p api.Place, m api.Mac, add, known bool, want ...byte) {
	t.Helper()
	l, ok := c.Learn(p, m, add)
	if ok != known || !bytes.Equal(bytes.Join(l, nil), want) || len(l) != len(want) {
		t.Errorf("%v: %v, %v", p, l, ok)
	}
}

// ticks tells what comes of a tick.
func ticks(t *testing.T, c *Cache, lost int, want ...api.Place) {
	t.Helper()
	if l, n := c.Tick(); !slices.Equal(l, want) || n != lost {
		t.Errorf("now %d: %v, %d", c.Now(), l, n)
	}
}

// counts tells whether so many places are known or asked for, and so many frames wait.
func counts(t *testing.T, c *Cache, places, waits int) {
	t.Helper()
	if c.Len() != places || c.Waits() != waits {
		t.Error(c.Len(), c.Waits())
	}
}

// P24.1

func TestNew(t *testing.T) {
	for _, x := range []struct{ now, want int }{
		{math.MinInt, 0}, {-1, 0}, {0, 0}, {1, 1}, {1 << 30, 1 << 30}, {1<<30 + 1, 1 << 30}, {math.MaxInt, 1 << 30},
	} {
		c := New(conf, x.now)
		if c.Now() != x.want {
			t.Error(x, c.Now())
		}
		counts(t, c, 0, 0)
		finds(t, c, one, none, false)
		finds(t, c, api.Place{}, none, false)
		ticks(t, c, 0)
		if c.Now() != x.want+1 {
			t.Error(x, c.Now())
		}
	}
}

func TestNewOfNoRoom(t *testing.T) {
	for _, n := range []int{0, -1, math.MinInt} {
		c := New(api.Config{Cache: n, Queue: 4}, 0)
		wants(t, c, one, 1, false, api.ErrFull)
		learns(t, c, one, mac, true, false)
		counts(t, c, 0, 0)
		c = New(api.Config{Cache: 4, Queue: n}, 0)
		wants(t, c, one, 1, false, api.ErrFull)
		learns(t, c, one, mac, true, true)
		counts(t, c, 1, 0)
	}
}

// TestNewOfOddTimes has Age and Retry be taken from 1 to 4095.
func TestNewOfOddTimes(t *testing.T) {
	for _, x := range []struct{ n, want int }{
		{math.MinInt, 1}, {-1, 1}, {0, 1}, {1, 1}, {2, 2}, {4095, 4095}, {4096, 4095}, {math.MaxInt, 4095},
	} {
		c := New(api.Config{Cache: 2, Queue: 2, Age: x.n, Retry: x.n, Tries: 2}, 0)
		learns(t, c, one, mac, true, true)
		wants(t, c, two, 1, true, api.OK)
		for range x.want - 1 {
			ticks(t, c, 0)
		}
		finds(t, c, one, mac, true)
		ticks(t, c, 0, two)
		finds(t, c, one, none, false)
		counts(t, c, 1, 1)
	}
}

// P24.2

func TestWant(t *testing.T) {
	c := New(conf, 0)
	wants(t, c, one, 1, true, api.OK)
	wants(t, c, one, 2, false, api.OK)
	counts(t, c, 1, 2)
	finds(t, c, one, none, false)
	wants(t, c, back, 3, true, api.OK)
	counts(t, c, 2, 3)
	learns(t, c, one, mac, false, true, 1, 2)
	counts(t, c, 2, 1)
	wants(t, c, one, 4, false, api.ErrState)
	counts(t, c, 2, 1)
	finds(t, c, one, mac, true)
	finds(t, c, back, none, false)
}

func TestWantFullOfFrames(t *testing.T) {
	c := New(conf, 0)
	learns(t, c, far, mac, true, true)
	for i := range 4 {
		wants(t, c, one, byte(i), i == 0, api.OK)
	}
	wants(t, c, one, 5, false, api.ErrFull)
	wants(t, c, two, 5, false, api.ErrFull)
	wants(t, c, far, 5, false, api.ErrState)
	counts(t, c, 2, 4)
	learns(t, c, one, mac, false, true, 0, 1, 2, 3)
	wants(t, c, two, 5, true, api.OK)
	counts(t, c, 3, 1)
}

func TestWantFullOfPlaces(t *testing.T) {
	c := New(conf, 0)
	learns(t, c, far, mac, true, true)
	wants(t, c, one, 1, true, api.OK)
	wants(t, c, two, 2, true, api.OK)
	wants(t, c, back, 3, false, api.ErrFull)
	wants(t, c, one, 4, false, api.OK)
	wants(t, c, far, 5, false, api.ErrState)
	counts(t, c, 3, 3)
	finds(t, c, back, none, false)
}

func TestWantOfEmptyFrames(t *testing.T) {
	c := New(conf, 0)
	if ask, e := c.Want(one, nil); !ask || e != api.OK {
		t.Error(ask, e)
	}
	counts(t, c, 1, 1)
	if l, ok := c.Learn(one, mac, false); len(l) != 1 || len(l[0]) != 0 || !ok {
		t.Error(l, ok)
	}
}

func TestMemoryOfItsOwn(t *testing.T) {
	c := New(conf, 0)
	b := roomy.Bytes(1, 2, 3)
	c.Want(one, b)
	c.Want(one, b)
	if !roomy.Untouched(b, 1, 2, 3) {
		t.Error("what was handed in is changed")
	}
	b[0] = 9
	l, _ := c.Learn(one, mac, false)
	if len(l) != 2 || !bytes.Equal(l[0], []byte{1, 2, 3}) || !bytes.Equal(l[1], []byte{1, 2, 3}) || !roomy.Apart(l[0], l[1]) {
		t.Error(l)
	}
}

// P24.3

func TestLearn(t *testing.T) {
	c := New(conf, 0)
	learns(t, c, one, mac, false, false)
	counts(t, c, 0, 0)
	finds(t, c, one, none, false)
	learns(t, c, one, mac, true, true)
	counts(t, c, 1, 0)
	finds(t, c, one, mac, true)
	finds(t, c, back, none, false)
	other := api.Mac{2, 9}
	learns(t, c, one, other, false, true)
	finds(t, c, one, other, true)
	learns(t, c, one, none, true, true)
	finds(t, c, one, none, true)
	counts(t, c, 1, 0)
}

func TestLearnWithoutRoom(t *testing.T) {
	c := New(conf, 0)
	learns(t, c, one, mac, true, true)
	learns(t, c, two, mac, true, true)
	wants(t, c, back, 1, true, api.OK)
	learns(t, c, far, mac, true, false)
	learns(t, c, far, mac, false, false)
	finds(t, c, far, none, false)
	learns(t, c, two, mac, true, true)
	learns(t, c, back, mac, true, true, 1)
	counts(t, c, 3, 0)
}

// TestLearnAnew has a place be known for its whole time from the last time on.
func TestLearnAnew(t *testing.T) {
	c := New(conf, 0)
	learns(t, c, one, mac, true, true)
	for range 4 {
		ticks(t, c, 0)
	}
	learns(t, c, one, mac, false, true)
	for range 4 {
		ticks(t, c, 0)
	}
	finds(t, c, one, mac, true)
	ticks(t, c, 0)
	finds(t, c, one, none, false)
	counts(t, c, 0, 0)
}

// TestLearnOfOneAskedFor has it not be asked for any more, and its time begin then.
func TestLearnOfOneAskedFor(t *testing.T) {
	c := New(conf, 0)
	wants(t, c, one, 1, true, api.OK)
	ticks(t, c, 0)
	learns(t, c, one, mac, false, true, 1)
	for range 4 {
		ticks(t, c, 0)
	}
	finds(t, c, one, mac, true)
	ticks(t, c, 0)
	finds(t, c, one, none, false)
	wants(t, c, one, 2, true, api.OK)
	learns(t, c, one, mac, false, true, 2)
}

// P24.4

func TestTickAsksAgain(t *testing.T) {
	c := New(conf, 7)
	wants(t, c, one, 1, true, api.OK)
	ticks(t, c, 0)
	wants(t, c, one, 2, false, api.OK)
	ticks(t, c, 0, one)
	ticks(t, c, 0)
	ticks(t, c, 0, one)
	wants(t, c, one, 3, false, api.OK)
	ticks(t, c, 0)
	counts(t, c, 1, 3)
	ticks(t, c, 3)
	counts(t, c, 0, 0)
	finds(t, c, one, none, false)
	learns(t, c, one, mac, false, false)
	wants(t, c, one, 4, true, api.OK)
	ticks(t, c, 0)
	ticks(t, c, 0, one)
	if c.Now() != 15 {
		t.Error(c.Now())
	}
}

func TestTickOfFewTries(t *testing.T) {
	for _, n := range []int{1, 0, -1, math.MinInt} {
		c := New(api.Config{Cache: 2, Queue: 2, Age: 1, Retry: 3, Tries: n}, 0)
		wants(t, c, one, 1, true, api.OK)
		ticks(t, c, 0)
		wants(t, c, two, 2, true, api.OK)
		ticks(t, c, 0)
		ticks(t, c, 1)
		ticks(t, c, 1)
		counts(t, c, 0, 0)
	}
}

func TestTickInOrder(t *testing.T) {
	c := New(api.Config{Cache: 8, Queue: 8, Age: 9, Retry: 1, Tries: 2}, 0)
	low := api.Place{Nic: -1, Next: 5}
	for i, p := range []api.Place{far, two, low, back, one} {
		wants(t, c, p, byte(i), true, api.OK)
	}
	ticks(t, c, 0, low, one, two, back, far)
	ticks(t, c, 5)
}

// TestTickFreesRoom has a place that is over make room for others, and its frames too.
func TestTickFreesRoom(t *testing.T) {
	c := New(api.Config{Cache: 1, Queue: 1, Age: 1, Retry: 1, Tries: 1}, 0)
	learns(t, c, one, mac, true, true)
	learns(t, c, two, mac, true, false)
	ticks(t, c, 0)
	wants(t, c, two, 1, true, api.OK)
	ticks(t, c, 1)
	wants(t, c, back, 1, true, api.OK)
	counts(t, c, 1, 1)
}

// P24.5

func TestNil(t *testing.T) {
	var c *Cache
	finds(t, c, one, none, false)
	wants(t, c, one, 1, false, api.ErrNil)
	learns(t, c, one, mac, true, false)
	ticks(t, c, 0)
	counts(t, c, 0, 0)
	if c.Now() != 0 {
		t.Error(c.Now())
	}
}

// known is what a plain row keeps of a place: the tick at which it is over, or was asked for.
type known struct {
	place       api.Place
	mac         api.Mac
	known       bool
	since, asks int
	frames      []byte
}

// TestAgainstRow holds a cache against a plain row, whatever is done.
func TestAgainstRow(t *testing.T) {
	r := rand.New(rand.NewSource(24))
	for range 200 {
		x := api.Config{Cache: r.Intn(5), Queue: r.Intn(6), Age: 1 + r.Intn(6), Retry: 1 + r.Intn(4), Tries: 1 + r.Intn(3)}
		now := r.Intn(100)
		c := New(x, now)
		var row []*known
		for i := range 300 {
			p := api.Place{Nic: r.Intn(2), Next: uint32(r.Intn(4))}
			var k *known
			waits := 0
			for _, o := range row {
				waits += len(o.frames)
				if o.place == p {
					k = o
				}
			}
			switch r.Intn(3) {
			case 0:
				ask, want := false, api.OK
				if k != nil && k.known {
					want = api.ErrState
				} else if waits == x.Queue || k == nil && len(row) == x.Cache {
					want = api.ErrFull
				} else if k == nil {
					ask = true
					row = append(row, &known{place: p, since: now, asks: 1, frames: []byte{byte(i)}})
				} else {
					k.frames = append(k.frames, byte(i))
				}
				wants(t, c, p, byte(i), ask, want)
			case 1:
				add := r.Intn(2) == 0
				may := k != nil || add && len(row) < x.Cache
				var frames []byte
				if k != nil {
					frames = k.frames
				} else if may {
					k = &known{place: p}
					row = append(row, k)
				}
				m := api.Mac{byte(i)}
				if may {
					*k = known{place: p, mac: m, known: true, since: now}
				}
				learns(t, c, p, m, add, may, frames...)
			case 2:
				now++
				var ask []api.Place
				var rest []*known
				lost := 0
				slices.SortFunc(row, func(a, b *known) int {
					return cmp.Compare(a.place.Nic<<40+int(a.place.Next), b.place.Nic<<40+int(b.place.Next))
				})
				for _, o := range row {
					past := now - o.since
					switch {
					case o.known && past < x.Age, !o.known && past%x.Retry != 0:
						rest = append(rest, o)
					case !o.known && past == o.asks*x.Retry && o.asks < x.Tries:
						o.asks++
						ask = append(ask, o.place)
						rest = append(rest, o)
					default:
						lost += len(o.frames)
					}
				}
				row = rest
				ticks(t, c, lost, ask...)
			}
			waits = 0
			for _, o := range row {
				waits += len(o.frames)
				finds(t, c, o.place, o.mac, o.known)
			}
			counts(t, c, len(row), waits)
			if c.Now() != now {
				t.Fatal(c.Now(), now)
			}
		}
	}
}
