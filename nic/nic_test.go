package nic

import (
	"bytes"
	"math"
	"math/rand"
	"testing"

	"linkboy/api"
	"linkboy/pool"
	"linkboy/roomy"
)

// state tells whether so many wait on both rings, and so many buffers are free.
func state(t *testing.T, c *Card, p *pool.Pool, in, out, waits, free int) {
	t.Helper()
	if c.In() != in || c.Out() != out || c.Waits() != waits || p.Free() != free {
		t.Errorf("in %d, out %d, waits %d, free %d", c.In(), c.Out(), c.Waits(), p.Free())
	}
}

// polls tells whether these bytes are polled.
func polls(t *testing.T, c *Card, want ...byte) {
	t.Helper()
	if b, ok := c.Poll(); !ok || !bytes.Equal(b, want) {
		t.Error(b, ok)
	}
}

// idle tells whether nothing is polled.
func idle(t *testing.T, c *Card) {
	t.Helper()
	if b, ok := c.Poll(); ok || len(b) != 0 {
		t.Error(b, ok)
	}
}

// finishes tells whether these bytes are sent, each a frame of one.
func finishes(t *testing.T, c *Card, n int, want ...byte) {
	t.Helper()
	l := c.Finish(n)
	if len(l) != len(want) {
		t.Error(l)
		return
	}
	for i, b := range l {
		if !bytes.Equal(b, []byte{want[i]}) {
			t.Error(l)
		}
	}
}

// answers tells whether a call came to this.
func answers(t *testing.T, got, want api.Errno) {
	t.Helper()
	if got != want {
		t.Errorf("%d instead of %d", got, want)
	}
}

// P16.1

func TestNew(t *testing.T) {
	for _, c := range []struct{ n, bufs, in, free int }{
		{4, 10, 4, 6}, {4, 4, 4, 0}, {4, 3, 3, 0}, {4, 0, 0, 0}, {1, 1, 1, 0},
		{0, 2, 1, 1}, {-1, 2, 1, 1}, {math.MinInt, 2, 1, 1}, {64, 256, 64, 192}, {65, 256, 64, 192}, {math.MaxInt, 70, 64, 6},
	} {
		p := pool.New(c.bufs)
		state(t, New(c.n, p), p, c.in, 0, 0, c.free)
	}
}

func TestBuffersAreThePools(t *testing.T) {
	p := pool.New(4)
	p.Take()
	c := New(2, p)
	if i, ok := p.Take(); i != 3 || !ok {
		t.Error(i, ok)
	}
	answers(t, c.Arrive([]byte{9}), api.OK)
	if got := p.Read(1); !bytes.Equal(got, []byte{9}) {
		t.Error(got)
	}
}

func TestTwoCardsOnOnePool(t *testing.T) {
	p := pool.New(5)
	a, b := New(2, p), New(4, p)
	state(t, a, p, 2, 0, 0, 0)
	state(t, b, p, 3, 0, 0, 0)
	a.Arrive([]byte{1})
	b.Arrive([]byte{2})
	p.Give(0)
	idle(t, New(1, p))
	polls(t, b, 2)
	polls(t, a)
	state(t, b, p, 3, 0, 0, 0)
}

// P16.2

func TestArrive(t *testing.T) {
	p := pool.New(1)
	c := New(1, p)
	answers(t, c.Arrive([]byte{1}), api.OK)
	state(t, c, p, 0, 0, 1, 0)
	answers(t, c.Arrive([]byte{2}), api.ErrFull)
	state(t, c, p, 0, 0, 1, 0)
	polls(t, c, 1)
	idle(t, c)
	state(t, c, p, 1, 0, 0, 0)
}

func TestArriveBig(t *testing.T) {
	p := pool.New(3)
	c := New(2, p)
	big := bytes.Repeat([]byte{3}, 1515)
	answers(t, c.Arrive(big), api.ErrBig)
	state(t, c, p, 2, 0, 0, 1)
	answers(t, c.Arrive(big[:1514]), api.OK)
	answers(t, c.Arrive(nil), api.OK)
	answers(t, c.Arrive(big), api.ErrBig)
	answers(t, c.Arrive(nil), api.ErrFull)
	state(t, c, p, 0, 0, 2, 1)
	polls(t, c, big[:1514]...)
	polls(t, c)
	idle(t, c)
}

func TestArriveWithoutBuffers(t *testing.T) {
	c := New(3, pool.New(0))
	answers(t, c.Arrive([]byte{1}), api.ErrFull)
	answers(t, c.Arrive(make([]byte, 1515)), api.ErrBig)
	idle(t, c)
}

// P16.3

func TestPollGivesBackAndFills(t *testing.T) {
	p := pool.New(5)
	c := New(2, p)
	c.Arrive([]byte{1})
	c.Arrive([]byte{2})
	state(t, c, p, 0, 0, 2, 3)
	polls(t, c, 1)
	state(t, c, p, 1, 0, 1, 3)
	polls(t, c, 2)
	state(t, c, p, 2, 0, 0, 3)
	idle(t, c)
	state(t, c, p, 2, 0, 0, 3)
}

// TestPollReapsAll has the driver give back all that was sent, though it fills one place alone.
func TestPollReapsAll(t *testing.T) {
	p := pool.New(6)
	c := New(3, p)
	for i := range 3 {
		answers(t, c.Send([]byte{byte(i)}), api.OK)
	}
	state(t, c, p, 3, 3, 0, 0)
	finishes(t, c, 2, 0, 1)
	state(t, c, p, 3, 1, 0, 0)
	idle(t, c)
	state(t, c, p, 3, 1, 0, 2)
	finishes(t, c, 9, 2)
	idle(t, c)
	state(t, c, p, 3, 0, 0, 3)
}

// TestPollReapsAhead has the buffer of what was sent posted at once, though nothing came in.
func TestPollReapsAhead(t *testing.T) {
	p := pool.New(2)
	p.Take()
	c := New(2, p)
	p.Give(0)
	answers(t, c.Send([]byte{1}), api.OK)
	finishes(t, c, 1, 1)
	state(t, c, p, 1, 0, 0, 0)
	idle(t, c)
	state(t, c, p, 2, 0, 0, 0)
}

// TestPollFillsAhead has the buffer of what was sent left over, for that of what came in is posted again.
func TestPollFillsAhead(t *testing.T) {
	p := pool.New(3)
	c := New(2, p)
	answers(t, c.Send([]byte{7}), api.OK)
	c.Arrive([]byte{1})
	c.Arrive([]byte{2})
	finishes(t, c, 1, 7)
	state(t, c, p, 0, 0, 2, 0)
	polls(t, c, 1)
	state(t, c, p, 1, 0, 1, 1)
	if i, _ := p.Take(); i != 2 {
		t.Error(i)
	}
}

// TestPollFillsWhenNothingCame has buffers that others gave back posted.
func TestPollFillsWhenNothingCame(t *testing.T) {
	p := pool.New(2)
	p.Take()
	p.Take()
	c := New(2, p)
	state(t, c, p, 0, 0, 0, 0)
	p.Give(1)
	answers(t, c.Arrive([]byte{1}), api.ErrFull)
	idle(t, c)
	state(t, c, p, 1, 0, 0, 0)
	p.Give(0)
	answers(t, c.Arrive([]byte{1}), api.OK)
	polls(t, c, 1)
	state(t, c, p, 2, 0, 0, 0)
}

// P16.4

func TestSend(t *testing.T) {
	p := pool.New(4)
	c := New(2, p)
	answers(t, c.Send([]byte{1}), api.OK)
	answers(t, c.Send([]byte{2}), api.OK)
	state(t, c, p, 2, 2, 0, 0)
	answers(t, c.Send([]byte{3}), api.ErrFull)
	finishes(t, c, -1)
	finishes(t, c, math.MinInt)
	finishes(t, c, 0)
	finishes(t, c, 1, 1)
	state(t, c, p, 2, 1, 0, 0)
	answers(t, c.Send([]byte{4}), api.OK)
	state(t, c, p, 2, 2, 0, 0)
	finishes(t, c, math.MaxInt, 2, 4)
	finishes(t, c, 2)
	state(t, c, p, 2, 0, 0, 0)
}

func TestSendBig(t *testing.T) {
	p := pool.New(3)
	c := New(1, p)
	big := bytes.Repeat([]byte{3}, 1515)
	answers(t, c.Send(big), api.ErrBig)
	state(t, c, p, 1, 0, 0, 2)
	answers(t, c.Send(big[:1514]), api.OK)
	answers(t, c.Send(big), api.ErrBig)
	answers(t, c.Send(nil), api.ErrFull)
	if l := c.Finish(2); len(l) != 1 || !bytes.Equal(l[0], big[:1514]) {
		t.Error(len(l))
	}
	answers(t, c.Send(nil), api.OK)
	if l := c.Finish(2); len(l) != 1 || len(l[0]) != 0 {
		t.Error(l)
	}
}

func TestSendEmpty(t *testing.T) {
	p := pool.New(3)
	c := New(2, p)
	p.Take()
	answers(t, c.Send([]byte{1}), api.ErrEmpty)
	answers(t, c.Send(make([]byte, 1515)), api.ErrBig)
	state(t, c, p, 2, 0, 0, 0)
	p.Give(2)
	answers(t, c.Send([]byte{1}), api.OK)
	answers(t, c.Send([]byte{1}), api.ErrEmpty)
	p = pool.New(4)
	c = New(2, p)
	c.Send([]byte{1})
	c.Send([]byte{2})
	answers(t, c.Send([]byte{3}), api.ErrFull)
}

// TestSendReapsWhateverItComesTo has what was sent given back by a Send that is refused, too; it doesn't fill.
func TestSendReapsWhateverItComesTo(t *testing.T) {
	p := pool.New(4)
	c := New(2, p)
	c.Send([]byte{1})
	c.Send([]byte{2})
	c.Arrive([]byte{5})
	finishes(t, c, 2, 1, 2)
	answers(t, c.Send(make([]byte, 1515)), api.ErrBig)
	state(t, c, p, 1, 0, 1, 2)
	polls(t, c, 5)
	c.Arrive([]byte{6})
	answers(t, c.Send([]byte{3}), api.OK)
	state(t, c, p, 1, 1, 1, 1)
}

func TestSendDoesNotFill(t *testing.T) {
	p := pool.New(3)
	others := []int{}
	for range 2 {
		i, _ := p.Take()
		others = append(others, i)
	}
	c := New(2, p)
	state(t, c, p, 1, 0, 0, 0)
	p.Give(others[0])
	p.Give(others[1])
	answers(t, c.Send([]byte{1}), api.OK)
	state(t, c, p, 1, 1, 0, 1)
	finishes(t, c, 1, 1)
	state(t, c, p, 1, 0, 0, 1)
	idle(t, c)
	state(t, c, p, 2, 0, 0, 1)
}

func TestMemoryOfItsOwn(t *testing.T) {
	c := New(2, pool.New(8))
	a, b := roomy.Bytes(1, 2, 3), roomy.Bytes(4, 5)
	c.Arrive(a)
	c.Send(b)
	if !roomy.Untouched(a, 1, 2, 3) || !roomy.Untouched(b, 4, 5) {
		t.Error("what was handed in is changed")
	}
	a[0], b[0] = 9, 9
	polls(t, c, 1, 2, 3)
	if l := c.Finish(1); len(l) != 1 || !bytes.Equal(l[0], []byte{4, 5}) {
		t.Error(l)
	}
}

func TestAnswersStay(t *testing.T) {
	c := New(1, pool.New(2))
	c.Arrive([]byte{1})
	c.Send([]byte{2})
	b, _ := c.Poll()
	l := c.Finish(1)
	c.Arrive([]byte{3})
	c.Send([]byte{4})
	if !bytes.Equal(b, []byte{1}) || !bytes.Equal(l[0], []byte{2}) {
		t.Error(b, l)
	}
}

// P16.5

func TestNil(t *testing.T) {
	c := New(4, nil)
	if c != nil {
		t.Error("a card without a pool")
	}
	answers(t, c.Arrive(nil), api.ErrNil)
	answers(t, c.Arrive(make([]byte, 1515)), api.ErrNil)
	answers(t, c.Send(nil), api.ErrNil)
	answers(t, c.Send(make([]byte, 1515)), api.ErrNil)
	idle(t, c)
	finishes(t, c, 3)
	if c.In() != 0 || c.Out() != 0 || c.Waits() != 0 {
		t.Error("of nil something is answered")
	}
}

// P16.6

// model is a card as plain rows, and how many buffers are free.
type model struct {
	size, free, posted, done int
	in, out                  []byte
}

func (m *model) fill() {
	for m.posted+len(m.in) < m.size && m.free > 0 {
		m.free--
		m.posted++
	}
}

func (m *model) reap() {
	m.free += m.done
	m.done = 0
}

func (m *model) arrive(b byte) api.Errno {
	if m.posted == 0 {
		return api.ErrFull
	}
	m.posted--
	m.in = append(m.in, b)
	return api.OK
}

func (m *model) send(b byte) api.Errno {
	m.reap()
	if len(m.out) == m.size {
		return api.ErrFull
	}
	if m.free == 0 {
		return api.ErrEmpty
	}
	m.free--
	m.out = append(m.out, b)
	return api.OK
}

func (m *model) poll() []byte {
	m.reap()
	m.fill()
	if len(m.in) == 0 {
		return nil
	}
	b := m.in[:1]
	m.in = m.in[1:]
	m.free++
	m.fill()
	return b
}

func (m *model) finish(n int) []byte {
	n = min(n, len(m.out))
	l := m.out[:n]
	m.out = m.out[n:]
	m.done += n
	return l
}

func TestAgainstRows(t *testing.T) {
	r := rand.New(rand.NewSource(16))
	for range 500 {
		size, bufs := 1+r.Intn(5), r.Intn(14)
		p := pool.New(bufs)
		c, m := New(size, p), &model{size: size, free: bufs}
		m.fill()
		for i := range 200 {
			b := byte(i)
			switch r.Intn(4) {
			case 0:
				answers(t, c.Arrive([]byte{b}), m.arrive(b))
			case 1:
				answers(t, c.Send([]byte{b}), m.send(b))
			case 2:
				want := m.poll()
				if got, ok := c.Poll(); !bytes.Equal(got, want) || ok != (len(want) > 0) {
					t.Fatal(got, ok, want)
				}
			case 3:
				n := r.Intn(4)
				finishes(t, c, n, m.finish(n)...)
			}
			state(t, c, p, m.posted, len(m.out), len(m.in), m.free)
		}
	}
}
