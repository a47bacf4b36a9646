package check

import (
	"math"
	"math/rand"
	"reflect"
	"slices"
	"testing"

	"linkboy/api"
	"linkboy/icmp"
	"linkboy/roomy"
	"linkboy/score"
	"linkboy/tcp"
)

func conf() api.Config {
	return api.Config{Addrs: [2]uint32{100, 200}, Interval: 5, Timeout: 3, Rise: 2, Fall: 2}
}

// of answers a farm of backends of these Ids, of a Vip of TCP.
func of(ids ...int) api.Farm {
	f := api.Farm{Vips: []api.Vip{{Id: 1, Addr: 9, Port: 80, Proto: 6, Mode: 1}}}
	for _, id := range ids {
		f.Backends = append(f.Backends, api.Backend{Id: id, Vip: 1, Addr: 7, Weight: 1, Life: 1})
	}
	return f
}

// tick lets a tick go, and holds what it answers against what is wanted.
func tick(t *testing.T, k *Check, begun []Probe, bad []int) {
	t.Helper()
	got, ids := k.Tick()
	if !slices.Equal(got, begun) || !slices.Equal(ids, bad) {
		t.Error(got, ids, "in place of", begun, bad)
	}
}

// P33.1

func TestNew(t *testing.T) {
	k := New(conf())
	tick(t, k, nil, nil)
	tick(t, k, nil, nil)
	if k.Up(1) || k.Answer(1, 1, true) {
		t.Error("somebody is probed")
	}
	k.Follow(of(4))
	tick(t, k, []Probe{{4, 1}}, nil)
}

func TestFollow(t *testing.T) {
	k := New(conf())
	k.Follow(of(3, 8))
	tick(t, k, []Probe{{3, 1}, {8, 2}}, nil)
	k.Follow(of(2, 3))
	if k.Answer(8, 2, true) {
		t.Error("one who isn't there any more answers")
	}
	if !k.Answer(3, 1, true) {
		t.Error("one who stays is forgotten")
	}
	tick(t, k, []Probe{{2, 3}}, nil)
	k.Follow(of(2, 3, 8))
	tick(t, k, []Probe{{8, 4}}, nil)
	k.Follow(of())
	tick(t, k, nil, nil)
	k.Follow(of(3))
	tick(t, k, []Probe{{3, 5}}, nil)
}

// TestFollowForgets has one gone and back: it is down again.
func TestFollowForgets(t *testing.T) {
	k := New(api.Config{Interval: 1, Timeout: 1, Rise: 1, Fall: 1})
	k.Follow(of(3))
	k.Tick()
	k.Answer(3, 1, true)
	if !k.Up(3) || k.Up(4) || k.Up(0) || k.Up(-3) {
		t.Error("who is up isn't told")
	}
	k.Follow(of(3))
	if !k.Up(3) {
		t.Error("one who stays is forgotten")
	}
	k.Follow(of())
	if k.Up(3) {
		t.Error("one who is gone is up")
	}
	k.Follow(of(3))
	if k.Up(3) {
		t.Error("one who comes is up")
	}
}

// TestFollowLooksAtIds has a farm that may not be, but for its Ids.
func TestFollowLooksAtIds(t *testing.T) {
	k := New(conf())
	f := api.Farm{Backends: []api.Backend{{Id: 1}, {Id: 5, Vip: 9, Life: 7, Up: true}}}
	k.Follow(f)
	tick(t, k, []Probe{{1, 1}, {5, 2}}, nil)
	if k.Up(5) || !slices.Equal(f.Backends, []api.Backend{{Id: 1}, {Id: 5, Vip: 9, Life: 7, Up: true}}) {
		t.Error("more than the Ids plays a part", f)
	}
	f.Backends[0].Id = 3
	if !k.Answer(1, 1, true) {
		t.Error("the farm is kept")
	}
}

func TestUp(t *testing.T) {
	k := New(api.Config{Interval: 1, Timeout: 1, Rise: 2, Fall: 3})
	k.Follow(of(3))
	for i, x := range []struct{ good, up bool }{{true, false}, {false, false}, {true, false}, {true, true}, {false, true}, {false, true}, {true, true}, {false, true}, {false, true}, {false, false}, {true, false}} {
		l, _ := k.Tick()
		if len(l) != 1 || !k.Answer(3, l[0].Num, x.good) || k.Up(3) != x.up {
			t.Error(i, l, k.Up(3))
		}
	}
}

// P33.2

func TestTick(t *testing.T) {
	k := New(conf())
	k.Follow(of(3, 8))
	tick(t, k, []Probe{{3, 1}, {8, 2}}, nil)
	k.Answer(3, 1, true)
	tick(t, k, nil, nil)
	tick(t, k, nil, nil)
	tick(t, k, nil, []int{8})
	tick(t, k, nil, nil)
	tick(t, k, []Probe{{3, 3}, {8, 4}}, nil)
	tick(t, k, nil, nil)
	tick(t, k, nil, nil)
	tick(t, k, nil, []int{3, 8})
	if k.Answer(3, 3, true) || k.Answer(8, 4, true) {
		t.Error("what came to something is under way")
	}
}

// TestTickLongTimeouts has a probe that is under way when the next one is due: it begins when that one is over, in the same tick.
func TestTickLongTimeouts(t *testing.T) {
	k := New(api.Config{Interval: 2, Timeout: 5, Rise: 1, Fall: 1})
	k.Follow(of(3))
	tick(t, k, []Probe{{3, 1}}, nil)
	for range 4 {
		tick(t, k, nil, nil)
	}
	tick(t, k, []Probe{{3, 2}}, []int{3})
	tick(t, k, nil, nil)
	k.Answer(3, 2, true)
	tick(t, k, []Probe{{3, 3}}, nil)
	tick(t, k, nil, nil)
	tick(t, k, nil, nil)
	k.Answer(3, 3, false)
	tick(t, k, []Probe{{3, 4}}, nil)
	if k.Up(3) {
		t.Error("a bad one didn't count")
	}
}

func TestTickEveryTick(t *testing.T) {
	k := New(api.Config{Interval: 1, Timeout: 1, Rise: 1, Fall: 1})
	k.Follow(of(3))
	tick(t, k, []Probe{{3, 1}}, nil)
	tick(t, k, []Probe{{3, 2}}, []int{3})
	k.Answer(3, 2, true)
	tick(t, k, []Probe{{3, 3}}, nil)
	if !k.Up(3) {
		t.Error("down")
	}
	tick(t, k, []Probe{{3, 4}}, []int{3})
	if k.Up(3) {
		t.Error("up")
	}
}

// P33.3

func TestAnswer(t *testing.T) {
	k := New(conf())
	k.Follow(of(3, 8))
	if k.Answer(3, 0, true) || k.Answer(3, 1, true) {
		t.Error("none is under way")
	}
	k.Tick()
	for _, x := range []struct {
		id  int
		num uint32
	}{{3, 2}, {8, 1}, {3, 0}, {4, 1}, {0, 0}, {-1, 1}, {3, 1<<16 + 1}} {
		if k.Answer(x.id, x.num, true) {
			t.Error(x)
		}
	}
	if !k.Answer(8, 2, false) || k.Answer(8, 2, false) || !k.Answer(3, 1, true) || k.Answer(3, 1, true) {
		t.Error("what was under way isn't told")
	}
}

func TestNil(t *testing.T) {
	var k *Check
	k.Follow(of(1))
	begun, bad := k.Tick()
	if len(begun) != 0 || len(bad) != 0 || k.Up(1) || k.Answer(1, 1, true) {
		t.Error("of nil there is something")
	}
}

// plain is a backend that is probed, as rows of what it came to.
type plain struct {
	past  []bool
	due   int
	under uint32
	since int
}

// TestAgainstRows holds many calls against rows by Id.
func TestAgainstRows(t *testing.T) {
	r := rand.New(rand.NewSource(33))
	for range 50 {
		c := api.Config{Interval: 1 + r.Intn(6), Timeout: 1 + r.Intn(6), Rise: 1 + r.Intn(3), Fall: 1 + r.Intn(3)}
		k, rows, now, next := New(c), map[int]*plain{}, 0, uint32(1)
		for range 300 {
			switch r.Intn(6) {
			case 0:
				var ids []int
				for id := 1; id <= 6; id++ {
					if r.Intn(3) == 0 {
						delete(rows, id)
						continue
					}
					ids = append(ids, id)
					if rows[id] == nil {
						rows[id] = &plain{due: now}
					}
				}
				k.Follow(of(ids...))
			case 1, 2:
				id, num, good := 1+r.Intn(6), next-uint32(r.Intn(8)), r.Intn(2) == 0
				p := rows[id]
				want := p != nil && p.under != 0 && p.under == num
				if want {
					p.past, p.under = append(p.past, good), 0
				}
				if got := k.Answer(id, num, good); got != want {
					t.Fatal(id, num, got)
				}
			default:
				now++
				var begun []Probe
				var bad []int
				for id := 1; id <= 6; id++ {
					p := rows[id]
					if p == nil {
						continue
					}
					if p.under != 0 && now >= p.since+c.Timeout {
						p.past, p.under, bad = append(p.past, false), 0, append(bad, id)
					}
					if p.under == 0 && now >= p.due {
						p.under, p.since, p.due = next, now, now+c.Interval
						begun = append(begun, Probe{id, next})
						next++
					}
				}
				tick(t, k, begun, bad)
			}
			for id := range 8 {
				p := rows[id]
				if want := p != nil && score.Of(p.past, c.Rise, c.Fall).Up; k.Up(id) != want {
					t.Fatal(id, k.Up(id))
				}
			}
		}
	}
}

// P33.4

// both answers a farm with a Vip of TCP, and one of UDP.
func both() api.Farm {
	return api.Farm{
		Vips:     []api.Vip{{Id: 1, Addr: 9, Port: 80, Proto: 6, Mode: 1}, {Id: 2, Addr: 9, Port: 53, Proto: 17, Mode: 1}},
		Backends: []api.Backend{{Id: 1, Vip: 1, Addr: 7, Weight: 1, Life: 1}, {Id: 2, Vip: 2, Addr: 7, Weight: 1, Life: 2}, {Id: 999, Vip: 1, Addr: 8, Weight: 1, Life: 1}, {Id: 1000, Vip: 2, Addr: 8, Weight: 1, Life: 1}},
	}
}

func TestPacketOfSegments(t *testing.T) {
	for _, x := range []struct {
		p    Probe
		to   uint32
		port uint16
		num  uint32
	}{{Probe{1, 5}, 7, 30001, 5}, {Probe{999, math.MaxUint32}, 8, 30999, math.MaxUint32}} {
		data, _ := tcp.Put(200, x.to, api.Segment{Src: x.port, Dst: 80, Seq: x.num, Flags: 2, Window: 65535})
		want := api.Packet{DF: true, TTL: 64, Proto: 6, Src: 200, Dst: x.to, Data: data}
		if got, ok := Packet(conf(), both(), x.p); !ok || !reflect.DeepEqual(got, want) {
			t.Error(x, got, ok)
		}
		want.Data, _ = tcp.Put(200, x.to, api.Segment{Src: x.port, Dst: 80, Seq: x.num + 1, Flags: 4, Window: 65535})
		if got, ok := Bye(conf(), both(), x.p); !ok || !reflect.DeepEqual(got, want) {
			t.Error(x, got, ok)
		}
	}
}

func TestPacketOfEchoes(t *testing.T) {
	for _, x := range []struct {
		p        Probe
		to       uint32
		id, half uint16
	}{{Probe{2, 5}, 7, 2, 5}, {Probe{2, 65536 + 9}, 7, 2, 9}, {Probe{1000, math.MaxUint32}, 8, 1000, 65535}} {
		want := api.Packet{DF: true, TTL: 64, Proto: 1, Src: 200, Dst: x.to, Data: icmp.Put(icmp.Ask(x.id, x.half, nil))}
		if got, ok := Packet(conf(), both(), x.p); !ok || !reflect.DeepEqual(got, want) {
			t.Error(x, got, ok)
		}
		if got, ok := Bye(conf(), both(), x.p); ok || !reflect.DeepEqual(got, api.Packet{}) {
			t.Error(x, got, ok)
		}
	}
}

func TestPacketOfNobody(t *testing.T) {
	for _, id := range []int{0, 3, -1, math.MaxInt} {
		for _, f := range []func(api.Config, api.Farm, Probe) (api.Packet, bool){Packet, Bye} {
			if got, ok := f(conf(), both(), Probe{id, 1}); ok || !reflect.DeepEqual(got, api.Packet{}) {
				t.Error(id, got, ok)
			}
		}
	}
}

// P33.5

// answer answers the packet of a segment from a backend.
func answer(from uint32, s api.Segment) api.Packet {
	data, _ := tcp.Put(from, 200, s)
	return api.Packet{TTL: 1, Proto: 6, Src: from, Dst: 200, Data: data}
}

// echo answers the packet of a message from a backend.
func echo(from uint32, m api.Icmp) api.Packet {
	return api.Packet{TTL: 1, Proto: 1, Src: from, Dst: 200, Data: icmp.Put(m)}
}

// read holds what Read answers against what is wanted.
func read(t *testing.T, q api.Packet, want Probe, good, ok bool) {
	t.Helper()
	if p, g, o := Read(conf(), both(), q); p != want || g != good || o != ok {
		t.Error(p, g, o)
	}
}

func TestReadSegments(t *testing.T) {
	s := api.Segment{Src: 80, Dst: 30001, Ack: 6}
	for flags := range 64 {
		s.Flags = byte(flags)
		if flags&api.ACK == 0 {
			read(t, answer(7, s), Probe{}, false, false)
		} else {
			read(t, answer(7, s), Probe{1, 5}, flags&api.SYN != 0 && flags&api.RST == 0, true)
		}
	}
	s.Flags, s.Ack = api.SYN|api.ACK, 0
	read(t, answer(7, s), Probe{1, math.MaxUint32}, true, true)
	s.Dst = 30999
	read(t, answer(8, s), Probe{999, math.MaxUint32}, true, true)
	read(t, answer(7, s), Probe{}, false, false)
	read(t, answer(9, s), Probe{}, false, false)
	s.Dst, s.Src = 30001, 81
	read(t, answer(7, s), Probe{}, false, false)
	// A backend of another Vip's protocol isn't asked by segments.
	s.Dst, s.Src = 30002, 53
	read(t, answer(7, s), Probe{}, false, false)
}

func TestReadEchoes(t *testing.T) {
	m := icmp.Answer(icmp.Ask(2, 65535, []byte{1}))
	read(t, echo(7, m), Probe{2, 65535}, true, true)
	m.Code = 9
	read(t, echo(7, m), Probe{2, 65535}, true, true)
	read(t, echo(8, m), Probe{}, false, false)
	for typ := 1; typ < 256; typ++ {
		m.Type = byte(typ)
		read(t, echo(7, m), Probe{}, false, false)
	}
	for id, want := range map[uint16]bool{1: false, 3: false, 0: false, 999: false, 1000: true} {
		p := Probe{}
		if want {
			p = Probe{1000, 4}
		}
		read(t, echo(8, icmp.Answer(icmp.Ask(id, 4, nil))), p, want, want)
	}
}

func TestReadWrong(t *testing.T) {
	right := answer(7, api.Segment{Src: 80, Dst: 30001, Ack: 6, Flags: api.SYN | api.ACK})
	reply := echo(7, icmp.Answer(icmp.Ask(2, 5, nil)))
	for i, change := range []func(q *api.Packet){
		func(q *api.Packet) { q.Dst = 100 },
		func(q *api.Packet) { q.Dst = 201 },
		func(q *api.Packet) { q.MF = true },
		func(q *api.Packet) { q.Off = 1 },
		func(q *api.Packet) { q.Proto = 17 },
		func(q *api.Packet) { q.Proto = 7 - q.Proto },
		func(q *api.Packet) { q.Data = nil },
		func(q *api.Packet) { q.Data = append(slices.Clone(q.Data), 1) },
		func(q *api.Packet) { q.Data = slices.Clone(q.Data); q.Data[1] ^= 1 },
		func(q *api.Packet) { q.Src = 0 },
	} {
		for _, q := range []api.Packet{right, reply} {
			change(&q)
			if p, good, ok := Read(conf(), both(), q); p != (Probe{}) || good || ok {
				t.Error(i, p, good, ok)
			}
		}
	}
	if p, good, ok := Read(conf(), api.Farm{}, right); p != (Probe{}) || good || ok {
		t.Error(p, good, ok)
	}
	q := right
	q.Data = roomy.Bytes(q.Data...)
	Read(conf(), both(), q)
	if !roomy.Untouched(q.Data, right.Data...) {
		t.Error("the packet is changed")
	}
}

// TestReadTheFirst has two of one address: the first one of which the packet tells.
func TestReadTheFirst(t *testing.T) {
	f := both()
	for i := range f.Backends {
		f.Backends[i].Addr = 7
	}
	for _, b := range f.Backends {
		p, want := Probe{b.Id, 5}, true
		ask, _ := Packet(conf(), f, p)
		q := api.Packet{Proto: ask.Proto, Src: 7, Dst: 200}
		if ask.Proto == 6 {
			s, _ := tcp.Parse(200, 7, ask.Data)
			q.Data, _ = tcp.Put(7, 200, tcp.Plain(s.Dst, s.Src, 77, tcp.Next(s), api.SYN|api.ACK))
		} else {
			m, _ := icmp.Parse(ask.Data)
			q.Data = icmp.Put(icmp.Answer(m))
		}
		if got, good, ok := Read(conf(), f, q); got != p || good != want || !ok {
			t.Error(got, good, ok)
		}
	}
}
