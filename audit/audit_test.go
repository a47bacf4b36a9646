package audit

import (
	"math/rand"
	"slices"
	"testing"

	"linkboy/api"
	"linkboy/cookie"
	"linkboy/ether"
	"linkboy/host"
	"linkboy/ipv4"
	"linkboy/proxy"
	"linkboy/tag"
	"linkboy/tcp"
	"linkboy/udp"
)

const (
	near   = 0x0a000001
	inner  = 0x0a010001
	client = 0x08080808
	vip    = 0x0a000064
)

func conf() api.Config {
	return api.Config{
		Macs: [2]api.Mac{{2, 0, 0, 0, 0, 1}, {2, 0, 0, 0, 0, 2}}, Addrs: [2]uint32{near, inner}, Bits: [2]int{24, 24}, Gateway: 0x0a0000fe, MTU: 1500,
		Hash: api.Key{Lo: 1, Hi: 2}, Control: api.Key{Lo: 3, Hi: 4}, Listen: 7000, Prime: 13, Flows: 8, Ring: 8, Bufs: 64, Cache: 8, Queue: 8,
		Age: 100, Retry: 2, Tries: 3, Opening: 5, Open: 30, Closing: 4, Loose: 10, Interval: 3, Timeout: 2, Rise: 1, Fall: 1,
	}
}

// give has a packet arrive at a card, and be handled; rings that go out are emptied.
func give(h *host.Host, nic int, p api.Packet) {
	b, _ := ipv4.Put(p)
	f := ether.Put(api.Frame{Dst: conf().Macs[nic], Src: api.Mac{2, 9}, Type: api.TypeIP, Data: b})
	h.Do(api.Act{Kind: api.ActFrame, Nic: nic, Frame: f})
	h.Do(api.Act{Kind: api.ActPoll, Nic: nic, N: 64})
	h.Do(api.Act{Kind: api.ActDone, N: 64})
	h.Do(api.Act{Kind: api.ActDone, Nic: 1, N: 64})
}

// order gives an order.
func order(h *host.Host, o api.Order) {
	o.Count = h.Last() + 1
	b, _ := tag.Put(conf().Control, o)
	data, _ := udp.Put(9, near, api.Datagram{Src: 1, Dst: 7000, Data: b})
	give(h, 0, api.Packet{TTL: 1, Proto: 17, Src: 9, Dst: near, Data: data})
}

// segment gives a segment.
func segment(h *host.Host, nic int, src, dst uint32, s api.Segment) {
	data, _ := tcp.Put(src, dst, s)
	give(h, nic, api.Packet{TTL: 1, Proto: 6, Src: src, Dst: dst, Data: data})
}

// served answers a balancer of a Vip that is direct, and one that is proxied; of the three backends the last one isn't up.
func served(t *testing.T) *host.Host {
	t.Helper()
	h, e := host.New(conf())
	if e != api.OK {
		t.Fatal(e)
	}
	order(h, api.Order{Op: api.OrderVip, Id: 1, Addr: vip, Port: 80, Proto: 6, Num: api.Direct})
	order(h, api.Order{Op: api.OrderVip, Id: 2, Addr: vip, Port: 443, Proto: 6, Num: api.Proxy})
	order(h, api.Order{Op: api.OrderAdd, Id: 21, Vip: 2, Addr: inner + 2, Num: 1})
	order(h, api.Order{Op: api.OrderAdd, Id: 11, Vip: 1, Addr: inner + 1, Num: 1})
	order(h, api.Order{Op: api.OrderAdd, Id: 12, Vip: 1, Addr: inner + 3, Num: 1})
	h.Do(api.Act{Kind: api.ActTick, N: 1})
	segment(h, 1, inner+1, inner, tcp.Plain(80, 30011, 0, 2, 18))
	segment(h, 1, inner+2, inner, tcp.Plain(443, 30021, 0, 4, 18))
	if f := h.Farm(); len(f.Backends) != 3 || !f.Backends[0].Up || f.Backends[1].Up || !f.Backends[2].Up {
		t.Fatal(f)
	}
	return h
}

// taken gives the segment by which a client answers the cookie that it would be offered.
func taken(h *host.Host, port uint16) {
	f := api.Flow{Src: client, Dst: vip, SrcPort: port, DstPort: 443, Proto: 6}
	offer := proxy.Offer(cookie.Secrets{Now: conf().Hash}, f, api.Segment{Seq: 99})
	segment(h, 0, client, vip, tcp.Plain(port, 443, 100, offer.Seq+1, api.ACK))
}

// P51.1

func TestLook(t *testing.T) {
	h, _ := host.New(conf())
	if got := Look(conf(), h); got != 0 {
		t.Error(got)
	}
	if got := Look(api.Config{}, nil); got != 0 {
		t.Error(got)
	}
	h = served(t)
	segment(h, 0, client, vip, tcp.Plain(1, 80, 1, 0, api.SYN))
	taken(h, 2)
	taken(h, 3)
	if got := Look(conf(), h); got != 0 || len(h.Entries()) != 3 || h.Known() == 0 || h.Use()[7] == 0 {
		t.Error(got, h.Entries(), h.Use())
	}
	use := h.Use()
	for i, change := range []func(c *api.Config){
		func(c *api.Config) { c.Flows = 2 }, func(c *api.Config) { c.Cache = h.Known() - 1 }, func(c *api.Config) { c.Queue = use[7] - 1 },
		func(c *api.Config) { c.Ring = 7 }, func(c *api.Config) { c.Bufs = 15 }, func(c *api.Config) { *c = api.Config{} },
	} {
		c := conf()
		change(&c)
		if got := Look(c, h); got != 7 {
			t.Error(i, got)
		}
	}
}

// right answers what is seen of a balancer of which all is so.
func right() state {
	flow := func(port, to uint16) api.Flow {
		return api.Flow{Src: client, Dst: vip, SrcPort: port, DstPort: to, Proto: 6}
	}
	return state{
		farm: api.Farm{
			Vips:     []api.Vip{{Id: 1, Addr: vip, Port: 80, Proto: 6, Mode: 1}, {Id: 2, Addr: vip, Port: 443, Proto: 6, Mode: 2}},
			Backends: []api.Backend{{Id: 11, Vip: 1, Addr: 5, Weight: 1, Life: 1}, {Id: 21, Vip: 2, Addr: 5, Weight: 1, Life: 1}},
		},
		entries: []api.Entry{
			{Flow: flow(1, 80), Backend: 11, Phase: 1},
			{Flow: flow(2, 80), Backend: 11, Phase: 2},
			{Flow: flow(2, 443), Backend: 21, Phase: 1, Proxied: true, Port: 20000},
			{Flow: flow(3, 443), Backend: 21, Phase: 2, Proxied: true, Joined: true, Port: 65535},
		},
		use:   [8]int{20, 3, 5, 8, 4, 4, 8, 8},
		known: 8,
	}
}

func TestLookTells(t *testing.T) {
	c := conf()
	c.Flows, c.Bufs = 4, 52
	if got := look(c, right()); got != 0 {
		t.Error(got)
	}
	// Each of these leaves what stands behind it wrong, too.
	for i, x := range []struct {
		change func(s *state)
		want   int
	}{
		{func(s *state) { s.known = 9 }, 7},
		{func(s *state) { s.use[7] = 9 }, 7},
		{func(s *state) { s.use[0] = 21 }, 7},
		{func(s *state) { s.use[1], s.use[0] = 4, 0 }, 7},
		{func(s *state) { s.use[2], s.use[0] = 6, 0 }, 7},
		{func(s *state) { s.use[3], s.use[0] = 9, 0 }, 7},
		{func(s *state) { s.use[4], s.use[0] = 5, 0 }, 7},
		{func(s *state) { s.use[5], s.use[0] = 5, 0 }, 7},
		{func(s *state) { s.use[6], s.use[0] = 9, 0 }, 7},
		{func(s *state) { s.entries[0].Joined = true }, 6},
		{func(s *state) { s.entries[3].Port = 20000 }, 5},
		{func(s *state) { s.entries[2].Port = 19999 }, 5},
		{func(s *state) { s.entries[0], s.entries[1] = s.entries[1], s.entries[0] }, 4},
		{func(s *state) { s.entries[1].Flow = s.entries[0].Flow }, 4},
		{func(s *state) { s.entries[1].Flow.DstPort = 81 }, 3},
		{func(s *state) { s.entries[1].Flow.Dst++ }, 3},
		{func(s *state) { s.entries[1].Flow.Proto = 17 }, 3},
		{func(s *state) { s.entries[2].Backend = 11 }, 3},
		{func(s *state) { s.entries[0].Backend = 12 }, 2},
		{func(s *state) { s.farm.Backends = s.farm.Backends[:1] }, 2},
		{func(s *state) { s.farm.Vips[0].Port = 0 }, 1},
		{func(s *state) { s.farm.Backends[0].Weight = 9 }, 1},
	} {
		s := right()
		x.change(&s)
		if got := look(c, s); got != x.want {
			t.Error(i, got)
		}
		wrongs := []func(s *state){
			func(s *state) { s.known = 99 }, func(s *state) { s.entries[0].Joined = true }, func(s *state) { s.entries[2].Port = 1 }, func(s *state) { s.entries = append(s.entries, s.entries[0]) },
		}
		for k, wrong := range wrongs {
			s := right()
			x.change(&s)
			wrong(&s)
			if got := look(c, s); got != min(x.want, 7-k) {
				t.Error(i, k, got)
			}
		}
	}
	more := right()
	c.Flows = 3
	if got := look(c, more); got != 7 {
		t.Error(got)
	}
}

// P51.2

func TestPer(t *testing.T) {
	h, _ := host.New(conf())
	if len(Per(h)) != 0 || len(Idle(h)) != 0 || len(Per(nil)) != 0 || len(Idle(nil)) != 0 {
		t.Error("there are Loads")
	}
	h = served(t)
	if got := Per(h); !slices.Equal(got, []Load{{Backend: 11}, {Backend: 12}, {Backend: 21}}) {
		t.Error(got)
	}
	if got := Idle(h); !slices.Equal(got, []int{11, 12, 21}) {
		t.Error(got)
	}
	taken(h, 2)
	if got := Idle(h); !slices.Equal(got, []int{11, 12}) {
		t.Error(got)
	}
	segment(h, 0, client, vip, tcp.Plain(1, 80, 1, 0, api.SYN))
	segment(h, 0, client, vip, tcp.Plain(2, 80, 1, 0, api.SYN))
	taken(h, 3)
	taken(h, 4)
	if got := Per(h); !slices.Equal(got, []Load{{Backend: 11, Direct: 2}, {Backend: 12}, {Backend: 21, Proxied: 3}}) {
		t.Error(got)
	}
	if got := Idle(h); !slices.Equal(got, []int{12}) {
		t.Error(got)
	}
	if got := Sum(Per(h)); got != (Load{Direct: 2, Proxied: 3}) {
		t.Error(got)
	}
	// One Vip's mode becomes another one: a backend has flows of both kinds.
	order(h, api.Order{Op: api.OrderMode, Id: 2, Num: api.Direct})
	segment(h, 0, client, vip, tcp.Plain(9, 443, 1, 0, api.SYN))
	if got := Per(h); !slices.Equal(got, []Load{{Backend: 11, Direct: 2}, {Backend: 12}, {Backend: 21, Direct: 1, Proxied: 3}}) {
		t.Error(got)
	}
}

func TestSum(t *testing.T) {
	for i, x := range []struct {
		l    []Load
		want Load
	}{{nil, Load{}}, {[]Load{{7, 1, 2}}, Load{0, 1, 2}}, {[]Load{{7, 1, 2}, {8, 10, 20}, {7, 100, 200}}, Load{0, 111, 222}}} {
		if got := Sum(x.l); got != x.want {
			t.Error(i, got)
		}
	}
}

// P51.3

func TestRuns(t *testing.T) {
	r := rand.New(rand.NewSource(51))
	for range 20 {
		h := served(t)
		for range 300 {
			port := uint16(r.Intn(12))
			switch r.Intn(8) {
			case 0:
				taken(h, port)
			case 1, 2:
				segment(h, 0, client, vip, tcp.Plain(port, []uint16{80, 443}[r.Intn(2)], 1, r.Uint32(), byte(r.Intn(64))))
			case 3:
				segment(h, 1, inner+2, inner, tcp.Plain(443, 20000+port, r.Uint32(), 100, byte(r.Intn(64))))
			case 4:
				order(h, api.Order{Op: 2 + r.Intn(5), Id: []int{1, 2, 11, 12, 21, 22}[r.Intn(6)], Vip: 1 + r.Intn(2), Addr: inner + uint32(1+r.Intn(3)), Num: 1 + r.Intn(2)})
			case 5:
				h.Do(api.Act{Kind: api.ActTick, N: r.Intn(3)})
			case 6:
				segment(h, 1, inner+1+uint32(port%3), inner, tcp.Plain([]uint16{80, 443}[r.Intn(2)], 30000+[]uint16{11, 12, 21, 22}[r.Intn(4)], 0, uint32(r.Intn(400)), 18))
			case 7:
				h.Do(api.Act{Kind: api.ActFrame, Nic: r.Intn(2), Frame: make([]byte, r.Intn(20))})
			}
			if got := Look(conf(), h); got != 0 {
				t.Fatal(got, h.Entries(), h.Farm(), h.Use())
			}
			if all := Sum(Per(h)); all.Direct+all.Proxied != len(h.Entries()) || all.Backend != 0 {
				t.Fatal(all)
			}
		}
	}
}
