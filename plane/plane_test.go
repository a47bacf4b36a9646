package plane

import (
	"math/rand"
	"reflect"
	"slices"
	"testing"

	"linkboy/api"
	"linkboy/board"
	"linkboy/cookie"
	"linkboy/flow"
	"linkboy/icmp"
	"linkboy/ipv4"
	"linkboy/proxy"
	"linkboy/roomy"
	"linkboy/tcp"
	"linkboy/topt"
	"linkboy/udp"
)

const (
	client = 0x08080808
	host   = 0x0a000064
	inner  = 0x0a010001
)

func conf() api.Config {
	return api.Config{
		Macs: [2]api.Mac{{2, 0, 0, 0, 0, 1}, {2, 0, 0, 0, 0, 2}}, Addrs: [2]uint32{0x0a000001, inner}, Bits: [2]int{24, 24}, Gateway: 0x0a0000fe, MTU: 1500,
		Hash: api.Key{Lo: 1, Hi: 2}, Control: api.Key{Lo: 3, Hi: 4}, Listen: 7000, Prime: 13, Flows: 4, Ring: 8, Bufs: 64, Cache: 8, Queue: 8,
		Age: 100, Retry: 2, Tries: 3, Opening: 5, Open: 30, Closing: 4, Loose: 10, Interval: 3, Timeout: 2, Rise: 2, Fall: 2,
	}
}

// usual answers a farm of a Vip of TCP that is direct, one that is proxied, and one of UDP; the third backend's address is the second one's.
func usual() api.Farm {
	return api.Farm{
		Vips: []api.Vip{{Id: 1, Addr: host, Port: 80, Proto: 6, Mode: api.Direct}, {Id: 2, Addr: host, Port: 443, Proto: 6, Mode: api.Proxy}, {Id: 3, Addr: host, Port: 53, Proto: 17, Mode: api.Direct}},
		Backends: []api.Backend{
			{Id: 11, Vip: 1, Addr: inner + 10, Weight: 1, Life: api.Serving, Up: true},
			{Id: 21, Vip: 2, Addr: inner + 20, Weight: 1, Life: api.Serving, Up: true},
			{Id: 31, Vip: 3, Addr: inner + 30, Weight: 1, Life: api.Serving, Up: true},
		},
	}
}

// ready answers a plane of that farm.
func ready() *Plane {
	p := New(conf())
	p.Farm(usual())
	return p
}

// bytesOf answers a packet's bytes.
func bytesOf(x api.Packet) []byte {
	b, _ := ipv4.Put(x)
	return b
}

// seg answers the packet of a segment from a client's port to a Vip's.
func seg(port, to uint16, flags byte, data ...byte) api.Packet {
	s := api.Segment{Src: port, Dst: to, Seq: 1000, Ack: 2000, Flags: flags, Window: 99, Data: data}
	return packed(client, host, s)
}

// packed answers a packet of a segment.
func packed(src, dst uint32, s api.Segment) api.Packet {
	b, _ := tcp.Put(src, dst, s)
	return api.Packet{TOS: 7, ID: 77, DF: true, TTL: 9, Proto: 6, Src: src, Dst: dst, Data: b}
}

// gram answers the packet of a datagram from a client's port.
func gram(port uint16) api.Packet {
	b, _ := udp.Put(client, host, api.Datagram{Src: port, Dst: 53, Data: []byte("x")})
	return api.Packet{TTL: 9, Proto: 17, Src: client, Dst: host, Data: b}
}

// borne answers the packet that bears another one.
func borne(x api.Packet, to uint32, id uint16) api.Packet {
	return api.Packet{TOS: x.TOS, ID: id, DF: x.DF, TTL: 64, Proto: 4, Src: inner, Dst: to, Data: bytesOf(x)}
}

// own answers the packet of a segment that is made.
func own(src, dst uint32, s api.Segment) api.Packet {
	b, _ := tcp.Put(src, dst, s)
	return api.Packet{DF: true, TTL: 64, Proto: 6, Src: src, Dst: dst, Data: b}
}

// same tells whether an answer is that of some packets.
func same(got Out, counts []int, packets ...api.Packet) bool {
	if !slices.Equal(got.Counts, counts) || len(got.Packets) != len(packets) {
		return false
	}
	for i, x := range packets {
		if !slices.Equal(bytesOf(got.Packets[i]), bytesOf(x)) {
			return false
		}
	}
	return true
}

// forward forwards a packet, and holds what becomes of it against what is wanted.
func forward(t *testing.T, p *Plane, x api.Packet, counts []int, packets ...api.Packet) {
	t.Helper()
	if got := p.Forward(bytesOf(x)); !same(got, counts, packets...) {
		t.Errorf("%v in place of %v %v", got, counts, packets)
	}
}

// returned is forward of what a backend answers.
func returned(t *testing.T, p *Plane, x api.Packet, counts []int, packets ...api.Packet) {
	t.Helper()
	if got, ok := p.Back(x); !ok || !same(got, counts, packets...) {
		t.Errorf("%v %v in place of %v %v", got, ok, counts, packets)
	}
}

// kept holds the entries against those that are wanted.
func kept(t *testing.T, p *Plane, want ...api.Entry) {
	t.Helper()
	if got := p.Entries(); !slices.Equal(got, want) {
		t.Errorf("%v in place of %v", got, want)
	}
}

// from answers the flow of a client's port to a Vip's.
func from(port, to uint16) api.Flow {
	f := api.Flow{Src: client, Dst: host, SrcPort: port, DstPort: to, Proto: 6}
	if to == 53 {
		f.Proto = 17
	}
	return f
}

var (
	steady  = []int{api.CntForward}
	tracked = []int{api.CntForward, api.CntTracked}
)

// P39.1

func TestNew(t *testing.T) {
	p := New(conf())
	kept(t, p)
	if p.Version() != 0 || p.Tick() != 0 || p.Gone(11) != 0 {
		t.Error("something is there")
	}
	if want := (cookie.Secrets{Now: conf().Hash, Last: conf().Hash}); p.Secrets() != want {
		t.Error(p.Secrets())
	}
	forward(t, p, seg(1, 80, api.SYN), []int{api.CntNoVip})
}

func TestFarm(t *testing.T) {
	p := New(conf())
	f := usual()
	p.Farm(f)
	if p.Version() != 1 {
		t.Error(p.Version())
	}
	f.Backends[0].Addr, f.Vips[0].Port = 1, 81
	forward(t, p, seg(1, 80, api.SYN), tracked, borne(seg(1, 80, api.SYN), inner+10, 0))
	p.Farm(usual())
	if p.Version() != 1 {
		t.Error("filled anew", p.Version())
	}
	f = usual()
	f.Backends[0].Up = false
	p.Farm(f)
	if p.Version() != 2 {
		t.Error(p.Version())
	}
	forward(t, p, seg(2, 80, api.SYN), []int{api.CntNoBackend})
	forward(t, p, seg(1, 80, api.ACK), steady, borne(seg(1, 80, api.ACK), inner+10, 1))
	if !reflect.DeepEqual(f.Vips, usual().Vips) {
		t.Error("the farm is changed")
	}
}

func TestSecret(t *testing.T) {
	p := ready()
	one, two := api.Key{Lo: 5}, api.Key{Lo: 6}
	p.Secret(one)
	if want := (cookie.Secrets{Now: one, Last: conf().Hash, Epoch: 1}); p.Secrets() != want {
		t.Error(p.Secrets())
	}
	p.Secret(two)
	if want := (cookie.Secrets{Now: two, Last: one, Epoch: 2}); p.Secrets() != want {
		t.Error(p.Secrets())
	}
}

// ticks lets ticks go, and answers how many flows were over.
func ticks(p *Plane, n int) int {
	over := 0
	for range n {
		over += p.Tick()
	}
	return over
}

func TestTick(t *testing.T) {
	p := ready()
	forward(t, p, seg(1, 80, api.SYN), tracked, borne(seg(1, 80, api.SYN), inner+10, 0))
	forward(t, p, seg(2, 80, api.ACK), tracked, borne(seg(2, 80, api.ACK), inner+10, 1))
	forward(t, p, seg(3, 80, api.SYN), tracked, borne(seg(3, 80, api.SYN), inner+10, 2))
	if n := ticks(p, 4); n != 0 || len(p.Entries()) != 3 {
		t.Error(n)
	}
	if n := p.Tick(); n != 2 {
		t.Error(n)
	}
	kept(t, p, api.Entry{Flow: from(2, 80), Backend: 11, Phase: 2, At: 30})
	if n := ticks(p, 24); n != 0 {
		t.Error(n)
	}
	if n := p.Tick(); n != 1 || len(p.Entries()) != 0 {
		t.Error(n)
	}
}

func TestGone(t *testing.T) {
	p := ready()
	forward(t, p, seg(1, 80, api.SYN), tracked, borne(seg(1, 80, api.SYN), inner+10, 0))
	forward(t, p, gram(2), tracked, borne(gram(2), inner+30, 1))
	called(t, p, 3)
	if n := p.Gone(12); n != 0 || len(p.Entries()) != 3 {
		t.Error(n)
	}
	if n := p.Gone(21); n != 1 || len(p.Entries()) != 2 {
		t.Error("proxied", n)
	}
	if n := p.Gone(11); n != 1 || len(p.Entries()) != 1 || p.Entries()[0].Backend != 31 {
		t.Error("not proxied", n)
	}
	// The port is free again.
	if e := called(t, p, 4); e.Port != 20000 {
		t.Error(e)
	}
}

func TestNil(t *testing.T) {
	var p *Plane
	p.Farm(usual())
	p.Secret(api.Key{Lo: 1})
	out, ok := p.Back(own(inner+20, inner, tcp.Plain(443, 20000, 1, 2, 18)))
	if p.Tick() != 0 || p.Gone(11) != 0 || len(p.Entries()) != 0 || p.Version() != 0 || p.Secrets() != (cookie.Secrets{}) || ok || !same(out, nil) || !same(p.Forward(bytesOf(seg(1, 80, 2))), nil) {
		t.Error("of nil there is something")
	}
}

// P39.2

func TestForwardOfNone(t *testing.T) {
	p := ready()
	changed := func(x api.Packet, change func(x *api.Packet)) api.Packet {
		change(&x)
		return x
	}
	for _, x := range []struct {
		name string
		x    api.Packet
		want int
	}{
		{"a fragment", changed(seg(1, 80, 2), func(x *api.Packet) { x.MF = true }), api.CntFragment},
		{"a last fragment", changed(seg(1, 80, 2), func(x *api.Packet) { x.Off = 1 }), api.CntFragment},
		{"a fragment of none", changed(seg(1, 80, 2), func(x *api.Packet) { x.MF, x.Proto = true, 4 }), api.CntFragment},
		{"another protocol", changed(seg(1, 80, 2), func(x *api.Packet) { x.Proto = 4 }), api.CntProto},
		{"another protocol, short", changed(seg(1, 80, 2), func(x *api.Packet) { x.Proto, x.Data = 4, nil }), api.CntProto},
		{"three bytes", changed(seg(1, 80, 2), func(x *api.Packet) { x.Data = x.Data[:3] }), api.CntHeader},
		{"nineteen bytes", changed(seg(1, 80, 2), func(x *api.Packet) { x.Data = x.Data[:19] }), api.CntHeader},
		{"a wrong sum", changed(seg(1, 80, 2), func(x *api.Packet) { x.Data[5]++ }), api.CntHeader},
		{"a wrong sum, no Vip", changed(seg(1, 81, 2), func(x *api.Packet) { x.Data[5]++ }), api.CntHeader},
		{"a datagram cut short", changed(gram(1), func(x *api.Packet) { x.Data = x.Data[:8] }), api.CntHeader},
		{"another port", seg(1, 81, 2), api.CntNoVip},
		{"another address", packed(client, host+1, api.Segment{Src: 1, Dst: 80, Flags: 2}), api.CntNoVip},
		{"another protocol's port", seg(1, 53, 2), api.CntNoVip},
	} {
		t.Run(x.name, func(t *testing.T) { forward(t, p, x.x, []int{x.want}) })
	}
	b := bytesOf(seg(1, 80, 2))
	b[10]++
	for _, b := range [][]byte{nil, b, b[:19], bytesOf(seg(1, 80, 2))[:39]} {
		if got := p.Forward(b); !same(got, []int{api.CntIP}) {
			t.Error(b, got)
		}
	}
	kept(t, p)
}

func TestForwardFirst(t *testing.T) {
	for _, x := range []struct {
		flags byte
		phase int
		wait  int
	}{{api.SYN, 1, 5}, {api.ACK, 2, 30}, {api.SYN | api.ACK, 2, 30}, {0, 2, 30}, {api.FIN, 3, 4}, {api.SYN | api.FIN, 3, 4}} {
		p := ready()
		ticks(p, 3)
		forward(t, p, seg(1, 80, x.flags), tracked, borne(seg(1, 80, x.flags), inner+10, 0))
		kept(t, p, api.Entry{Flow: from(1, 80), Backend: 11, Phase: x.phase, At: 3 + x.wait})
	}
	p := ready()
	forward(t, p, seg(1, 80, api.RST), steady, borne(seg(1, 80, api.RST), inner+10, 0))
	forward(t, p, seg(1, 80, api.RST|api.SYN), steady, borne(seg(1, 80, api.RST|api.SYN), inner+10, 1))
	kept(t, p)
	forward(t, p, gram(9), tracked, borne(gram(9), inner+30, 2))
	kept(t, p, api.Entry{Flow: from(9, 53), Backend: 31, Phase: 4, At: 10})
}

// TestForwardBytes has bytes behind the packet, and options: what is borne are its bytes as they came, and nothing more.
func TestForwardBytes(t *testing.T) {
	p := ready()
	x := seg(1, 80, api.SYN, 5, 6, 7)
	x.Options = []byte{7, 4, 4, 0}
	b := bytesOf(x)
	in := roomy.Bytes(append(slices.Clone(b), 0, 0, 9)...)
	got := p.Forward(in)
	if !same(got, tracked, borne(x, inner+10, 0)) || !roomy.Untouched(in, append(b, 0, 0, 9)...) || !roomy.Apart(got.Packets[0].Data, in) {
		t.Error(got)
	}
}

func TestForwardNobody(t *testing.T) {
	p := New(conf())
	f := usual()
	for i := range f.Backends {
		f.Backends[i].Life = api.Draining
	}
	p.Farm(f)
	for _, x := range []api.Packet{seg(1, 80, api.SYN), seg(1, 80, api.RST), gram(1)} {
		forward(t, p, x, []int{api.CntNoBackend})
	}
	// A cookie is offered all the same.
	if got := p.Forward(bytesOf(seg(1, 443, api.SYN))); !slices.Equal(got.Counts, []int{api.CntCookie}) {
		t.Error(got)
	}
	forward(t, p, taken(p, 1), []int{api.CntNoBackend})
	kept(t, p)
}

func TestForwardUntracked(t *testing.T) {
	p := ready()
	for i := range 4 {
		x := seg(uint16(i), 80, api.ACK)
		forward(t, p, x, tracked, borne(x, inner+10, uint16(i)))
	}
	forward(t, p, seg(5, 80, api.SYN), []int{api.CntForward, api.CntUntracked}, borne(seg(5, 80, api.SYN), inner+10, 4))
	forward(t, p, gram(5), []int{api.CntForward, api.CntUntracked}, borne(gram(5), inner+30, 5))
	forward(t, p, seg(6, 80, api.RST), steady, borne(seg(6, 80, api.RST), inner+10, 6))
	forward(t, p, taken(p, 5), []int{api.CntUntracked})
	forward(t, p, seg(2, 80, api.ACK), steady, borne(seg(2, 80, api.ACK), inner+10, 7))
	if len(p.Entries()) != 4 {
		t.Error(p.Entries())
	}
}

// TestForwardPicks has more backends than one: who is found is told by a board of its own.
func TestForwardPicks(t *testing.T) {
	c := conf()
	c.Flows = 256
	p, b, f := New(c), board.New(c.Hash, c.Prime), usual()
	for id := range 6 {
		f.Backends = append(f.Backends, api.Backend{Id: 100 + id, Vip: 1 + id%2, Addr: inner + 40 + uint32(id), Weight: 1 + id, Life: api.Serving, Up: true})
	}
	p.Farm(f)
	b.Refresh(f)
	for i := range 100 {
		x := seg(uint16(i), 80, api.SYN)
		id, _ := b.Pick(1, from(uint16(i), 80))
		forward(t, p, x, tracked, borne(x, p.addr(id), uint16(i)))
		e := called(t, p, uint16(i))
		if id, _ := b.Pick(2, from(uint16(i), 443)); e.Backend != id || e.Port != 20000+uint16(i) {
			t.Error(e, id)
		}
	}
}

func TestForwardSticks(t *testing.T) {
	p := ready()
	forward(t, p, seg(1, 80, api.SYN), tracked, borne(seg(1, 80, api.SYN), inner+10, 0))
	f := usual()
	f.Backends[0].Up, f.Backends[0].Life, f.Vips[0].Mode = false, api.Draining, api.Proxy
	f.Backends = append(f.Backends, api.Backend{Id: 12, Vip: 1, Addr: inner + 11, Weight: 8, Life: api.Serving, Up: true})
	p.Farm(f)
	now := 0
	for i, x := range []struct {
		flags byte
		phase int
		wait  int
	}{{api.SYN, 1, 5}, {0, 1, 5}, {api.ACK, 2, 30}, {api.SYN, 2, 30}, {api.FIN | api.ACK, 3, 4}, {api.ACK, 3, 4}, {api.SYN, 1, 5}, {api.SYN | api.ACK, 2, 30}} {
		now += ticks(p, 2) + 2
		forward(t, p, seg(1, 80, x.flags), steady, borne(seg(1, 80, x.flags), inner+10, uint16(i+1)))
		kept(t, p, api.Entry{Flow: from(1, 80), Backend: 11, Phase: x.phase, At: now + x.wait})
	}
	forward(t, p, seg(1, 80, api.RST), steady, borne(seg(1, 80, api.RST), inner+10, 9))
	kept(t, p)
}

// TestForwardLoose has a flow of UDP: its bytes are no flags.
func TestForwardLoose(t *testing.T) {
	p := ready()
	for i := range 3 {
		counts := tracked
		if i > 0 {
			counts = steady
		}
		forward(t, p, gram(1), counts, borne(gram(1), inner+30, uint16(i)))
		kept(t, p, api.Entry{Flow: from(1, 53), Backend: 31, Phase: 4, At: 9*i + 10})
		ticks(p, 9)
	}
}

// cookieOf answers the packet that offers a cookie to a client's port.
func cookieOf(p *Plane, port uint16, first api.Segment) api.Packet {
	return own(host, client, proxy.Offer(p.Secrets(), from(port, 443), first))
}

func TestForwardOffers(t *testing.T) {
	p := ready()
	p.Secret(api.Key{Lo: 9})
	for flags := range 64 {
		s := api.Segment{Src: 5, Dst: 443, Seq: 1000, Flags: byte(flags), Options: topt.PutMSS(1300)}
		x := packed(client, host, s)
		if flags&api.SYN != 0 && flags&(api.ACK|api.RST|api.FIN) == 0 {
			forward(t, p, x, []int{api.CntCookie}, cookieOf(p, 5, s))
		} else {
			forward(t, p, x, []int{api.CntBadCookie})
		}
	}
	kept(t, p)
}

// taken answers the packet by which a client answers the cookie that it would be offered.
func taken(p *Plane, port uint16, data ...byte) api.Packet {
	s := api.Segment{Src: port, Dst: 443, Seq: 1000, Flags: api.SYN, Options: topt.PutMSS(1400)}
	o := proxy.Offer(p.Secrets(), from(port, 443), s)
	return packed(client, host, api.Segment{Src: port, Dst: 443, Seq: 1001, Ack: o.Seq + 1, Flags: api.ACK | api.PSH, Data: data})
}

// called has a client be taken, and answers its entry.
func called(t *testing.T, p *Plane, port uint16) api.Entry {
	t.Helper()
	x := taken(p, port)
	out := p.Forward(bytesOf(x))
	if !slices.Equal(out.Counts, []int{api.CntTracked}) {
		t.Fatal(out)
	}
	for _, e := range p.Entries() {
		if e.Flow == from(port, 443) {
			return e
		}
	}
	t.Fatal("no entry")
	return api.Entry{}
}

func TestForwardTakes(t *testing.T) {
	p := ready()
	ticks(p, 2)
	x := taken(p, 5, 1, 2, 3)
	s, _ := tcp.Parse(client, host, x.Data)
	want := api.Entry{Flow: from(5, 443), Backend: 21, Phase: 1, At: 7, Proxied: true, Port: 20000, Shift: s.Ack - 1, First: 1000}
	call := api.Segment{Src: 20000, Dst: 443, Seq: 1000, Flags: api.SYN, Window: 65535, Options: topt.PutMSS(1400)}
	forward(t, p, x, []int{api.CntTracked}, own(inner, inner+20, call))
	kept(t, p, want)
	if got := called(t, p, 6); got.Port != 20001 {
		t.Error(got)
	}
	if got := called(t, p, 7); got.Port != 20002 {
		t.Error(got)
	}
}

func TestForwardRefusesCookies(t *testing.T) {
	p := ready()
	right, _ := tcp.Parse(client, host, taken(p, 5).Data)
	for _, change := range []func(s *api.Segment){
		func(s *api.Segment) { s.Ack++ }, func(s *api.Segment) { s.Seq++ }, func(s *api.Segment) { s.Flags = 0 },
		func(s *api.Segment) { s.Flags |= api.RST }, func(s *api.Segment) { s.Flags |= api.SYN }, func(s *api.Segment) { s.Src++ },
	} {
		s := right
		change(&s)
		forward(t, p, packed(client, host, s), []int{api.CntBadCookie})
	}
	kept(t, p)
	// One of the last two keys is right, one more isn't.
	p.Secret(api.Key{Lo: 7})
	forward(t, p, packed(client, host, right), []int{api.CntTracked}, own(inner, inner+20, api.Segment{Src: 20000, Dst: 443, Seq: 1000, Flags: api.SYN, Window: 65535, Options: topt.PutMSS(1400)}))
	p.Gone(21)
	p.Secret(api.Key{Lo: 8})
	forward(t, p, packed(client, host, right), []int{api.CntBadCookie})
}

func TestForwardPorts(t *testing.T) {
	c := conf()
	c.Flows = 8
	p := New(c)
	p.Farm(usual())
	for port := range uint16(4) {
		called(t, p, port)
	}
	// A flow that is reset frees its port, whoever has the others.
	forward(t, p, seg(1, 443, api.RST), []int{api.CntNotJoined})
	if e := called(t, p, 11); e.Port != 20001 {
		t.Error(e)
	}
	if e := called(t, p, 12); e.Port != 20004 {
		t.Error(e)
	}
	// One whose time is over does, too.
	ticks(p, 5)
	kept(t, p)
	if e := called(t, p, 13); e.Port != 20000 {
		t.Error(e)
	}
}

func TestForwardNotJoined(t *testing.T) {
	p := ready()
	e := called(t, p, 5)
	ticks(p, 1)
	for _, x := range []api.Packet{seg(5, 443, api.SYN), seg(5, 443, api.ACK, 1, 2), seg(5, 443, api.FIN), taken(p, 5)} {
		forward(t, p, x, []int{api.CntNotJoined})
		kept(t, p, e)
	}
	forward(t, p, seg(5, 443, api.RST|api.ACK), []int{api.CntNotJoined})
	kept(t, p)
}

// joined has a client be taken, and joined by a backend whose first number is 5000; it answers the entry.
func joined(t *testing.T, p *Plane, port uint16) api.Entry {
	t.Helper()
	e := called(t, p, port)
	out, ok := p.Back(own(inner+20, inner, tcp.Plain(443, e.Port, 5000, 1001, api.SYN|api.ACK)))
	if !ok || !slices.Equal(out.Counts, []int{api.CntJoined}) {
		t.Fatal(out, ok)
	}
	e.Joined, e.Phase, e.Shift = true, 2, 5000-e.Shift
	return e
}

func TestForwardJoined(t *testing.T) {
	p := ready()
	e := joined(t, p, 5)
	ticks(p, 3)
	s := api.Segment{Src: 5, Dst: 443, Seq: 1001, Ack: 88, Flags: api.ACK, Window: 9, Options: topt.PutMSS(9), Data: []byte("hello")}
	x := packed(client, host, s)
	x.Options = []byte{7, 4, 4, 0}
	turned := s
	turned.Src, turned.Ack = 20000, 88+e.Shift
	want := packed(inner, inner+20, turned)
	want.TTL = 64
	got := p.Forward(bytesOf(x))
	if !same(got, steady, want) {
		t.Error(got, want)
	}
	e.At = 33
	kept(t, p, e)
	forward(t, p, withFlags(x, s, api.FIN|api.ACK), steady, toBackend(want, turned, api.FIN|api.ACK))
	e.Phase, e.At = 3, 7
	kept(t, p, e)
	// Without ACK that number stays.
	turned.Ack = 88
	forward(t, p, withFlags(x, s, api.RST), steady, toBackend(want, turned, api.RST))
	kept(t, p)
	if e := called(t, p, 6); e.Port != 20000 {
		t.Error(e)
	}
}

// withFlags answers a client's packet with other flags.
func withFlags(x api.Packet, s api.Segment, flags byte) api.Packet {
	s.Flags = flags
	x.Data, _ = tcp.Put(client, host, s)
	return x
}

// toBackend is withFlags of what goes to the backend.
func toBackend(x api.Packet, s api.Segment, flags byte) api.Packet {
	s.Flags = flags
	x.Data, _ = tcp.Put(inner, inner+20, s)
	return x
}

// P39.3

func TestBearTooGreat(t *testing.T) {
	p := ready()
	x := seg(1, 80, api.SYN, make([]byte, 1440)...)
	forward(t, p, x, tracked, borne(x, inner+10, 0))
	x = seg(2, 80, api.SYN, make([]byte, 1441)...)
	b := bytesOf(x)
	m := icmp.Put(api.Icmp{Type: 3, Code: 4, Rest: 1480, Data: b[:28]})
	forward(t, p, x, []int{api.CntTooBig}, api.Packet{DF: true, TTL: 64, Proto: 1, Src: 0x0a000001, Dst: client, Data: m})
	x.DF = false
	forward(t, p, x, []int{api.CntTooBig})
	if len(p.Entries()) != 1 {
		t.Error(p.Entries())
	}
	// An entry stays as it was; the next ID is that of the next packet that is borne.
	ticks(p, 1)
	x = seg(1, 80, api.RST, make([]byte, 1441)...)
	x.DF = false
	forward(t, p, x, []int{api.CntTooBig})
	kept(t, p, api.Entry{Flow: from(1, 80), Backend: 11, Phase: 1, At: 5})
	forward(t, p, seg(1, 80, api.ACK), steady, borne(seg(1, 80, api.ACK), inner+10, 1))
}

func TestBearIDs(t *testing.T) {
	p := ready()
	b := bytesOf(seg(1, 80, api.ACK))
	for i := range 1<<16 + 2 {
		if got := p.Forward(b); got.Packets[0].ID != uint16(i) {
			t.Fatal(i, got)
		}
	}
}

// P39.4

// message answers the packet of a message to a Vip's address.
func message(m api.Icmp) api.Packet {
	return api.Packet{TTL: 9, Proto: 1, Src: 0x09090909, Dst: host, Data: icmp.Put(m)}
}

// about answers a message about a packet that went from a Vip to a client.
func about(x api.Packet) api.Packet {
	return message(icmp.Failed(3, 4, 1400, bytesOf(x)))
}

// sent answers a packet of the flow the other way round.
func sent(port, of uint16) api.Packet {
	return packed(host, client, api.Segment{Src: of, Dst: port, Flags: api.ACK})
}

func TestMessages(t *testing.T) {
	p := ready()
	forward(t, p, seg(1, 80, api.SYN), tracked, borne(seg(1, 80, api.SYN), inner+10, 0))
	called(t, p, 5)
	before := p.Entries()
	wrong := message(api.Icmp{Type: 8})
	wrong.Data[0]++
	part := about(sent(1, 80))
	part.Src, part.MF = 7, true
	for _, x := range []struct {
		name string
		x    api.Packet
		want int
	}{
		{"a wrong sum", wrong, api.CntHeader},
		{"seven bytes", api.Packet{Proto: 1, Src: client, Dst: host, Data: make([]byte, 7)}, api.CntHeader},
		{"a reply", message(api.Icmp{Type: 0}), api.CntProto},
		{"an echo of a code", message(api.Icmp{Type: 8, Code: 1}), api.CntProto},
		{"a redirection", message(icmp.Failed(5, 0, 0, bytesOf(sent(1, 80)))), api.CntProto},
		{"about nothing", message(api.Icmp{Type: 3}), api.CntHeader},
		{"about a message", about(message(api.Icmp{Type: 8})), api.CntHeader},
		{"about none", about(sent(2, 80)), api.CntLost},
		{"about the way there", about(seg(1, 80, api.SYN)), api.CntLost},
		{"about a proxied one", about(sent(5, 443)), api.CntLost},
	} {
		t.Run(x.name, func(t *testing.T) { forward(t, p, x.x, []int{x.want}) })
	}
	other := about(sent(1, 80))
	other.Dst++
	forward(t, p, other, []int{api.CntLost})
	for i, typ := range []byte{3, 11, 12} {
		x := message(icmp.Failed(typ, 0, 0, bytesOf(sent(1, 80))))
		forward(t, p, x, []int{api.CntSteered}, borne(x, inner+10, uint16(1+i)))
	}
	forward(t, p, part, []int{api.CntSteered}, borne(part, inner+10, 4))
	ticks(p, 1)
	kept(t, p, before...)
}

func TestMessageEcho(t *testing.T) {
	p := ready()
	x := message(icmp.Ask(1, 2, []byte("abc")))
	reply := api.Packet{DF: true, TTL: 64, Proto: 1, Src: host, Dst: 0x09090909, Data: icmp.Put(api.Icmp{Type: 0, Rest: 1<<16 | 2, Data: []byte("abc")})}
	forward(t, p, x, []int{api.CntEcho}, reply)
	kept(t, p)
}

func TestMessageTooGreat(t *testing.T) {
	p := ready()
	forward(t, p, seg(1, 80, api.SYN), tracked, borne(seg(1, 80, api.SYN), inner+10, 0))
	x := message(api.Icmp{Type: 3, Data: append(bytesOf(sent(1, 80)), make([]byte, 1440)...)})
	x.DF = true
	forward(t, p, x, []int{api.CntTooBig})
	kept(t, p, api.Entry{Flow: from(1, 80), Backend: 11, Phase: 1, At: 5})
}

// P39.5

func TestBackOfNone(t *testing.T) {
	p := ready()
	e := called(t, p, 5)
	s := tcp.Plain(443, 20000, 5000, 1001, api.SYN|api.ACK)
	right := own(inner+20, inner, s)
	changed := func(change func(x *api.Packet)) api.Packet {
		x := right
		x.Data = slices.Clone(x.Data)
		change(&x)
		return x
	}
	for i, x := range []api.Packet{
		changed(func(x *api.Packet) { x.MF = true }),
		changed(func(x *api.Packet) { x.Off = 3 }),
		changed(func(x *api.Packet) { x.Proto = 17 }),
		changed(func(x *api.Packet) { x.Data[4]++ }),
		changed(func(x *api.Packet) { x.Data = nil }),
		own(inner+20, inner+1, s),
		own(inner+20, 0x0a000001, s),
		own(inner+21, inner, s),
		own(inner+20, inner, tcp.Plain(80, 20000, 5000, 1001, api.SYN|api.ACK)),
		own(inner+20, inner, tcp.Plain(443, 20001, 5000, 1001, api.SYN|api.ACK)),
		{},
	} {
		if out, ok := p.Back(x); ok || !same(out, nil) {
			t.Error(i, out, ok)
		}
	}
	kept(t, p, e)
	p.Gone(21)
	if out, ok := p.Back(right); ok || !same(out, nil) {
		t.Error("the port isn't used any more", out)
	}
}

func TestBackJoins(t *testing.T) {
	p := ready()
	e := called(t, p, 5)
	ticks(p, 2)
	s := tcp.Plain(443, 20000, 5000, 1001, api.SYN|api.ACK)
	returned(t, p, own(inner+20, inner, s), []int{api.CntJoined}, own(inner, inner+20, tcp.Plain(20000, 443, 1001, 5001, api.ACK)))
	e.Joined, e.Phase, e.Shift, e.At = true, 2, 5000-e.Shift, 32
	kept(t, p, e)
}

func TestBackNotJoined(t *testing.T) {
	p := ready()
	e := called(t, p, 5)
	ticks(p, 1)
	for _, s := range []api.Segment{
		tcp.Plain(443, 20000, 5000, 1000, api.SYN|api.ACK), tcp.Plain(443, 20000, 5000, 1001, api.ACK), tcp.Plain(443, 20000, 5000, 1001, api.SYN),
		tcp.Plain(443, 20000, 0, 1000, api.RST|api.ACK), tcp.Plain(443, 20000, 0, 1002, api.RST), tcp.Plain(443, 20000, 0, 1000, api.RST|api.SYN|api.ACK),
	} {
		returned(t, p, own(inner+20, inner, s), []int{api.CntNotJoined})
		kept(t, p, e)
	}
}

func TestBackRefuses(t *testing.T) {
	for _, flags := range []byte{api.RST, api.RST | api.ACK, api.RST | api.SYN | api.ACK} {
		p := ready()
		e := called(t, p, 5)
		refused := tcp.Plain(443, 5, e.Shift+1, 1001, api.RST|api.ACK)
		returned(t, p, own(inner+20, inner, tcp.Plain(443, 20000, 5000, 1001, flags)), []int{api.CntNotJoined}, own(host, client, refused))
		kept(t, p)
		if e := called(t, p, 6); e.Port != 20000 {
			t.Error(e)
		}
	}
}

func TestBackJoined(t *testing.T) {
	p := ready()
	e := joined(t, p, 5)
	s := api.Segment{Src: 443, Dst: 20000, Seq: 5001, Ack: 1006, Flags: api.ACK, Window: 9, Options: topt.PutMSS(9), Data: []byte("world")}
	x := packed(inner+20, inner, s)
	x.Options = []byte{7, 4, 4, 0}
	before := bytesOf(x)
	ticks(p, 3)
	here := s
	here.Dst, here.Seq = 5, 5001-e.Shift
	want := packed(host, client, here)
	want.Src, want.Dst, want.TTL = host, client, 64
	here.Src = 443
	want.Data, _ = tcp.Put(host, client, here)
	returned(t, p, x, steady, want)
	if !slices.Equal(bytesOf(x), before) {
		t.Error("the packet is changed")
	}
	e.At = 33
	kept(t, p, e)
	// A second answer to the call is turned like all else.
	again, turned := s, here
	again.Flags, turned.Flags = api.SYN|api.ACK, api.SYN|api.ACK
	x.Data, _ = tcp.Put(inner+20, inner, again)
	want.Data, _ = tcp.Put(host, client, turned)
	returned(t, p, x, steady, want)
	for _, f := range []struct {
		flags byte
		phase int
		at    int
	}{{api.FIN | api.ACK, 3, 7}, {api.ACK, 3, 7}} {
		s.Flags, here.Flags = f.flags, f.flags
		x.Data, _ = tcp.Put(inner+20, inner, s)
		want.Data, _ = tcp.Put(host, client, here)
		returned(t, p, x, steady, want)
		e.Phase, e.At = f.phase, f.at
		kept(t, p, e)
	}
	s.Flags, here.Flags = api.RST, api.RST
	x.Data, _ = tcp.Put(inner+20, inner, s)
	want.Data, _ = tcp.Put(host, client, here)
	returned(t, p, x, steady, want)
	kept(t, p)
}

// TestSpliced has both sides talk, each from its own numbers: what comes there is what was said.
func TestSpliced(t *testing.T) {
	r := rand.New(rand.NewSource(39))
	for range 50 {
		p := ready()
		mine, theirs := r.Uint32(), r.Uint32()
		out := p.Forward(bytesOf(packed(client, host, api.Segment{Src: 5, Dst: 443, Seq: mine, Flags: api.SYN})))
		offer, _ := tcp.Parse(host, client, out.Packets[0].Data)
		out = p.Forward(bytesOf(packed(client, host, tcp.Plain(5, 443, mine+1, offer.Seq+1, api.ACK))))
		call, _ := tcp.Parse(inner, inner+20, out.Packets[0].Data)
		if call.Seq != mine {
			t.Fatal(call)
		}
		p.Back(own(inner+20, inner, tcp.Plain(443, call.Src, theirs, call.Seq+1, api.SYN|api.ACK)))
		said := api.Segment{Src: 5, Dst: 443, Seq: mine + 1, Ack: offer.Seq + 1, Flags: api.ACK, Data: []byte("ask")}
		out = p.Forward(bytesOf(packed(client, host, said)))
		came, e := tcp.Parse(inner, inner+20, out.Packets[0].Data)
		if e != api.OK || came.Seq != mine+1 || came.Ack != theirs+1 || string(came.Data) != "ask" {
			t.Fatal(came, e)
		}
		reply := api.Segment{Src: 443, Dst: call.Src, Seq: theirs + 1, Ack: tcp.Next(came), Flags: api.ACK, Data: []byte("told")}
		back, _ := p.Back(packed(inner+20, inner, reply))
		came, e = tcp.Parse(host, client, back.Packets[0].Data)
		if e != api.OK || came.Seq != offer.Seq+1 || came.Ack != tcp.Next(said) || string(came.Data) != "told" {
			t.Fatal(came, e)
		}
	}
}

// TestRuns does many things by chance: no two proxied entries have one port, each port that is used is an entry's, and no entry changes its backend.
func TestRuns(t *testing.T) {
	r := rand.New(rand.NewSource(40))
	for range 30 {
		p := ready()
		for range 400 {
			port := uint16(r.Intn(6))
			switch r.Intn(7) {
			case 0:
				p.Forward(bytesOf(taken(p, port)))
			case 1:
				p.Forward(bytesOf(seg(port, 80, byte(r.Intn(32)))))
			case 2:
				p.Forward(bytesOf(seg(port, 443, byte(r.Intn(32)))))
			case 3:
				p.Back(own(inner+20, inner, tcp.Plain(443, 20000+port, r.Uint32(), 1001, byte(r.Intn(32)))))
			case 4:
				p.Tick()
			case 5:
				p.Forward(bytesOf(gram(port)))
			case 6:
				if r.Intn(20) == 0 {
					p.Gone(21)
				}
			}
			ports := map[uint16]api.Flow{}
			for _, e := range p.Entries() {
				if e.Proxied {
					ports[e.Port] = e.Flow
				}
				if !e.Proxied && e.Joined || e.Backend != map[uint16]int{80: 11, 443: 21, 53: 31}[e.Flow.DstPort] {
					t.Fatal(e)
				}
			}
			if !reflect.DeepEqual(ports, p.ports) {
				t.Fatal(ports, p.ports)
			}
			if !slices.IsSortedFunc(p.Entries(), func(a, b api.Entry) int { return flow.Compare(a.Flow, b.Flow) }) {
				t.Fatal(p.Entries())
			}
		}
	}
}
