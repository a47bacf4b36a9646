package host

import (
	"math"
	"math/rand"
	"reflect"
	"slices"
	"testing"

	"linkboy/api"
	"linkboy/arp"
	"linkboy/command"
	"linkboy/cookie"
	"linkboy/count"
	"linkboy/ether"
	"linkboy/farm"
	"linkboy/flow"
	"linkboy/icmp"
	"linkboy/ipv4"
	"linkboy/nic"
	"linkboy/plane"
	"linkboy/pool"
	"linkboy/proxy"
	"linkboy/resolve"
	"linkboy/tag"
	"linkboy/tcp"
	"linkboy/udp"
)

const (
	near   = 0x0a000001 // card 0's
	inner  = 0x0a010001 // card 1's
	gate   = 0x0a0000fe
	client = 0x08080808
	vip    = 0x0a000064
	boss   = 0x0a000009
	behind = 0x0a010005
)

func conf() api.Config {
	return api.Config{
		Macs: [2]api.Mac{{2, 0, 0, 0, 0, 1}, {2, 0, 0, 0, 0, 2}}, Addrs: [2]uint32{near, inner}, Bits: [2]int{24, 24}, Gateway: gate, MTU: 1500,
		Hash: api.Key{Lo: 1, Hi: 2}, Control: api.Key{Lo: 3, Hi: 4}, Listen: 7000, Prime: 13, Flows: 8, Ring: 8, Bufs: 64, Cache: 8, Queue: 8,
		Age: 4095, Retry: 2, Tries: 3, Opening: 5, Open: 30, Closing: 4, Loose: 10, Interval: 3, Timeout: 2, Rise: 1, Fall: 1,
	}
}

// mac answers the Ethernet address of a neighbour.
func mac(a uint32) api.Mac {
	return api.Mac{2, 9, byte(a >> 24), byte(a >> 16), byte(a >> 8), byte(a)}
}

// world is a balancer, and what it had told as sent.
type world struct {
	t *testing.T
	h *Host
}

// made answers a balancer of a configuration.
func made(t *testing.T, c api.Config) world {
	t.Helper()
	h, e := New(c)
	if e != api.OK {
		t.Fatal(e)
	}
	return world{t, h}
}

// do does steps that may be.
func (w world) do(l ...api.Act) {
	w.t.Helper()
	for _, a := range l {
		if e := w.h.Do(a); e != api.OK {
			w.t.Fatal(a, e)
		}
	}
}

// give has a frame arrive, and be handled; rings are emptied, so that there is room. It answers what was sent.
func (w world) give(card int, f api.Frame) []api.Sent {
	w.t.Helper()
	w.do(api.Act{Kind: api.ActFrame, Nic: card, Frame: ether.Put(f)}, api.Act{Kind: api.ActPoll, Nic: card, N: 1})
	return w.flush()
}

// flush empties the rings that go out, and answers what was sent.
func (w world) flush() []api.Sent {
	w.do(api.Act{Kind: api.ActDone, N: 64}, api.Act{Kind: api.ActDone, Nic: 1, N: 64}, api.Act{Kind: api.ActPoll}, api.Act{Kind: api.ActPoll, Nic: 1})
	return w.h.Sent()
}

// ticks lets ticks go by, and answers what was sent.
func (w world) ticks(n int) []api.Sent {
	w.t.Helper()
	var l []api.Sent
	for range n {
		w.do(api.Act{Kind: api.ActTick, N: 1})
		l = append(l, w.flush()...)
	}
	return l
}

// packet gives a packet to a card.
func (w world) packet(card int, p api.Packet) []api.Sent {
	w.t.Helper()
	b, e := ipv4.Put(p)
	if e != api.OK {
		w.t.Fatal(p, e)
	}
	return w.give(card, api.Frame{Dst: conf().Macs[card], Src: mac(p.Src), Type: api.TypeIP, Data: b})
}

// meet has a neighbour of a card be known.
func (w world) meet(card int, a uint32) {
	w.t.Helper()
	w.give(card, arp.Frame(arp.Ask(mac(a), a, conf().Addrs[card]), ether.All()))
}

// diff holds the counts against earlier ones: they have one more at these places, but for what goes in and out.
func (w world) diff(before count.Counts, places ...int) {
	w.t.Helper()
	want := count.Counts{}
	for _, k := range places {
		want = count.Add(want, k)
	}
	got := count.Less(w.h.Counts(), before)
	got[api.CntIn], got[api.CntOut] = want[api.CntIn], want[api.CntOut]
	if got != want {
		w.t.Errorf("counted %q in place of %q", count.Lines(got), count.Lines(want))
	}
}

// sees gives a packet, and holds what is sent, and counted, against what is wanted.
func (w world) sees(card int, p api.Packet, want []api.Sent, places ...int) {
	w.t.Helper()
	before := w.h.Counts()
	got := w.packet(card, p)
	if len(got) != len(want) || len(got) > 0 && !reflect.DeepEqual(got, want) {
		w.t.Errorf("%v in place of %v", got, want)
	}
	w.diff(before, places...)
}

// out answers the frame of a packet out of a card, to a neighbour.
func out(card int, to uint32, p api.Packet) api.Sent {
	b, _ := ipv4.Put(p)
	return api.Sent{Nic: card, Frame: ether.Put(api.Frame{Dst: mac(to), Src: conf().Macs[card], Type: api.TypeIP, Data: b})}
}

// order answers the packet of an order.
func order(o api.Order) api.Packet {
	b, _ := tag.Put(conf().Control, o)
	return datagram(boss, near, 555, 7000, b)
}

// datagram answers the packet of a datagram.
func datagram(src, dst uint32, from, to uint16, data []byte) api.Packet {
	b, _ := udp.Put(src, dst, api.Datagram{Src: from, Dst: to, Data: data})
	return api.Packet{TTL: 9, Proto: 17, Src: src, Dst: dst, Data: b}
}

// told answers the frame by which an order is answered.
func told(n uint64, code byte, text []byte) api.Sent {
	p := datagram(near, boss, 7000, 555, tag.Answer(conf().Control, n, code, text))
	p.TTL, p.DF = 64, true
	return out(0, boss, p)
}

// segment answers the packet of a segment.
func segment(src, dst uint32, s api.Segment) api.Packet {
	b, _ := tcp.Put(src, dst, s)
	return api.Packet{TTL: 9, Proto: 6, Src: src, Dst: dst, Data: b}
}

// fixed answers a packet as who makes it says: DF, TTL 64.
func fixed(p api.Packet) api.Packet {
	p.DF, p.TTL = true, 64
	return p
}

// served answers a balancer whose neighbours are known, with a Vip of each kind, and a backend of each.
func served(t *testing.T) world {
	t.Helper()
	w := made(t, conf())
	w.meet(0, gate)
	w.meet(0, boss)
	for n := range uint32(3) {
		w.meet(1, behind+n)
	}
	for i, o := range []api.Order{
		{Op: api.OrderVip, Id: 1, Addr: vip, Port: 80, Proto: 6, Num: api.Direct},
		{Op: api.OrderVip, Id: 2, Addr: vip, Port: 443, Proto: 6, Num: api.Proxy},
		{Op: api.OrderVip, Id: 3, Addr: vip, Port: 53, Proto: 17, Num: api.Direct},
		{Op: api.OrderAdd, Id: 11, Vip: 1, Addr: behind, Num: 1},
		{Op: api.OrderAdd, Id: 21, Vip: 2, Addr: behind + 1, Num: 1},
		{Op: api.OrderAdd, Id: 31, Vip: 3, Addr: behind + 2, Num: 1},
	} {
		o.Count = uint64(i) + 1
		w.sees(0, order(o), []api.Sent{told(o.Count, 0, nil)}, api.CntOrder)
	}
	return w
}

// probe answers the packet by which a probe of a segment is answered.
func probe(a uint32, id int, num uint32, flags byte) api.Packet {
	return segment(a, inner, tcp.Plain(map[int]uint16{11: 80, 21: 443}[id], uint16(30000+id), 99, num+1, flags))
}

// ponged answers the packet by which a probe of an echo is answered.
func ponged(a uint32, id int, num uint16) api.Packet {
	return api.Packet{TTL: 9, Proto: 1, Src: a, Dst: inner, Data: icmp.Put(api.Icmp{Type: 0, Rest: uint32(id)<<16 | uint32(num)})}
}

// bye answers the frame that ends a probe.
func bye(a uint32, id int, num uint32) api.Sent {
	return out(1, a, fixed(segment(inner, a, tcp.Plain(uint16(30000+id), map[int]uint16{11: 80, 21: 443}[id], num+1, 0, api.RST))))
}

// up answers one whose backends are all up.
func up(t *testing.T) world {
	t.Helper()
	w := served(t)
	w.ticks(1)
	w.sees(1, probe(behind, 11, 1, 18), []api.Sent{bye(behind, 11, 1)}, api.CntProbeGood)
	w.sees(1, probe(behind+1, 21, 2, 18), []api.Sent{bye(behind+1, 21, 2)}, api.CntProbeGood)
	w.sees(1, ponged(behind+2, 31, 3), nil, api.CntProbeGood)
	for _, b := range w.h.Farm().Backends {
		if !b.Up {
			t.Fatal(b)
		}
	}
	return w
}

// P40.1

func TestNew(t *testing.T) {
	h, e := New(api.Config{})
	if h != nil || e != api.ErrArg {
		t.Error(h, e)
	}
	c := conf()
	c.Prime = 12
	if h, e := New(c); h != nil || e != api.ErrArg {
		t.Error(h, e)
	}
	w := made(t, conf())
	if w.h.Counts() != (count.Counts{}) || w.h.Last() != 0 || len(w.h.Sent()) != 0 || len(w.h.Entries()) != 0 || w.h.Known() != 0 {
		t.Error("something is there")
	}
	if f := w.h.Farm(); len(f.Vips) != 0 || len(f.Backends) != 0 {
		t.Error(f)
	}
	if got := w.h.Use(); got != [8]int{48, 8, 0, 0, 8, 0, 0, 0} {
		t.Error(got)
	}
}

// TestNewCards has too few buffers for both: the first card has them.
func TestNewCards(t *testing.T) {
	c := conf()
	c.Bufs = 11
	if got := made(t, c).h.Use(); got != [8]int{0, 8, 0, 0, 3, 0, 0, 0} {
		t.Error(got)
	}
}

// P40.2

func TestDoOfNone(t *testing.T) {
	w := made(t, conf())
	w.do(api.Act{Kind: api.ActFrame, Frame: []byte{1}})
	before, use := w.h.Counts(), w.h.Use()
	for _, a := range []api.Act{
		{}, {Kind: -1}, {Kind: 6},
		{Kind: api.ActFrame, Nic: 2}, {Kind: api.ActFrame, Nic: -1}, {Kind: api.ActPoll, Nic: 2}, {Kind: api.ActDone, Nic: -1},
		{Kind: api.ActPoll, N: -1}, {Kind: api.ActPoll, N: 65}, {Kind: api.ActDone, N: -1}, {Kind: api.ActDone, N: 65},
		{Kind: api.ActTick, N: -1}, {Kind: api.ActTick, N: 4096}, {Kind: api.ActTick, N: math.MaxInt}, {Kind: api.ActPoll, Nic: math.MaxInt, N: math.MinInt},
	} {
		if e := w.h.Do(a); e != api.ErrArg || w.h.Counts() != before || w.h.Use() != use {
			t.Error(a, e)
		}
	}
	w.do(api.Act{Kind: api.ActPoll, N: 64}, api.Act{Kind: api.ActDone, N: 64, Nic: 1}, api.Act{Kind: api.ActTick, N: 4095, Nic: 7}, api.Act{Kind: api.ActTick}, api.Act{Kind: api.ActFrame, N: 99}, api.Act{Kind: api.ActSecret, Nic: 9, N: -1})
}

func TestDoFrame(t *testing.T) {
	w := made(t, conf())
	for range 10 {
		w.do(api.Act{Kind: api.ActFrame, Frame: make([]byte, 1514)})
	}
	for range 3 {
		w.do(api.Act{Kind: api.ActFrame, Nic: 1, Frame: make([]byte, 1515)}, api.Act{Kind: api.ActFrame, Frame: make([]byte, 1515)})
	}
	w.do(api.Act{Kind: api.ActFrame, Nic: 1})
	want := count.Counts{}
	want[api.CntIn], want[api.CntRingFull], want[api.CntGiant] = 9, 2, 6
	if w.h.Counts() != want || w.h.Use() != [8]int{48, 0, 8, 0, 7, 1, 0, 0} {
		t.Error(count.Lines(w.h.Counts()), w.h.Use())
	}
}

func TestDoPoll(t *testing.T) {
	w := made(t, conf())
	for range 5 {
		w.do(api.Act{Kind: api.ActFrame, Frame: []byte{1}})
	}
	w.do(api.Act{Kind: api.ActPoll})
	w.do(api.Act{Kind: api.ActPoll, Nic: 1, N: 64})
	w.diff(count.Counts{})
	w.do(api.Act{Kind: api.ActPoll, N: 2})
	w.diff(count.Counts{}, api.CntEther, api.CntEther)
	if w.h.Use() != [8]int{48, 5, 3, 0, 8, 0, 0, 0} {
		t.Error(w.h.Use())
	}
	w.do(api.Act{Kind: api.ActPoll, N: 64})
	w.diff(count.Counts{}, api.CntEther, api.CntEther, api.CntEther, api.CntEther, api.CntEther)
	if w.h.Use() != [8]int{48, 8, 0, 0, 8, 0, 0, 0} {
		t.Error(w.h.Use())
	}
}

// ask answers the frame by which one asks for a card's address.
func ask(card int, a uint32) []byte {
	return ether.Put(arp.Frame(arp.Ask(mac(a), a, conf().Addrs[card]), ether.All()))
}

func TestDoDone(t *testing.T) {
	w := made(t, conf())
	for range 3 {
		w.do(api.Act{Kind: api.ActFrame, Nic: 1, Frame: ask(1, behind)}, api.Act{Kind: api.ActPoll, Nic: 1, N: 1})
	}
	if w.h.Use() != [8]int{45, 8, 0, 0, 8, 0, 3, 0} {
		t.Error(w.h.Use())
	}
	w.do(api.Act{Kind: api.ActDone, N: 2})
	if w.h.Use()[6] != 3 {
		t.Error("the other card's", w.h.Use())
	}
	w.do(api.Act{Kind: api.ActDone, Nic: 1, N: 2})
	if w.h.Use() != [8]int{45, 8, 0, 0, 8, 0, 1, 0} {
		t.Error(w.h.Use())
	}
	w.do(api.Act{Kind: api.ActPoll, Nic: 1, N: 1})
	if w.h.Use() != [8]int{47, 8, 0, 0, 8, 0, 1, 0} {
		t.Error(w.h.Use())
	}
}

func TestDoTicks(t *testing.T) {
	w := up(t)
	w.sees(0, segment(client, vip, tcp.Plain(1, 80, 1, 0, api.ACK)), []api.Sent{out(1, behind, borne(segment(client, vip, tcp.Plain(1, 80, 1, 0, api.ACK)), behind, 0))}, api.CntForward, api.CntTracked)
	before := w.h.Counts()[api.CntOver]
	w.do(api.Act{Kind: api.ActTick, N: 29})
	if len(w.h.Entries()) != 1 {
		t.Error(w.h.Entries())
	}
	w.do(api.Act{Kind: api.ActTick, N: 1})
	if len(w.h.Entries()) != 0 || w.h.Counts()[api.CntOver] != before+1 {
		t.Error(w.h.Entries())
	}
}

func TestDoSecret(t *testing.T) {
	w := up(t)
	key := api.Key{Lo: 77}
	w.do(api.Act{Kind: api.ActSecret, Key: key})
	f := api.Flow{Src: client, Dst: vip, SrcPort: 5, DstPort: 443, Proto: 6}
	s := api.Segment{Src: 5, Dst: 443, Seq: 100, Flags: api.SYN}
	offer := proxy.Offer(cookie.Secrets{Now: key, Last: conf().Hash, Epoch: 1}, f, s)
	w.sees(0, segment(client, vip, s), []api.Sent{out(0, gate, fixed(segment(vip, client, offer)))}, api.CntCookie)
}

// P40.3

func TestHandledOfNone(t *testing.T) {
	w := up(t)
	p := segment(client, vip, tcp.Plain(1, 80, 1, 0, api.ACK))
	b, _ := ipv4.Put(p)
	for _, x := range []struct {
		f    api.Frame
		want int
	}{
		{api.Frame{Dst: conf().Macs[0], Type: 1535}, api.CntEther},
		{api.Frame{Dst: conf().Macs[1], Type: api.TypeIP, Data: b}, api.CntNotMine},
		{api.Frame{Dst: ether.All(), Type: api.TypeIP, Data: b}, api.CntNotMine},
		{api.Frame{Dst: conf().Macs[0], Type: api.TypeARP, Data: b}, api.CntArp},
		{api.Frame{Dst: conf().Macs[0], Type: api.TypeIP, Data: b[:30]}, api.CntIP},
		{api.Frame{Dst: conf().Macs[0], Type: 0x86dd, Data: b}, api.CntProto},
	} {
		before := w.h.Counts()
		if got := w.give(0, x.f); len(got) != 0 {
			t.Error(got)
		}
		w.diff(before, x.want)
	}
	p.MF = true
	w.sees(0, p, nil, api.CntFragment)
	p.MF, p.TTL = false, 0
	w.sees(0, p, nil, api.CntExpired)
}

func TestHandledArp(t *testing.T) {
	w := made(t, conf())
	before := w.h.Counts()
	got := w.give(0, arp.Frame(arp.Ask(mac(gate), gate, near), ether.All()))
	want := ether.Put(arp.Frame(api.Arp{Op: 2, SrcMac: conf().Macs[0], SrcIP: near, DstMac: mac(gate), DstIP: gate}, mac(gate)))
	if len(got) != 1 || got[0].Nic != 0 || !slices.Equal(got[0].Frame, want) || w.h.Known() != 1 {
		t.Error(got)
	}
	w.diff(before)
	if c := w.h.Counts(); c[api.CntIn] != 1 || c[api.CntOut] != 1 {
		t.Error(count.Lines(c))
	}
}

// TestHandledWaits has packets wait for an address; its answer sends them, in order.
func TestHandledWaits(t *testing.T) {
	w := made(t, conf())
	ping := api.Packet{TTL: 9, Proto: 1, Src: behind, Dst: inner, Data: icmp.Put(icmp.Ask(1, 1, nil))}
	request := api.Sent{Nic: 1, Frame: ether.Put(arp.Frame(arp.Ask(conf().Macs[1], inner, behind), ether.All()))}
	w.sees(1, ping, []api.Sent{request}, api.CntEcho)
	ping.Data = icmp.Put(icmp.Ask(1, 2, nil))
	w.sees(1, ping, nil, api.CntEcho)
	if w.h.Use()[7] != 2 || w.h.Known() != 1 {
		t.Error(w.h.Use(), w.h.Known())
	}
	got := w.give(1, arp.Frame(api.Arp{Op: 2, SrcMac: mac(behind), SrcIP: behind, DstMac: conf().Macs[1], DstIP: inner}, conf().Macs[1]))
	if len(got) != 2 || !reflect.DeepEqual(got[1], pong(2)) || !reflect.DeepEqual(got[0], pong(1)) || w.h.Use()[7] != 0 {
		t.Error(got)
	}
}

// pong answers the frame by which an echo is answered.
func pong(n uint16) api.Sent {
	return out(1, behind, fixed(api.Packet{Proto: 1, Src: inner, Dst: behind, Data: icmp.Put(api.Icmp{Rest: 1<<16 | uint32(n)})}))
}

func TestHandledQueueFull(t *testing.T) {
	w := made(t, conf())
	for i := range 10 {
		ping := api.Packet{TTL: 9, Proto: 1, Src: behind, Dst: inner, Data: icmp.Put(icmp.Ask(1, 1, nil))}
		before := w.h.Counts()
		w.packet(1, ping)
		if i < 8 {
			w.diff(before, api.CntEcho)
		} else {
			w.diff(before, api.CntEcho, api.CntQueueFull)
		}
	}
}

// borne answers the packet that bears another one.
func borne(p api.Packet, to uint32, id uint16) api.Packet {
	b, _ := ipv4.Put(p)
	return api.Packet{TOS: p.TOS, ID: id, DF: p.DF, TTL: 64, Proto: 4, Src: inner, Dst: to, Data: b}
}

func TestHandledForward(t *testing.T) {
	w := up(t)
	s := segment(client, vip, tcp.Plain(1, 80, 1, 0, api.SYN))
	w.sees(0, s, []api.Sent{out(1, behind, borne(s, behind, 0))}, api.CntForward, api.CntTracked)
	w.sees(1, s, []api.Sent{out(1, behind, borne(s, behind, 1))}, api.CntForward)
	d := datagram(client, vip, 9, 53, []byte("q"))
	w.sees(0, d, []api.Sent{out(1, behind+2, borne(d, behind+2, 2))}, api.CntForward, api.CntTracked)
	w.sees(0, segment(client, vip, tcp.Plain(1, 81, 1, 0, api.SYN)), nil, api.CntNoVip)
	w.sees(0, segment(client, vip+1, tcp.Plain(1, 80, 1, 0, api.SYN)), nil, api.CntNoVip)
	w.sees(0, api.Packet{TTL: 1, Proto: 4, Src: client, Dst: vip}, nil, api.CntProto)
	w.sees(0, api.Packet{TTL: 1, Proto: 4, Src: client, Dst: vip + 1}, nil, api.CntNoVip)
	ping := api.Packet{TTL: 9, Proto: 1, Src: client, Dst: vip, Data: icmp.Put(icmp.Ask(1, 1, nil))}
	reply := fixed(api.Packet{Proto: 1, Src: vip, Dst: client, Data: icmp.Put(api.Icmp{Rest: 1<<16 | 1})})
	w.sees(0, ping, []api.Sent{out(0, gate, reply)}, api.CntEcho)
	want := []api.Entry{
		{Flow: api.Flow{Src: client, Dst: vip, SrcPort: 1, DstPort: 80, Proto: 6}, Backend: 11, Phase: 1, At: 6},
		{Flow: api.Flow{Src: client, Dst: vip, SrcPort: 9, DstPort: 53, Proto: 17}, Backend: 31, Phase: 4, At: 11},
	}
	if !slices.Equal(w.h.Entries(), want) {
		t.Error(w.h.Entries())
	}
}

// TestHandledBytes has a packet whose sum is written as 65535 in place of 0, and a frame that is filled up: what is borne stands as it came.
func TestHandledBytes(t *testing.T) {
	w := up(t)
	p := segment(client, vip, tcp.Plain(1, 80, 1, 0, api.SYN))
	var b []byte
	for id := range 1 << 16 {
		p.ID = uint16(id)
		b, _ = ipv4.Put(p)
		if b[10] == 0 && b[11] == 0 {
			break
		}
	}
	b[10], b[11] = 255, 255
	got := w.give(0, api.Frame{Dst: conf().Macs[0], Src: mac(gate), Type: api.TypeIP, Data: append(slices.Clone(b), 0, 0, 0, 0, 0, 0)})
	if len(got) != 1 {
		t.Fatal(got)
	}
	f, _ := ether.Parse(got[0].Frame)
	x, e := ipv4.Parse(f.Data)
	if e != api.OK || !slices.Equal(x.Data, b) {
		t.Error(x.Data, b)
	}
}

// TestHandledOwnVip has a Vip of an own address: its flows are forwarded, all else is local.
func TestHandledOwnVip(t *testing.T) {
	w := served(t)
	w.sees(0, order(api.Order{Count: 100, Op: api.OrderVip, Id: 4, Addr: near, Port: 8080, Proto: 6, Num: api.Direct}), []api.Sent{told(100, 0, nil)}, api.CntOrder)
	w.sees(0, segment(client, near, tcp.Plain(1, 8080, 1, 0, api.SYN)), nil, api.CntNoBackend)
	w.sees(0, segment(client, near, tcp.Plain(1, 8081, 1, 0, api.SYN)), nil, api.CntProto)
	w.sees(0, datagram(client, near, 1, 8080, nil), nil, api.CntProto)
	w.sees(0, order(api.Order{Count: 101, Op: api.OrderStats + 1}), []api.Sent{told(101, 3, nil)}, api.CntRefused)
	bad := segment(client, near, tcp.Plain(1, 8080, 1, 0, api.SYN))
	bad.Data[4]++
	w.sees(0, bad, nil, api.CntHeader)
	about := api.Packet{TTL: 9, Proto: 1, Src: client, Dst: near, Data: icmp.Put(api.Icmp{Type: 3})}
	w.sees(0, about, nil, api.CntProto)
}

func TestLaid(t *testing.T) {
	w := made(t, conf())
	for range 9 {
		w.do(api.Act{Kind: api.ActFrame, Frame: ask(0, gate)}, api.Act{Kind: api.ActPoll, N: 1})
	}
	if c := w.h.Counts(); c[api.CntOut] != 8 || c[api.CntTxFull] != 1 || c[api.CntNoBuffer] != 0 || len(w.h.Sent()) != 8 {
		t.Error(count.Lines(c))
	}
	c := conf()
	c.Bufs, c.Ring = 18, 8
	w = made(t, c)
	for range 5 {
		w.do(api.Act{Kind: api.ActFrame, Nic: 1, Frame: ask(1, behind)}, api.Act{Kind: api.ActPoll, Nic: 1, N: 1})
	}
	if c := w.h.Counts(); c[api.CntOut] != 2 || c[api.CntTxFull] != 0 || c[api.CntNoBuffer] != 3 || len(w.h.Sent()) != 2 {
		t.Error(count.Lines(c))
	}
}

func TestSentTooBig(t *testing.T) {
	c := conf()
	c.MTU = 576
	w := made(t, c)
	w.meet(0, boss)
	ping := api.Packet{TTL: 9, Proto: 1, Src: boss, Dst: near, Data: icmp.Put(icmp.Ask(1, 1, make([]byte, 549)))}
	w.sees(0, ping, nil, api.CntEcho, api.CntTooBig)
	ping.Src = near + 300
	ping.Data = icmp.Put(icmp.Ask(1, 1, nil))
	w.sees(0, ping, []api.Sent{{Frame: ether.Put(arp.Frame(arp.Ask(c.Macs[0], near, gate), ether.All()))}}, api.CntEcho)
	ping.Src = 0x0a0000ff
	w.sees(0, ping, nil, api.CntEcho, api.CntLost)
}

// P40.4

func TestLocal(t *testing.T) {
	w := served(t)
	short := api.Packet{TTL: 9, Src: client, Dst: inner}
	for _, proto := range []byte{1, 6, 17} {
		short.Proto = proto
		w.sees(0, short, nil, api.CntHeader)
	}
	for _, proto := range []byte{0, 2, 4, 41, 255} {
		short.Proto = proto
		w.sees(0, short, nil, api.CntProto)
	}
	ping := api.Packet{TTL: 9, Proto: 1, Src: boss, Dst: inner, Data: icmp.Put(icmp.Ask(1, 1, []byte("x")))}
	reply := fixed(api.Packet{Proto: 1, Src: inner, Dst: boss, Data: icmp.Put(api.Icmp{Rest: 1<<16 | 1, Data: []byte("x")})})
	w.sees(0, ping, []api.Sent{out(0, boss, reply)}, api.CntEcho)
	ping.Data = icmp.Put(api.Icmp{Type: 8, Code: 1})
	w.sees(0, ping, nil, api.CntProto)
	w.sees(0, datagram(boss, near, 555, 7001, nil), nil, api.CntProto)
	w.sees(0, datagram(boss, inner, 555, 7000, nil), nil, api.CntProto)
	w.sees(0, segment(behind, inner, tcp.Plain(80, 30011, 1, 2, api.SYN)), nil, api.CntProto)
}

func TestProbes(t *testing.T) {
	w := served(t)
	w.sees(1, probe(behind, 11, 1, 18), nil, api.CntLost)
	before := w.h.Counts()
	want := []api.Sent{
		out(1, behind, fixed(segment(inner, behind, tcp.Plain(30011, 80, 1, 0, api.SYN)))),
		out(1, behind+1, fixed(segment(inner, behind+1, tcp.Plain(30021, 443, 2, 0, api.SYN)))),
		out(1, behind+2, fixed(api.Packet{Proto: 1, Src: inner, Dst: behind + 2, Data: icmp.Put(icmp.Ask(31, 3, nil))})),
	}
	if got := w.ticks(1); !reflect.DeepEqual(got, want) {
		t.Error(got)
	}
	w.diff(before, api.CntProbe, api.CntProbe, api.CntProbe)
	w.sees(1, probe(behind, 11, 2, 18), nil, api.CntLost)
	w.sees(1, probe(behind+9, 11, 1, 18), nil, api.CntProto)
	w.sees(1, probe(behind, 11, 1, api.ACK), nil, api.CntProbeBad)
	w.sees(1, probe(behind, 11, 1, 18), nil, api.CntLost)
	w.sees(1, probe(behind+1, 21, 2, 18), []api.Sent{bye(behind+1, 21, 2)}, api.CntProbeGood)
	w.sees(1, ponged(behind+2, 31, 3), nil, api.CntProbeGood)
	w.ups(false, true, true)
	// Who is up is found, who is down isn't.
	w.sees(0, segment(client, vip, tcp.Plain(1, 80, 1, 0, api.SYN)), nil, api.CntNoBackend)
	if got := w.packet(0, datagram(client, vip, 9, 53, nil)); len(got) != 1 {
		t.Error(got)
	}
	w.ticks(3)
	w.sees(1, probe(behind, 11, 4, 18), []api.Sent{bye(behind, 11, 4)}, api.CntProbeGood)
	w.sees(1, probe(behind+1, 21, 5, api.RST|api.ACK), nil, api.CntProbeBad)
	w.ups(true, false, true)
	w.sees(0, segment(client, vip, tcp.Plain(1, 443, 1, 1, api.ACK)), nil, api.CntBadCookie)
	if got := w.packet(0, segment(client, vip, tcp.Plain(1, 80, 1, 0, api.SYN))); len(got) != 1 {
		t.Error(got)
	}
}

// ups holds who is up against what is wanted.
func (w world) ups(want ...bool) {
	w.t.Helper()
	var got []bool
	for _, b := range w.h.Farm().Backends {
		got = append(got, b.Up)
	}
	if !slices.Equal(got, want) {
		w.t.Error(got)
	}
}

// TestLocalBack goes through a proxied connection.
func TestLocalBack(t *testing.T) {
	w := up(t)
	f := api.Flow{Src: client, Dst: vip, SrcPort: 5, DstPort: 443, Proto: 6}
	first := api.Segment{Src: 5, Dst: 443, Seq: 100, Flags: api.SYN}
	offer := proxy.Offer(cookie.Secrets{Now: conf().Hash, Last: conf().Hash}, f, first)
	w.sees(0, segment(client, vip, first), []api.Sent{out(0, gate, fixed(segment(vip, client, offer)))}, api.CntCookie)
	answer := tcp.Plain(5, 443, 101, offer.Seq+1, api.ACK)
	call := proxy.Call(proxy.Open(f, 21, 20000, answer), 443, 1)
	w.sees(0, segment(client, vip, answer), []api.Sent{out(1, behind+1, fixed(segment(inner, behind+1, call)))}, api.CntTracked)
	w.sees(1, segment(behind+1, inner, tcp.Plain(443, 20001, 7, 101, 18)), nil, api.CntProto)
	greet := tcp.Plain(20000, 443, 101, 8, api.ACK)
	w.sees(1, segment(behind+1, inner, tcp.Plain(443, 20000, 7, 101, 18)), []api.Sent{out(1, behind+1, fixed(segment(inner, behind+1, greet)))}, api.CntJoined)
	reply := api.Segment{Src: 443, Dst: 20000, Seq: 8, Ack: 101, Flags: api.ACK, Data: []byte("hi")}
	here := reply
	here.Dst, here.Seq = 5, offer.Seq+1
	want := segment(vip, client, here)
	want.TTL = 64
	w.sees(1, segment(behind+1, inner, reply), []api.Sent{out(0, gate, want)}, api.CntForward)
}

// P40.5

func TestOrders(t *testing.T) {
	w := served(t)
	if w.h.Last() != 6 {
		t.Error(w.h.Last())
	}
	before := w.h.Farm()
	forged, _ := tag.Put(api.Key{Lo: 1}, api.Order{Count: 9, Op: api.OrderStats})
	w.sees(0, datagram(boss, near, 555, 7000, forged), nil, api.CntForged)
	w.sees(0, datagram(boss, near, 555, 7000, nil), nil, api.CntForged)
	w.sees(0, order(api.Order{Count: 6, Op: api.OrderStats}), []api.Sent{told(6, 13, nil)}, api.CntReplayed)
	w.sees(0, order(api.Order{Count: 0, Op: 99}), []api.Sent{told(0, 13, nil)}, api.CntReplayed)
	w.sees(0, order(api.Order{Count: 7, Op: 99}), []api.Sent{told(7, 3, nil)}, api.CntRefused)
	w.sees(0, order(api.Order{Count: 8, Op: api.OrderRemove, Id: 12}), []api.Sent{told(8, 8, nil)}, api.CntRefused)
	if w.h.Last() != 6 || !reflect.DeepEqual(w.h.Farm(), before) {
		t.Error(w.h.Last(), w.h.Farm())
	}
	w.sees(0, order(api.Order{Count: 7, Op: api.OrderDrain, Id: 11}), []api.Sent{told(7, 0, nil)}, api.CntOrder)
	w.sees(0, order(api.Order{Count: 20, Op: api.OrderWeight, Id: 21, Num: 5}), []api.Sent{told(20, 0, nil)}, api.CntOrder)
	w.sees(0, order(api.Order{Count: 21, Op: api.OrderMode, Id: 1, Num: 2}), []api.Sent{told(21, 0, nil)}, api.CntOrder)
	before.Backends[0].Life, before.Backends[1].Weight, before.Vips[0].Mode = api.Draining, 5, api.Proxy
	if w.h.Last() != 21 || !reflect.DeepEqual(w.h.Farm(), before) {
		t.Error(w.h.Last(), w.h.Farm())
	}
}

// TestOrderStats has the counts told as they are when the order is done.
func TestOrderStats(t *testing.T) {
	w := served(t)
	want := count.Add(count.Add(w.h.Counts(), api.CntIn), api.CntOrder)
	w.sees(0, order(api.Order{Count: 50, Op: api.OrderStats}), []api.Sent{told(50, 0, count.Bytes(want))}, api.CntOrder)
	w.sees(0, order(api.Order{Count: 50, Op: api.OrderStats}), []api.Sent{told(50, 13, nil)}, api.CntReplayed)
}

// TestOrderRemoves has a backend go: its flows are gone, it isn't probed or found any more.
func TestOrderRemoves(t *testing.T) {
	w := up(t)
	s := segment(client, vip, tcp.Plain(1, 80, 1, 0, api.SYN))
	w.sees(0, s, []api.Sent{out(1, behind, borne(s, behind, 0))}, api.CntForward, api.CntTracked)
	if got := w.packet(0, datagram(client, vip, 9, 53, nil)); len(got) != 1 || len(w.h.Entries()) != 2 {
		t.Error(got)
	}
	w.sees(0, order(api.Order{Count: 50, Op: api.OrderRemove, Id: 11}), []api.Sent{told(50, 0, nil)}, api.CntOrder)
	if l := w.h.Entries(); len(l) != 1 || l[0].Backend != 31 {
		t.Error(l)
	}
	w.sees(0, s, nil, api.CntNoBackend)
	if got := w.ticks(3); len(got) != 2 {
		t.Error(got)
	}
	// One that comes again is down, and probed at once.
	w.sees(0, order(api.Order{Count: 51, Op: api.OrderAdd, Id: 11, Vip: 1, Addr: behind, Num: 1}), []api.Sent{told(51, 0, nil)}, api.CntOrder)
	w.ups(false, true, true)
	if got := w.ticks(1); len(got) != 1 {
		t.Error(got)
	}
}

// TestOrderDrains has flows stay with one that is drained.
func TestOrderDrains(t *testing.T) {
	w := up(t)
	s := segment(client, vip, tcp.Plain(1, 80, 1, 0, api.SYN))
	w.packet(0, s)
	w.sees(0, order(api.Order{Count: 50, Op: api.OrderDrain, Id: 11}), []api.Sent{told(50, 0, nil)}, api.CntOrder)
	w.sees(0, s, []api.Sent{out(1, behind, borne(s, behind, 1))}, api.CntForward)
	w.sees(0, segment(client, vip, tcp.Plain(2, 80, 1, 0, api.SYN)), nil, api.CntNoBackend)
}

// P40.6

func TestTickProbes(t *testing.T) {
	w := up(t)
	before := w.h.Counts()
	w.ticks(2)
	w.diff(before)
	w.ticks(1)
	w.diff(before, api.CntProbe, api.CntProbe, api.CntProbe)
	w.sees(1, ponged(behind+2, 31, 6), nil, api.CntProbeGood)
	before = w.h.Counts()
	w.ticks(1)
	w.ups(true, true, true)
	w.ticks(1)
	w.diff(before, api.CntProbeBad, api.CntProbeBad)
	w.ups(false, false, true)
	w.sees(0, segment(client, vip, tcp.Plain(2, 80, 1, 0, api.SYN)), nil, api.CntNoBackend)
}

// TestTickOneBad has one backend not answer.
func TestTickOneBad(t *testing.T) {
	w := up(t)
	w.ticks(3)
	w.sees(1, probe(behind, 11, 4, 18), []api.Sent{bye(behind, 11, 4)}, api.CntProbeGood)
	w.sees(1, ponged(behind+2, 31, 6), nil, api.CntProbeGood)
	before := w.h.Counts()
	w.ticks(2)
	w.diff(before, api.CntProbeBad)
	w.ups(true, false, true)
}

func TestTickAsks(t *testing.T) {
	w := made(t, conf())
	for range 2 {
		w.packet(1, api.Packet{TTL: 9, Proto: 1, Src: behind, Dst: inner, Data: icmp.Put(icmp.Ask(1, 1, nil))})
	}
	before := w.h.Counts()
	request := api.Sent{Nic: 1, Frame: ether.Put(arp.Frame(arp.Ask(conf().Macs[1], inner, behind), ether.All()))}
	if got := w.ticks(4); !reflect.DeepEqual(got, []api.Sent{request, request}) {
		t.Error(got)
	}
	w.diff(before)
	if got := w.ticks(2); len(got) != 0 || w.h.Known() != 0 || w.h.Use()[7] != 0 {
		t.Error(got)
	}
	w.diff(before, api.CntNoAnswer, api.CntNoAnswer)
}

// TestTickOrder has a place asked for, a flow be over, and a probe begin in one tick: what is sent is told in that order.
func TestTickOrder(t *testing.T) {
	w := up(t)
	w.packet(0, segment(client, vip, tcp.Plain(2, 80, 1, 0, api.SYN)))
	w.ticks(1)
	w.packet(1, api.Packet{TTL: 9, Proto: 1, Src: behind + 100, Dst: inner, Data: icmp.Put(icmp.Ask(1, 1, nil))})
	w.ticks(1)
	before := w.h.Counts()
	got := w.ticks(1)
	if len(got) != 4 || !slices.Equal(got[0].Frame[12:14], []byte{8, 6}) {
		t.Error(got)
	}
	w.diff(before, api.CntProbe, api.CntProbe, api.CntProbe)
	before = w.h.Counts()
	w.ticks(2)
	w.diff(before, api.CntOver, api.CntProbeBad, api.CntProbeBad, api.CntProbeBad)
}

// P40.7

func TestSent(t *testing.T) {
	w := made(t, conf())
	for _, a := range []uint32{gate, boss} {
		w.do(api.Act{Kind: api.ActFrame, Frame: ask(0, a)}, api.Act{Kind: api.ActPoll, N: 1})
	}
	got := w.h.Sent()
	if len(got) != 2 || len(w.h.Sent()) != 0 {
		t.Fatal(got)
	}
	got[0].Frame[0]++
	w.do(api.Act{Kind: api.ActFrame, Frame: ask(0, gate)}, api.Act{Kind: api.ActPoll, N: 1})
	if l := w.h.Sent(); len(l) != 1 || l[0].Frame[0] != mac(gate)[0] {
		t.Error(l)
	}
}

func TestFarmIsApart(t *testing.T) {
	w := served(t)
	f := w.h.Farm()
	f.Vips[0].Port, f.Backends[0].Addr = 1, 1
	if g := w.h.Farm(); g.Vips[0].Port != 80 || g.Backends[0].Addr != behind {
		t.Error(g)
	}
}

func TestNil(t *testing.T) {
	var h *Host
	for _, a := range []api.Act{{}, {Kind: api.ActTick, N: 1}, {Kind: api.ActFrame, Nic: 7}} {
		if e := h.Do(a); e != api.ErrNil {
			t.Error(e)
		}
	}
	f := h.Farm()
	if len(h.Sent()) != 0 || h.Counts() != (count.Counts{}) || len(f.Vips)+len(f.Backends) != 0 || h.Last() != 0 || len(h.Entries()) != 0 || h.Use() != [8]int{} || h.Known() != 0 {
		t.Error("of nil there is something")
	}
}

// P40.8

// plain is what two cards hold, as it is told by what is done to them.
type plain struct {
	ready [2]int
	out   [2]int
}

// TestRuns does many steps by chance, on few buffers: what rings hold is what was told as sent, and what came; each frame that is sent is a right one; nothing but orders changes what is served.
func TestRuns(t *testing.T) {
	for seed := range int64(20) {
		r := rand.New(rand.NewSource(seed))
		c := conf()
		c.Bufs, c.Ring, c.Queue, c.Cache = 6+r.Intn(12), 1+r.Intn(6), r.Intn(5), r.Intn(6)
		w, p := made(t, c), plain{}
		orders := uint64(0)
		for range 600 {
			before, use, last, served := w.h.Counts(), w.h.Use(), w.h.Last(), w.h.Farm()
			p.step(r, w, c, &orders)
			d := count.Less(w.h.Counts(), before)
			l := w.h.Sent()
			if d[api.CntOut] != uint32(len(l)) {
				t.Fatal(len(l), count.Lines(d))
			}
			for _, s := range l {
				p.out[s.Nic]++
				rightFrame(t, c, s)
			}
			got := w.h.Use()
			if got[2] != p.ready[0] || got[3] != p.out[0] || got[5] != p.ready[1] || got[6] != p.out[1] {
				t.Fatal(got, p)
			}
			if got[1]+got[2] > c.Ring || got[4]+got[5] > c.Ring || got[0]+got[1]+got[2]+got[3]+got[4]+got[5]+got[6] > c.Bufs {
				t.Fatal(got, use)
			}
			if got[7] > c.Queue || w.h.Known() > c.Cache || len(w.h.Entries()) > c.Flows || !farm.Right(w.h.Farm()) {
				t.Fatal(got)
			}
			if (w.h.Last() > last) != (d[api.CntOrder] > 0) || d[api.CntOrder] == 0 && !alike(w.h.Farm(), served) {
				t.Fatal(w.h.Last(), last)
			}
		}
		w.ticks(4095)
		if len(w.h.Entries()) != 0 {
			t.Error(w.h.Entries())
		}
	}
}

// alike tells whether farms are the same, but for who is up.
func alike(a, b api.Farm) bool {
	return slices.Equal(a.Vips, b.Vips) && slices.EqualFunc(a.Backends, b.Backends, func(x, y api.Backend) bool {
		x.Up = y.Up
		return x == y
	})
}

// step does a step by chance.
func (p *plain) step(r *rand.Rand, w world, c api.Config, orders *uint64) {
	k := r.Intn(2)
	switch r.Intn(6) {
	case 0, 1:
		b := chance(r, k, orders)
		want := api.CntIn
		if len(b) > api.MaxFrame {
			want = api.CntGiant
		} else if w.h.Use()[1+3*k] == 0 {
			want = api.CntRingFull
		} else {
			p.ready[k]++
		}
		before := w.h.Counts()
		w.do(api.Act{Kind: api.ActFrame, Nic: k, Frame: b})
		if count.Less(w.h.Counts(), before) != count.Add(count.Counts{}, want) {
			w.t.Fatal(count.Lines(w.h.Counts()))
		}
	case 2, 3:
		n := r.Intn(3)
		w.do(api.Act{Kind: api.ActPoll, Nic: k, N: n})
		p.ready[k] = max(p.ready[k]-n, 0)
	case 4:
		n := r.Intn(4)
		w.do(api.Act{Kind: api.ActDone, Nic: k, N: n})
		p.out[k] = max(p.out[k]-n, 0)
	case 5:
		w.do(api.Act{Kind: api.ActTick, N: r.Intn(3)})
	}
}

// rightFrame holds a frame that was sent against what all such frames are.
func rightFrame(t *testing.T, c api.Config, s api.Sent) {
	t.Helper()
	f, e := ether.Parse(s.Frame)
	if e != api.OK || f.Src != c.Macs[s.Nic] || len(s.Frame) > api.MaxFrame || !ether.Unicast(f.Dst) && f.Dst != ether.All() {
		t.Fatal(s)
	}
	if f.Type == api.TypeARP {
		if _, e := arp.Parse(f.Data); e != api.OK {
			t.Fatal(s)
		}
		return
	}
	if p, e := ipv4.Parse(f.Data); e != api.OK || ipv4.Size(p)+len(p.Data) > c.MTU || len(f.Data) != ipv4.Size(p)+len(p.Data) {
		t.Fatal(s)
	}
}

// chance answers a frame by chance.
func chance(r *rand.Rand, k int, orders *uint64) []byte {
	var p api.Packet
	switch r.Intn(9) {
	case 0:
		return make([]byte, r.Intn(1600))
	case 1:
		return ask(k, []uint32{gate, boss, behind, behind + 1}[r.Intn(4)])
	case 2:
		return ether.Put(arp.Frame(api.Arp{Op: 2, SrcMac: mac(gate), SrcIP: []uint32{gate, behind}[k], DstMac: conf().Macs[k], DstIP: conf().Addrs[k]}, conf().Macs[k]))
	case 3, 4:
		*orders++
		p = order(api.Order{Count: *orders, Op: 1 + r.Intn(8), Id: 1 + r.Intn(3), Vip: 1 + r.Intn(3), Addr: []uint32{vip, behind}[r.Intn(2)], Port: 80, Proto: 6, Num: 1 + r.Intn(2)})
	case 5:
		p = segment(client, vip, tcp.Plain(uint16(r.Intn(20)), 80, 1, r.Uint32(), byte(r.Intn(64))))
	case 6:
		p = segment(behind, inner, tcp.Plain(80, uint16(30001+r.Intn(3)), 1, uint32(r.Intn(20)), 18))
	case 7:
		p = api.Packet{TTL: 9, Proto: 1, Src: client, Dst: []uint32{vip, near, inner}[r.Intn(3)], Data: icmp.Put(icmp.Ask(1, 1, make([]byte, r.Intn(1400))))}
	case 8:
		p = datagram(client, near, 1, 7000, nil)
	}
	b, _ := ipv4.Put(p)
	return ether.Put(api.Frame{Dst: conf().Macs[k], Src: mac(gate), Type: api.TypeIP, Data: b})
}

// TestSameAgain has the same steps come to the same.
func TestSameAgain(t *testing.T) {
	run := func() ([]api.Sent, count.Counts) {
		w := up(t)
		r := rand.New(rand.NewSource(8))
		n := uint64(50)
		var l []api.Sent
		for range 300 {
			w.do(api.Act{Kind: api.ActFrame, Frame: chance(r, 0, &n)}, api.Act{Kind: api.ActPoll, N: 1}, api.Act{Kind: api.ActTick, N: r.Intn(2)})
			l = append(l, w.flush()...)
		}
		return l, w.h.Counts()
	}
	l, c := run()
	m, d := run()
	if !reflect.DeepEqual(l, m) || c != d || len(l) < 100 {
		t.Error(len(l), len(m), c, d)
	}
}

// TestOfLayers holds a balancer against the layers below it, called as the chapter says, for one whose rings have room.
func TestOfLayers(t *testing.T) {
	c := conf()
	w := made(t, c)
	net, pl, state := resolve.New(c, 0), plane.New(c), command.State{}
	cards := nic.New(c.Ring, pool.New(c.Bufs))
	r := rand.New(rand.NewSource(41))
	n := uint64(0)
	for range 500 {
		b := chance(r, 0, &n)
		if len(b) > 1514 || cards.Arrive(b) != api.OK {
			continue
		}
		cards.Poll()
		f, e := ether.Parse(b)
		if e != api.OK || f.Type != api.TypeIP {
			continue
		}
		p, _ := ipv4.Parse(f.Data)
		var want []api.Sent
		d, e := udp.Parse(p.Src, p.Dst, p.Data)
		o, oe := tag.Parse(c.Control, d.Data)
		fl, _ := flow.Of(p)
		switch {
		case p.Dst == vip && !farm.Serves(state.Farm, vip):
		case p.Dst == vip:
			for _, x := range pl.Forward(f.Data).Packets {
				l, _ := net.Send(x)
				want = append(want, l...)
			}
		case p.Proto == 17 && e == api.OK && oe == api.OK && fl.DstPort == c.Listen && o.Op != api.OrderStats:
			next, e := command.Do(state, o)
			if id, ok := command.Gone(state, o); ok {
				pl.Gone(id)
			}
			state = next
			pl.Farm(state.Farm)
			x := fixed(datagram(near, boss, 7000, 555, tag.Answer(c.Control, o.Count, command.Code(e), nil)))
			want, _ = net.Send(x)
		default:
			continue
		}
		got := w.give(0, f)
		if len(got) != len(want) || len(got) > 0 && !reflect.DeepEqual(got, want) {
			t.Fatal(got, want)
		}
		if !alike(w.h.Farm(), state.Farm) || w.h.Last() != state.Last {
			t.Fatal(w.h.Farm(), state)
		}
	}
	if len(state.Farm.Backends) == 0 {
		t.Error("no order was done")
	}
}
