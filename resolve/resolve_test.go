package resolve

import (
	"bytes"
	"math/rand"
	"reflect"
	"testing"

	"linkboy/addr"
	"linkboy/api"
	"linkboy/arp"
	"linkboy/cache"
	"linkboy/ether"
	"linkboy/ipv4"
	"linkboy/roomy"
	"linkboy/route"
)

// a answers the address of a text.
func a(s string) uint32 {
	n, _ := addr.Parse(s)
	return n
}

func conf() api.Config {
	return api.Config{
		Macs: [2]api.Mac{{2, 0, 0, 0, 0, 1}, {2, 0, 0, 0, 0, 2}}, Addrs: [2]uint32{a("10.0.0.1"), a("10.1.0.1")}, Bits: [2]int{24, 24}, Gateway: a("10.0.0.254"), MTU: 1500,
		Listen: 7000, Prime: 13, Flows: 8, Ring: 8, Bufs: 64, Cache: 3, Queue: 4, Age: 10, Retry: 2, Tries: 2, Opening: 5, Open: 30, Closing: 4, Loose: 10, Interval: 3, Timeout: 2, Rise: 2, Fall: 2,
	}
}

// mac answers the address of somebody.
func mac(n byte) api.Mac {
	return api.Mac{2, 9, 0, 0, 0, n}
}

// to answers a packet for an address, that bears one byte.
func to(s string, x byte) api.Packet {
	return api.Packet{TTL: 9, Proto: 17, Src: a("10.0.0.77"), Dst: a(s), Data: []byte{x}}
}

// frame answers the frame of a packet out of a card.
func frame(nic int, m api.Mac, p api.Packet) api.Sent {
	b, _ := ipv4.Put(p)
	return api.Sent{Nic: nic, Frame: ether.Put(api.Frame{Dst: m, Src: conf().Macs[nic], Type: 0x0800, Data: b})}
}

// asks answers the frame by which a card asks for an address.
func asks(nic int, s string) api.Sent {
	q := api.Arp{Op: 1, SrcMac: conf().Macs[nic], SrcIP: conf().Addrs[nic], DstIP: a(s)}
	return api.Sent{Nic: nic, Frame: ether.Put(api.Frame{Dst: api.Mac{255, 255, 255, 255, 255, 255}, Src: conf().Macs[nic], Type: 0x0806, Data: arp.Put(q)})}
}

// says answers the ARP packet by which one answers a card.
func says(s string, m api.Mac, nic int) api.Arp {
	return api.Arp{Op: 2, SrcMac: m, SrcIP: a(s), DstMac: conf().Macs[nic], DstIP: conf().Addrs[nic]}
}

// same tells whether frames are those that are wanted.
func same(got []api.Sent, want ...api.Sent) bool {
	return len(got) == len(want) && (len(got) == 0 || reflect.DeepEqual(got, want))
}

// send sends a packet, and holds what comes of it against what is wanted.
func send(t *testing.T, n *Net, p api.Packet, why int, want ...api.Sent) {
	t.Helper()
	if got, w := n.Send(p); w != why || !same(got, want...) {
		t.Error(got, w)
	}
}

// P37.1

func TestNew(t *testing.T) {
	n := New(conf(), 7)
	if n.Len() != 0 || n.Waits() != 0 {
		t.Error("somebody is known")
	}
	send(t, n, to("10.0.0.5", 1), -1, asks(0, "10.0.0.5"))
	if n.Len() != 1 || n.Waits() != 1 {
		t.Error(n.Len(), n.Waits())
	}
}

func TestSendWays(t *testing.T) {
	for _, x := range []struct {
		to   string
		nic  int
		next string
	}{
		{"10.0.0.5", 0, "10.0.0.5"}, {"10.1.0.5", 1, "10.1.0.5"}, {"8.8.8.8", 0, "10.0.0.254"}, {"10.0.0.1", 0, "10.0.0.1"}, {"10.1.0.1", 1, "10.1.0.1"},
	} {
		n := New(conf(), 0)
		send(t, n, to(x.to, 1), -1, asks(x.nic, x.next))
		send(t, n, to(x.to, 2), -1)
		if x.to == "10.0.0.1" || x.to == "10.1.0.1" {
			continue
		}
		if got := n.Heard(x.nic, says(x.next, mac(1), x.nic)); !same(got, frame(x.nic, mac(1), to(x.to, 1)), frame(x.nic, mac(1), to(x.to, 2))) {
			t.Error(got)
		}
		send(t, n, to(x.to, 3), -1, frame(x.nic, mac(1), to(x.to, 3)))
		if n.Waits() != 0 || n.Len() != 1 {
			t.Error(n.Waits(), n.Len())
		}
	}
}

func TestSendSizes(t *testing.T) {
	for _, x := range []struct {
		name   string
		change func(p *api.Packet)
		want   int
	}{
		{"1500 bytes", func(p *api.Packet) { p.Data = make([]byte, 1480) }, -1},
		{"1501 bytes", func(p *api.Packet) { p.Data = make([]byte, 1481) }, api.CntTooBig},
		{"1500 bytes with options", func(p *api.Packet) { p.Data, p.Options = make([]byte, 1440), make([]byte, 40) }, -1},
		{"1504 bytes with options", func(p *api.Packet) { p.Data, p.Options = make([]byte, 1480), make([]byte, 4) }, api.CntTooBig},
		{"options of 41 bytes", func(p *api.Packet) { p.Options = make([]byte, 41) }, api.CntTooBig},
		{"options of 3 bytes", func(p *api.Packet) { p.Options = make([]byte, 3) }, api.CntTooBig},
		{"no Off", func(p *api.Packet) { p.Off = 8192 }, api.CntTooBig},
		{"too big, and no way", func(p *api.Packet) { p.Dst, p.Data = 0, make([]byte, 1481) }, api.CntTooBig},
		{"more than a packet", func(p *api.Packet) { p.Data = make([]byte, 65516) }, api.CntTooBig},
	} {
		n := New(conf(), 0)
		p := to("10.0.0.5", 1)
		x.change(&p)
		got, why := n.Send(p)
		if why != x.want || (why == -1) != same(got, asks(0, "10.0.0.5")) || why != -1 && (len(got) != 0 || n.Len() != 0) {
			t.Error(x.name, got, why)
		}
	}
	c := conf()
	c.MTU = 576
	send(t, New(c, 0), api.Packet{Dst: a("10.0.0.5"), Data: make([]byte, 557)}, api.CntTooBig)
	send(t, New(c, 0), api.Packet{Dst: a("10.0.0.5"), Data: make([]byte, 556)}, -1, asks(0, "10.0.0.5"))
}

func TestSendLost(t *testing.T) {
	n := New(conf(), 0)
	for _, s := range []string{"0.0.0.0", "255.255.255.255", "224.0.0.1", "127.0.0.1", "10.0.0.0", "10.0.0.255", "10.1.0.255"} {
		send(t, n, to(s, 1), api.CntLost)
	}
	if n.Len() != 0 || n.Waits() != 0 {
		t.Error("what is lost waits")
	}
}

func TestSendFull(t *testing.T) {
	n := New(conf(), 0)
	for _, s := range []string{"10.0.0.5", "10.0.0.6", "10.1.0.5"} {
		send(t, n, to(s, 1), -1, asks(btoi(s == "10.1.0.5"), s))
	}
	send(t, n, to("10.0.0.7", 1), api.CntQueueFull)
	send(t, n, to("10.0.0.5", 2), -1)
	send(t, n, to("10.0.0.5", 3), api.CntQueueFull)
	send(t, n, to("0.0.0.0", 3), api.CntLost)
	if got := n.Heard(0, says("10.0.0.5", mac(1), 0)); !same(got, frame(0, mac(1), to("10.0.0.5", 1)), frame(0, mac(1), to("10.0.0.5", 2))) {
		t.Error(got)
	}
	send(t, n, to("10.0.0.5", 4), -1, frame(0, mac(1), to("10.0.0.5", 4)))
	send(t, n, to("10.0.0.7", 1), api.CntQueueFull)
	send(t, n, to("10.0.0.6", 2), -1)
	if n.Waits() != 3 || n.Len() != 3 {
		t.Error(n.Waits(), n.Len())
	}
}

func btoi(x bool) int {
	if x {
		return 1
	}
	return 0
}

func TestSendIsApart(t *testing.T) {
	n := New(conf(), 0)
	p := to("10.0.0.5", 1)
	p.Data = roomy.Bytes(1, 2)
	n.Send(p)
	p.Data[0] = 9
	got := n.Heard(0, says("10.0.0.5", mac(1), 0))
	p.Data[0] = 1
	if !same(got, frame(0, mac(1), p)) {
		t.Error("what waits is shared", got)
	}
	got, _ = n.Send(p)
	if !roomy.Untouched(p.Data, 1, 2) || !roomy.Apart(got[0].Frame, p.Data) {
		t.Error("what is sent is shared")
	}
}

// P37.2

func TestHeardOfNone(t *testing.T) {
	n := New(conf(), 0)
	n.Send(to("10.0.0.5", 1))
	for _, nic := range []int{-1, 2, 99} {
		if got := n.Heard(nic, says("10.0.0.5", mac(1), 0)); len(got) != 0 || n.Waits() != 1 {
			t.Error(nic, got)
		}
	}
	// In the other card's net it is no host.
	if got := n.Heard(1, says("10.0.0.5", mac(1), 1)); len(got) != 0 || n.Waits() != 1 || n.Len() != 1 {
		t.Error(got)
	}
	for _, s := range []string{"10.0.0.1", "10.0.0.0", "10.0.0.255", "10.1.0.5", "8.8.8.8", "0.0.0.0"} {
		if got := n.Heard(0, says(s, mac(1), 0)); len(got) != 0 || n.Len() != 1 {
			t.Error(s, got)
		}
	}
}

func TestHeardLearns(t *testing.T) {
	n := New(conf(), 0)
	// One who speaks to others is learnt only if one asked for it.
	other := says("10.0.0.5", mac(1), 0)
	other.DstIP = a("10.0.0.9")
	if got := n.Heard(0, other); len(got) != 0 || n.Len() != 0 {
		t.Error(got, n.Len())
	}
	n.Send(to("10.0.0.5", 1))
	if got := n.Heard(0, other); !same(got, frame(0, mac(1), to("10.0.0.5", 1))) || n.Len() != 1 {
		t.Error(got)
	}
	other.SrcMac = mac(2)
	n.Heard(0, other)
	send(t, n, to("10.0.0.5", 2), -1, frame(0, mac(2), to("10.0.0.5", 2)))
	// One who speaks to the card is learnt in any case.
	if got := n.Heard(1, says("10.1.0.9", mac(3), 1)); len(got) != 0 || n.Len() != 2 {
		t.Error(got, n.Len())
	}
	send(t, n, to("10.1.0.9", 3), -1, frame(1, mac(3), to("10.1.0.9", 3)))
}

// reply answers the frame by which a card answers a request.
func reply(nic int, q api.Arp) api.Sent {
	p := api.Arp{Op: 2, SrcMac: conf().Macs[nic], SrcIP: conf().Addrs[nic], DstMac: q.SrcMac, DstIP: q.SrcIP}
	return api.Sent{Nic: nic, Frame: ether.Put(api.Frame{Dst: q.SrcMac, Src: conf().Macs[nic], Type: 0x0806, Data: arp.Put(p)})}
}

func TestHeardAnswers(t *testing.T) {
	n := New(conf(), 0)
	q := arp.Ask(mac(1), a("10.0.0.5"), a("10.0.0.1"))
	n.Send(to("10.0.0.5", 1))
	if got := n.Heard(0, q); !same(got, frame(0, mac(1), to("10.0.0.5", 1)), reply(0, q)) {
		t.Error(got)
	}
	if got := n.Heard(0, q); !same(got, reply(0, q)) {
		t.Error(got)
	}
	q = arp.Ask(mac(2), a("10.1.0.5"), a("10.1.0.1"))
	if got := n.Heard(1, q); !same(got, reply(1, q)) || n.Len() != 2 {
		t.Error(got, n.Len())
	}
	// A request for the other card's address, or for others', isn't answered.
	for _, s := range []string{"10.0.0.1", "10.1.0.2", "0.0.0.0"} {
		q.DstIP = a(s)
		if got := n.Heard(1, q); len(got) != 0 {
			t.Error(s, got)
		}
	}
	// Who has no address there is answered, and not learnt.
	for _, s := range []string{"0.0.0.0", "10.1.0.1", "8.8.8.8"} {
		q = arp.Ask(mac(4), a(s), a("10.1.0.1"))
		if got := n.Heard(1, q); !same(got, reply(1, q)) || n.Len() != 2 {
			t.Error(s, got, n.Len())
		}
	}
}

// TestHeardFull has no room for one more: it is answered all the same.
func TestHeardFull(t *testing.T) {
	c := conf()
	c.Cache = 0
	n := New(c, 0)
	q := arp.Ask(mac(1), a("10.0.0.5"), a("10.0.0.1"))
	if got := n.Heard(0, q); !same(got, reply(0, q)) || n.Len() != 0 {
		t.Error(got, n.Len())
	}
	send(t, n, to("10.0.0.5", 1), api.CntQueueFull)
}

// P37.3

func TestTick(t *testing.T) {
	n := New(conf(), 100)
	n.Send(to("10.1.0.5", 1))
	n.Send(to("10.0.0.6", 2))
	n.Send(to("10.0.0.5", 3))
	n.Send(to("10.0.0.5", 4))
	for i, x := range []struct {
		want []api.Sent
		lost int
	}{{nil, 0}, {[]api.Sent{asks(0, "10.0.0.5"), asks(0, "10.0.0.6"), asks(1, "10.1.0.5")}, 0}, {nil, 0}, {nil, 4}, {nil, 0}} {
		if got, lost := n.Tick(); !same(got, x.want...) || lost != x.lost {
			t.Error(i, got, lost)
		}
	}
	if n.Len() != 0 || n.Waits() != 0 {
		t.Error(n.Len(), n.Waits())
	}
}

func TestTickForgets(t *testing.T) {
	n := New(conf(), 0)
	n.Heard(0, says("10.0.0.5", mac(1), 0))
	for range 9 {
		n.Tick()
	}
	send(t, n, to("10.0.0.5", 1), -1, frame(0, mac(1), to("10.0.0.5", 1)))
	n.Tick()
	send(t, n, to("10.0.0.5", 1), -1, asks(0, "10.0.0.5"))
}

func TestNil(t *testing.T) {
	var n *Net
	send(t, n, to("10.0.0.5", 1), api.CntLost)
	send(t, n, api.Packet{Off: 9999}, api.CntLost)
	got, lost := n.Tick()
	if len(n.Heard(0, says("10.0.0.5", mac(1), 0))) != 0 || len(got) != 0 || lost != 0 || n.Waits() != 0 || n.Len() != 0 {
		t.Error("of nil there is something")
	}
}

// TestAgainstCache holds many calls against a cache of its own.
func TestAgainstCache(t *testing.T) {
	r := rand.New(rand.NewSource(37))
	hosts := []string{"10.0.0.2", "10.0.0.3", "10.0.0.254", "10.1.0.2", "10.1.0.3", "9.9.9.9", "10.0.0.255"}
	for range 40 {
		n, k := New(conf(), 0), cache.New(conf(), 0)
		for range 300 {
			s := hosts[r.Intn(len(hosts))]
			switch r.Intn(5) {
			case 0, 1:
				p := to(s, byte(r.Intn(256)))
				b, _ := ipv4.Put(p)
				place, e := route.Of(conf(), p.Dst)
				var want []api.Sent
				why := -1
				m, known := k.Find(place)
				switch {
				case e != api.OK:
					why = api.CntLost
				case known:
					want = append(want, frame(place.Nic, m, p))
				default:
					ask, e := k.Want(place, b)
					if e != api.OK {
						why = api.CntQueueFull
					}
					if ask {
						want = append(want, asks(place.Nic, addr.Text(place.Next)))
					}
				}
				send(t, n, p, why, want...)
			case 2:
				nic := r.Intn(2)
				q := api.Arp{Op: uint16(1 + r.Intn(2)), SrcMac: mac(byte(r.Intn(4))), SrcIP: a(s), DstIP: conf().Addrs[r.Intn(2)]}
				mine := q.DstIP == conf().Addrs[nic]
				var want []api.Sent
				if addr.Host(q.SrcIP, conf().Addrs[nic], 24) {
					l, _ := k.Learn(api.Place{Nic: nic, Next: q.SrcIP}, q.SrcMac, mine)
					for _, b := range l {
						want = append(want, api.Sent{Nic: nic, Frame: ether.Put(api.Frame{Dst: q.SrcMac, Src: conf().Macs[nic], Type: 0x0800, Data: b})})
					}
				}
				if q.Op == 1 && mine {
					want = append(want, reply(nic, q))
				}
				if got := n.Heard(nic, q); !same(got, want...) {
					t.Fatal(got, want)
				}
			default:
				l, wantLost := k.Tick()
				var want []api.Sent
				for _, p := range l {
					want = append(want, asks(p.Nic, addr.Text(p.Next)))
				}
				if got, lost := n.Tick(); !same(got, want...) || lost != wantLost {
					t.Fatal(got, lost)
				}
			}
			if n.Len() != k.Len() || n.Waits() != k.Waits() {
				t.Fatal(n.Len(), n.Waits())
			}
		}
	}
}

// TestFramesAreRight has each frame that is sent read again.
func TestFramesAreRight(t *testing.T) {
	n := New(conf(), 0)
	big := to("10.0.0.5", 1)
	big.Data = bytes.Repeat([]byte{7}, 1480)
	l, _ := n.Send(big)
	l = append(l, n.Heard(0, arp.Ask(mac(1), a("10.0.0.5"), a("10.0.0.1")))...)
	if len(l) != 3 {
		t.Fatal(l)
	}
	for i, s := range l {
		f, e := ether.Parse(s.Frame)
		if e != api.OK || f.Src != conf().Macs[s.Nic] || len(s.Frame) > api.MaxFrame {
			t.Error(i, f, e)
		}
	}
}
