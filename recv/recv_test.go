package recv

import (
	"math"
	"math/rand"
	"reflect"
	"testing"

	"linkboy/api"
	"linkboy/arp"
	"linkboy/ether"
	"linkboy/icmp"
	"linkboy/ipv4"
	"linkboy/octet"
	"linkboy/roomy"
	"linkboy/tcp"
	"linkboy/udp"
)

const (
	client = 0x0a000009
	server = 0x0a000001
)

// macs answers the two cards' addresses.
func macs() [2]api.Mac {
	return [2]api.Mac{{2, 0, 0, 0, 0, 1}, {2, 0, 0, 0, 0, 2}}
}

func conf() api.Config {
	return api.Config{Macs: macs(), Addrs: [2]uint32{server, 0x0a010001}, Bits: [2]int{24, 24}, MTU: 1500}
}

// frame answers the bytes of a frame.
func frame(to api.Mac, typ uint16, data []byte) []byte {
	return ether.Put(api.Frame{Dst: to, Src: api.Mac{2, 9}, Type: typ, Data: data})
}

// usual answers a packet that one would take.
func usual() api.Packet {
	return api.Packet{TOS: 3, ID: 7, DF: true, TTL: 64, Proto: api.ProtoUDP, Src: client, Dst: server, Options: []byte{1, 1, 1, 0}, Data: []byte{1, 2, 3}}
}

// put answers a packet's bytes.
func put(p api.Packet) []byte {
	b, _ := ipv4.Put(p)
	return b
}

// P26.1

func TestOfPacket(t *testing.T) {
	for nic, m := range macs() {
		b := frame(m, api.TypeIP, append(put(usual()), 7, 7))
		if x, why := Of(conf(), nic, b); why != -1 || !reflect.DeepEqual(x, usual()) {
			t.Error(nic, x, why)
		}
		if x, why := Of(conf(), 1-nic, b); x != nil || why != api.CntNotMine {
			t.Error(nic, x, why)
		}
	}
}

func TestOfArp(t *testing.T) {
	p := arp.Ask(api.Mac{2, 9}, client, server)
	for _, to := range []api.Mac{macs()[0], ether.All()} {
		if x, why := Of(conf(), 0, frame(to, api.TypeARP, append(arp.Put(p), 0, 0))); why != -1 || x != p {
			t.Error(to, x, why)
		}
	}
	for _, to := range []api.Mac{macs()[1], {}, {1, 0, 94, 0, 0, 1}} {
		if x, why := Of(conf(), 0, frame(to, api.TypeARP, arp.Put(p))); x != nil || why != api.CntNotMine {
			t.Error(to, x, why)
		}
	}
	for _, data := range [][]byte{nil, arp.Put(p)[:27], arp.Put(api.Arp{Op: 3, SrcMac: p.SrcMac}), arp.Put(api.Arp{Op: 1})} {
		if x, why := Of(conf(), 0, frame(macs()[0], api.TypeARP, data)); x != nil || why != api.CntArp {
			t.Error(data, x, why)
		}
	}
}

// TestOfWhyNot has each reason alone.
func TestOfWhyNot(t *testing.T) {
	mine, other := macs()[0], macs()[1]
	right := put(usual())
	with := func(change func(*api.Packet)) []byte {
		p := usual()
		change(&p)
		return put(p)
	}
	for _, x := range []struct {
		name string
		nic  int
		b    []byte
		want int
	}{
		{"no card", 2, frame(mine, api.TypeIP, right), api.CntNotMine},
		{"no card below", -1, frame(mine, api.TypeIP, right), api.CntNotMine},
		{"no card, far off", math.MaxInt, nil, api.CntNotMine},
		{"no card, far below", math.MinInt, nil, api.CntNotMine},
		{"nothing", 0, nil, api.CntEther},
		{"13 bytes", 0, frame(mine, api.TypeIP, right)[:13], api.CntEther},
		{"a length", 0, frame(mine, 1535, right), api.CntEther},
		{"a length, of others", 0, frame(other, 1535, right), api.CntEther},
		{"of others", 0, frame(other, api.TypeIP, right), api.CntNotMine},
		{"of others, another type", 0, frame(other, 1536, right), api.CntNotMine},
		{"of others, no packet", 0, frame(other, api.TypeIP, nil), api.CntNotMine},
		{"to all", 0, frame(ether.All(), api.TypeIP, right), api.CntNotMine},
		{"to all, no packet", 0, frame(ether.All(), api.TypeIP, nil), api.CntNotMine},
		{"another type", 0, frame(mine, 1536, right), api.CntProto},
		{"another type, to all", 0, frame(ether.All(), 0x86dd, right), api.CntProto},
		{"no packet", 0, frame(mine, api.TypeIP, nil), api.CntIP},
		{"cut off", 0, frame(mine, api.TypeIP, right[:len(right)-1]), api.CntIP},
		{"a wrong sum", 0, frame(mine, api.TypeIP, append([]byte{right[0], right[1] + 1}, right[2:]...)), api.CntIP},
		{"from 0", 0, frame(mine, api.TypeIP, with(func(p *api.Packet) { p.Src = 0 })), api.CntIP},
		{"from all", 0, frame(mine, api.TypeIP, with(func(p *api.Packet) { p.Src = math.MaxUint32 })), api.CntIP},
		{"from several", 0, frame(mine, api.TypeIP, with(func(p *api.Packet) { p.Src = 224 << 24; p.MF = true })), api.CntIP},
		{"from oneself", 0, frame(mine, api.TypeIP, with(func(p *api.Packet) { p.Src = 127<<24 + 1; p.TTL = 0 })), api.CntIP},
		{"a first piece", 0, frame(mine, api.TypeIP, with(func(p *api.Packet) { p.MF = true })), api.CntFragment},
		{"a last piece", 0, frame(mine, api.TypeIP, with(func(p *api.Packet) { p.Off = 1 })), api.CntFragment},
		{"a piece, expired", 0, frame(mine, api.TypeIP, with(func(p *api.Packet) { p.Off = 1; p.TTL = 0 })), api.CntFragment},
		{"expired", 0, frame(mine, api.TypeIP, with(func(p *api.Packet) { p.TTL = 0 })), api.CntExpired},
		{"to anybody, of any protocol", 0, frame(mine, api.TypeIP, with(func(p *api.Packet) { p.Dst = 0; p.Proto = 99; p.TTL = 1 })), -1},
		{"from a neighbour of 127", 0, frame(mine, api.TypeIP, with(func(p *api.Packet) { p.Src = 128 << 24 })), -1},
		{"from the last one", 0, frame(mine, api.TypeIP, with(func(p *api.Packet) { p.Src = 224<<24 - 1 })), -1},
	} {
		if got, why := Of(conf(), x.nic, x.b); why != x.want || (got == nil) != (x.want != -1) {
			t.Error(x.name, got, why)
		}
	}
}

func TestOfIsApart(t *testing.T) {
	raw := frame(macs()[0], api.TypeIP, put(usual()))
	b := roomy.Bytes(raw...)
	x, _ := Of(conf(), 0, b)
	p, ok := x.(api.Packet)
	if !ok || !roomy.Untouched(b, raw...) || !roomy.Apart(p.Data, b) || !roomy.Apart(p.Options, b) {
		t.Error("what came in is shared, or changed", x)
	}
}

// TestOfAnything hands in bytes with a few wrong ones: the answer is what the layers below say, one behind the other.
func TestOfAnything(t *testing.T) {
	r := rand.New(rand.NewSource(26))
	arps := frame(ether.All(), api.TypeARP, arp.Put(arp.Ask(api.Mac{2}, 1, 2)))
	for range 5000 {
		b := octet.Join(frame(macs()[r.Intn(2)], api.TypeIP, put(usual())))
		if r.Intn(3) == 0 {
			b = octet.Join(arps)
		}
		for range r.Intn(4) {
			b[r.Intn(len(b))] = byte(r.Intn(256))
		}
		b = b[:len(b)-r.Intn(3)*r.Intn(len(b)+1)/2]
		nic := r.Intn(4) - 1
		x, why := Of(conf(), nic, b)
		if why < -1 || why >= api.CntAll || (x == nil) != (why != -1) {
			t.Fatal(b, x, why)
		}
		if why != -1 {
			continue
		}
		if f, e := ether.Parse(b); e != api.OK || !ether.Mine(f, macs()[nic]) {
			t.Fatal(b, x)
		}
		if k := Kind(x); k != 4 && k != 5 {
			t.Fatal(b, x)
		}
	}
}

// P26.2

// bodies answers one packet of each kind, and what it bears.
func bodies() ([]api.Packet, []any) {
	m := icmp.Ask(1, 2, []byte{9, 8})
	d := api.Datagram{Src: 5, Dst: 6, Data: []byte{3}}
	s := api.Segment{Src: 5, Dst: 6, Seq: 7, Ack: 8, Res: 1, Flags: api.ACK, Window: 9, Urgent: 1, Options: []byte{1, 1, 1, 0}, Data: []byte{4, 5}}
	var l []api.Packet
	for _, n := range []byte{api.ProtoICMP, api.ProtoUDP, api.ProtoTCP} {
		l = append(l, api.Packet{TTL: 64, Proto: n, Src: client, Dst: server})
	}
	l[0].Data = icmp.Put(m)
	l[1].Data, _ = udp.Put(client, server, d)
	l[2].Data, _ = tcp.Put(client, server, s)
	return l, []any{m, d, s}
}

func TestBody(t *testing.T) {
	l, want := bodies()
	for i, p := range l {
		x, e := Body(p)
		if e != api.OK || !reflect.DeepEqual(x, want[i]) {
			t.Error(i, x, e)
		}
		p.Data = p.Data[:len(p.Data)-1]
		p.Options, p.MF, p.Off, p.TTL = []byte{1, 2, 3}, true, 9999, 0
		if x, e := Body(p); x != nil || e == api.OK {
			t.Error(i, x, e)
		}
	}
}

func TestBodyWrong(t *testing.T) {
	l, _ := bodies()
	l[1].Data = append(l[1].Data, 7)
	if x, e := Body(l[1]); e != api.OK || Kind(x) != 2 {
		t.Error("what stands behind a datagram plays a part", x, e)
	}
	for i, p := range l {
		p.Data = p.Data[:7]
		if x, e := Body(p); x != nil || e != api.ErrShort {
			t.Error(i, x, e)
		}
		p.Data = nil
		if x, e := Body(p); x != nil || e != api.ErrShort {
			t.Error(i, x, e)
		}
		p = l[i]
		p.Data = octet.Join(p.Data)
		p.Data[0] ^= 255
		if x, e := Body(p); x != nil || e != api.ErrSum {
			t.Error(i, x, e)
		}
	}
	// The addresses are part of the sums of two of them.
	for i, p := range l {
		p.Src++
		want := api.ErrSum
		if i == 0 {
			want = api.OK
		}
		if _, e := Body(p); e != want {
			t.Error(i, e)
		}
		p.Src, p.Dst = p.Src-1, p.Dst+1
		if _, e := Body(p); e != want {
			t.Error(i, e)
		}
	}
	for n := range 256 {
		p := l[0]
		p.Proto = byte(n)
		x, e := Body(p)
		if n != 1 && n != 6 && n != 17 && (x != nil || e != api.ErrForm) {
			t.Error(n, x, e)
		}
	}
}

func TestBodyIsApart(t *testing.T) {
	l, _ := bodies()
	for i, p := range l {
		raw := octet.Join(p.Data)
		p.Data = roomy.Bytes(raw...)
		x, _ := Body(p)
		data := [][]byte{}
		switch v := x.(type) {
		case api.Icmp:
			data = append(data, v.Data)
		case api.Datagram:
			data = append(data, v.Data)
		case api.Segment:
			data = append(data, v.Data, v.Options)
		}
		for _, d := range data {
			if !roomy.Apart(d, p.Data) {
				t.Error(i, "shared")
			}
		}
		if len(data) == 0 || !roomy.Untouched(p.Data, raw...) {
			t.Error(i)
		}
	}
}

// things answers one thing of each kind from 1 on, and then others.
func things() []any {
	n, d := 7, api.Datagram{}
	return []any{api.Icmp{Type: 8}, api.Datagram{Src: 1}, api.Segment{Src: 2}, api.Arp{Op: 1}, api.Packet{TTL: 3},
		nil, 1, "api.Icmp", &n, &d, &api.Icmp{}, &api.Segment{}, &api.Packet{}, api.Frame{}, api.Flow{}, api.Errno(1), []api.Icmp{{}}, (*api.Icmp)(nil)}
}

func TestKind(t *testing.T) {
	for i, x := range things() {
		want := i + 1
		if i >= 5 {
			want = 0
		}
		if Kind(x) != want {
			t.Error(i, Kind(x))
		}
	}
}

// panics tells whether a call panics.
func panics(f func()) (yes bool) {
	defer func() { yes = recover() != nil }()
	f()
	return false
}

func TestMust(t *testing.T) {
	l := things()
	if !reflect.DeepEqual(MustIcmp(l[0]), l[0]) || !reflect.DeepEqual(MustDatagram(l[1]), l[1]) || !reflect.DeepEqual(MustSegment(l[2]), l[2]) {
		t.Error("a thing isn't answered as itself")
	}
	for i, x := range l {
		for k, f := range []func(){func() { MustIcmp(x) }, func() { MustDatagram(x) }, func() { MustSegment(x) }} {
			if panics(f) != (i != k) {
				t.Error(i, k)
			}
		}
	}
}
