package trace

import (
	"math/rand"
	"slices"
	"strings"
	"testing"

	"linkboy/api"
	"linkboy/arp"
	"linkboy/ether"
	"linkboy/icmp"
	"linkboy/ipv4"
	"linkboy/roomy"
	"linkboy/tcp"
	"linkboy/udp"
)

// P42.1

func TestFlags(t *testing.T) {
	for _, x := range []struct {
		n    byte
		want string
	}{
		{0, "-"}, {api.SYN, "S"}, {api.FIN, "F"}, {api.RST, "R"}, {api.PSH, "P"}, {api.ACK, "A"}, {api.URG, "U"},
		{api.SYN | api.ACK, "SA"}, {api.FIN | api.ACK, "FA"}, {api.RST | api.ACK, "RA"}, {63, "SFRPAU"}, {255, "SFRPAU"}, {64, "-"}, {128, "-"}, {192, "-"}, {64 | api.URG, "U"},
	} {
		if got := Flags(x.n); got != x.want {
			t.Error(x, got)
		}
	}
}

func TestUpper(t *testing.T) {
	for s, want := range map[string]string{
		"": "", "abcxyz": "ABCXYZ", "ABC": "ABC", "a-Z 09 `{": "A-Z 09 `{", "äß": "äß", "\xffa\x80z": "\xffA\x80Z", "ıſ": "ıſ",
	} {
		if got := Upper(s); got != want {
			t.Errorf("%q: %q", s, got)
		}
	}
}

func TestEnd(t *testing.T) {
	if got := End(0x0a000001, 0); got != "10.0.0.1:0" {
		t.Error(got)
	}
	if got := End(0xffffffff, 65535); got != "255.255.255.255:65535" {
		t.Error(got)
	}
}

// P42.2

const (
	one = 0x0a000001
	two = 0x0a000002
)

// put answers a packet between two addresses.
func put(proto byte, data []byte) api.Packet {
	return api.Packet{TTL: 1, Proto: proto, Src: one, Dst: two, Data: data}
}

// segment answers the packet of a segment.
func segment() api.Packet {
	b, _ := tcp.Put(one, two, api.Segment{Src: 1000, Dst: 80, Seq: 4294967295, Ack: 5, Flags: api.SYN | api.ACK, Options: make([]byte, 4), Data: []byte("abc")})
	return put(6, b)
}

// bear answers the packet that bears another one, between addresses that end so.
func bear(p api.Packet, a, b uint32) api.Packet {
	data, _ := ipv4.Put(p)
	return api.Packet{Proto: 4, Src: a, Dst: b, Data: data}
}

const told = "tcp 10.0.0.1:1000 10.0.0.2:80 SA 4294967295 5 3"

func TestPacket(t *testing.T) {
	gram, _ := udp.Put(one, two, api.Datagram{Src: 53, Dst: 65535, Data: make([]byte, 12)})
	bad := segment()
	bad.Data[5]++
	part := bear(segment(), 3, 4)
	part.MF = true
	for _, x := range []struct {
		name string
		p    api.Packet
		want string
	}{
		{"a message", put(1, icmp.Put(api.Icmp{Type: 3, Code: 255, Data: []byte("x")})), "icmp 10.0.0.1 10.0.0.2 3 255"},
		{"a datagram", put(17, gram), "udp 10.0.0.1:53 10.0.0.2:65535 12"},
		{"a segment", segment(), told},
		{"a wrong sum", bad, "ip 10.0.0.1 10.0.0.2 6"},
		{"nothing of ICMP", put(1, nil), "ip 10.0.0.1 10.0.0.2 1"},
		{"nothing of UDP", put(17, nil), "ip 10.0.0.1 10.0.0.2 17"},
		{"another protocol", put(255, nil), "ip 10.0.0.1 10.0.0.2 255"},
		{"the zero one", api.Packet{}, "ip 0.0.0.0 0.0.0.0 0"},
		{"one that bears nothing", put(4, []byte("abc")), "ip 10.0.0.1 10.0.0.2 4"},
		{"a fragment that bears", part, "ip 0.0.0.3 0.0.0.4 4"},
		{"one that bears", bear(segment(), 3, 4), "ipip 0.0.0.3 0.0.0.4 [" + told + "]"},
		{"one that bears another protocol", bear(put(7, nil), 3, 4), "ipip 0.0.0.3 0.0.0.4 [ip 10.0.0.1 10.0.0.2 7]"},
		{"two that bear", bear(bear(segment(), 3, 4), 5, 6), "ipip 0.0.0.5 0.0.0.6 [ipip 0.0.0.3 0.0.0.4]"},
		{"two that bear another protocol", bear(bear(put(99, nil), 3, 4), 5, 6), "ipip 0.0.0.5 0.0.0.6 [ipip 0.0.0.3 0.0.0.4]"},
		{"one that bears one that bears nothing", bear(put(4, []byte("abc")), 5, 6), "ipip 0.0.0.5 0.0.0.6 [ip 10.0.0.1 10.0.0.2 4]"},
		{"one that bears a fragment that bears", bear(part, 5, 6), "ipip 0.0.0.5 0.0.0.6 [ip 0.0.0.3 0.0.0.4 4]"},
		{"three that bear", bear(bear(bear(segment(), 3, 4), 5, 6), 7, 8), "ipip 0.0.0.7 0.0.0.8 [ipip 0.0.0.5 0.0.0.6]"},
		{"four that bear", bear(bear(bear(bear(segment(), 3, 4), 5, 6), 7, 8), 9, 9), "ipip 0.0.0.9 0.0.0.9 [ipip 0.0.0.7 0.0.0.8]"},
	} {
		if got := Packet(x.p); got != x.want {
			t.Error(x.name, got)
		}
	}
	// What stands behind the packet that is borne plays no part.
	more := bear(segment(), 3, 4)
	more.Data = append(more.Data, 1, 2, 3)
	if got := Packet(more); got != "ipip 0.0.0.3 0.0.0.4 ["+told+"]" {
		t.Error(got)
	}
	deep := segment()
	for range 3000 {
		deep = bear(deep, 1, 2)
	}
	if got := Packet(deep); got != "ipip 0.0.0.1 0.0.0.2 [ipip 0.0.0.1 0.0.0.2]" {
		t.Error(got)
	}
}

// P42.3

// sent answers what was sent out of a card.
func sent(nic int, typ uint16, data []byte) api.Sent {
	return api.Sent{Nic: nic, Frame: ether.Put(api.Frame{Type: typ, Data: data})}
}

func TestLine(t *testing.T) {
	who := arp.Put(api.Arp{Op: 1, SrcMac: api.Mac{2, 1, 255}, SrcIP: one, DstMac: api.Mac{4}, DstIP: two})
	is := arp.Put(api.Arp{Op: 2, SrcMac: api.Mac{2, 1, 255}, SrcIP: one, DstMac: api.Mac{4}, DstIP: two})
	p, _ := ipv4.Put(segment())
	for _, x := range []struct {
		s    api.Sent
		want string
	}{
		{sent(0, api.TypeARP, who), "0 arp who 10.0.0.2 tell 10.0.0.1"},
		{sent(1, api.TypeARP, is), "1 arp is 10.0.0.1 02:01:ff:00:00:00"},
		{sent(1, api.TypeARP, append(is, 0, 0)), "1 arp is 10.0.0.1 02:01:ff:00:00:00"},
		{sent(9, api.TypeIP, p), "9 " + told},
		{sent(10, api.TypeIP, append(slices.Clone(p), 0, 0)), "? " + told},
		{sent(-1, api.TypeIP, p[:30]), "? raw 44"},
		{sent(2, api.TypeARP, p[:27]), "2 raw 41"},
		{sent(2, api.TypeARP, p), "2 raw " + number(14+len(p))},
		{sent(2, api.TypeIP, who), "2 raw 42"},
		{sent(2, 0x86dd, p), "2 raw " + number(14+len(p))},
		{sent(2, 1535, p), "2 raw " + number(14+len(p))},
		{sent(3, 2048, nil), "3 raw 14"},
		{api.Sent{}, "0 raw 0"},
		{api.Sent{Nic: 5, Frame: make([]byte, 13)}, "5 raw 13"},
	} {
		if got := Line(x.s); got != x.want {
			t.Errorf("%q in place of %q", got, x.want)
		}
	}
	s := api.Sent{Frame: roomy.Bytes(sent(0, api.TypeIP, p).Frame...)}
	if Line(s); !roomy.Untouched(s.Frame, sent(0, api.TypeIP, p).Frame...) {
		t.Error("the frame is changed")
	}
}

// every answers a frame of each kind, and the kinds.
func every() ([]api.Sent, []string) {
	ip := func(p api.Packet) api.Sent {
		b, _ := ipv4.Put(p)
		return sent(0, api.TypeIP, b)
	}
	gram, _ := udp.Put(one, two, api.Datagram{})
	l := []api.Sent{
		{}, ip(segment()), ip(put(17, gram)), ip(put(1, icmp.Put(api.Icmp{}))), ip(put(9, nil)), ip(bear(segment(), 1, 2)),
		sent(11, api.TypeARP, arp.Put(api.Arp{Op: 1, SrcMac: api.Mac{2}})),
	}
	return l, []string{"raw", "tcp", "udp", "icmp", "ip", "ipip", "arp"}
}

func TestLines(t *testing.T) {
	l, _ := every()
	want := ""
	for _, s := range l {
		want += Line(s) + "\n"
	}
	if got := Lines(l); got != want || strings.Count(got, "\n") != 7 {
		t.Error(got)
	}
	if got := Lines(nil); got != "" {
		t.Error(got)
	}
}

func TestKind(t *testing.T) {
	l, want := every()
	for i, s := range l {
		if got := Kind(s); got != want[i] {
			t.Error(got, want[i])
		}
	}
}

// P42.4

func TestTally(t *testing.T) {
	l, _ := every()
	if got := Tally(l); got != "arp:1 icmp:1 ip:1 ipip:1 raw:1 tcp:1 udp:1" {
		t.Error(got)
	}
	if got := Tally(nil); got != "" {
		t.Error(got)
	}
	if got := Tally(l[1:2]); got != "tcp:1" {
		t.Error(got)
	}
	many := slices.Repeat([]api.Sent{l[2], l[6], l[2]}, 6)
	rand.New(rand.NewSource(1)).Shuffle(len(many), func(i, j int) { many[i], many[j] = many[j], many[i] })
	if got := Tally(many); got != "arp:6 udp:12" {
		t.Error(got)
	}
}
