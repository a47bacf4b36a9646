package filter

import (
	"math"
	"math/rand"
	"slices"
	"strings"
	"testing"

	"linkboy/api"
	"linkboy/icmp"
	"linkboy/ipv4"
	"linkboy/tcp"
	"linkboy/udp"
)

const (
	one = 0x0a000001
	two = 0x0a010002
)

// segment answers the packet of a segment.
func segment(from, to uint16, flags byte) api.Packet {
	b, _ := tcp.Put(one, two, tcp.Plain(from, to, 1, 2, flags))
	return api.Packet{Proto: 6, Src: one, Dst: two, Data: b}
}

// gram answers the packet of a datagram.
func gram(from, to uint16) api.Packet {
	b, _ := udp.Put(one, two, api.Datagram{Src: from, Dst: to, Data: []byte{255, 255, 255, 255, 255, 255, 255}})
	return api.Packet{Proto: 17, Src: one, Dst: two, Data: b}
}

// ping answers the packet of a message.
func ping() api.Packet {
	return api.Packet{Proto: 1, Src: two, Dst: one, Data: icmp.Put(icmp.Ask(80, 80, nil))}
}

// P45.1

func TestRight(t *testing.T) {
	for i, f := range [][]Step{
		{{Op: 1}}, {{Op: 2}}, {{Op: 3}}, {{Op: 4}}, {{Op: 9}},
		{{Op: 5}}, {{Op: 5, Addr: 7, Num: 32}}, {{Op: 6, Addr: math.MaxUint32, Num: 1}}, {{Op: 7}}, {{Op: 7, Num: 65535}}, {{Op: 8, Num: 1}}, {{Op: 10, Num: 65535}},
		{{Op: 1}, {Op: 13}}, {{Op: 1}, {Op: 2}, {Op: 11}}, {{Op: 1}, {Op: 2}, {Op: 3}, {Op: 12}, {Op: 13}, {Op: 11}},
		slices.Concat([]Step{{Op: 1}}, slices.Repeat([]Step{{Op: 13}}, 99)),
	} {
		if !Right(f) {
			t.Error(i, f)
		}
	}
	for i, f := range [][]Step{
		nil, {}, {{}}, {{Op: -1}}, {{Op: 14}}, {{Op: math.MinInt}}, {{Op: math.MaxInt}},
		{{Op: 1, Num: 1}}, {{Op: 4, Num: -1}}, {{Op: 9, Num: 1}}, {{Op: 1}, {Op: 13, Num: 1}}, {{Op: 1}, {Op: 2}, {Op: 11, Num: 1}},
		{{Op: 1, Addr: 1}}, {{Op: 7, Addr: 1}}, {{Op: 10, Addr: 1}}, {{Op: 1}, {Op: 13, Addr: 1}}, {{Op: 1}, {Op: 1}, {Op: 12, Addr: 1}},
		{{Op: 5, Num: 33}}, {{Op: 6, Num: -1}}, {{Op: 7, Num: 65536}}, {{Op: 8, Num: -1}}, {{Op: 10, Num: 65536}}, {{Op: 10, Num: -1}},
		{{Op: 13}}, {{Op: 11}}, {{Op: 1}, {Op: 11}}, {{Op: 1}, {Op: 12}, {Op: 2}}, {{Op: 1}, {Op: 2}}, {{Op: 1}, {Op: 2}, {Op: 11}, {Op: 3}}, {{Op: 13}, {Op: 1}},
		slices.Concat([]Step{{Op: 1}}, slices.Repeat([]Step{{Op: 13}}, 100)),
	} {
		if Right(f) || Match(f, segment(1, 2, 2)) || Print(f) != "" {
			t.Error(i, f)
		}
	}
}

func TestMatchOne(t *testing.T) {
	bad := segment(1, 80, api.SYN)
	bad.Data[4]++
	other := api.Packet{Proto: 47, Src: one, Dst: two, Data: segment(1, 80, 2).Data}
	all := []api.Packet{segment(1000, 80, api.SYN|api.ACK), segment(80, 1000, api.ACK), gram(1000, 80), ping(), bad, other, {}}
	for i, x := range []struct {
		s    Step
		want []bool
	}{
		{Step{Op: 1}, []bool{true, true, false, false, true, false, false}},
		{Step{Op: 2}, []bool{false, false, true, false, false, false, false}},
		{Step{Op: 3}, []bool{false, false, false, true, false, false, false}},
		{Step{Op: 4}, []bool{true, true, true, true, true, true, true}},
		{Step{Op: 5, Addr: one, Num: 32}, []bool{true, true, true, false, true, true, false}},
		{Step{Op: 5, Addr: one + 1, Num: 32}, []bool{false, false, false, false, false, false, false}},
		{Step{Op: 5, Addr: one + 77, Num: 16}, []bool{true, true, true, false, true, true, false}},
		{Step{Op: 5, Addr: one, Num: 0}, []bool{true, true, true, true, true, true, true}},
		{Step{Op: 6, Addr: one, Num: 32}, []bool{false, false, false, true, false, false, false}},
		{Step{Op: 6, Addr: 0x0aff0000, Num: 8}, []bool{true, true, true, true, true, true, false}},
		{Step{Op: 7, Num: 1000}, []bool{true, false, true, false, false, false, false}},
		{Step{Op: 7, Num: 0}, []bool{false, false, false, false, false, false, false}},
		{Step{Op: 8, Num: 80}, []bool{true, false, true, false, false, false, false}},
		{Step{Op: 8, Num: 0}, []bool{false, false, false, false, false, false, false}},
		{Step{Op: 9}, []bool{true, false, false, false, false, false, false}},
		{Step{Op: 10, Num: 0}, []bool{true, true, true, true, true, true, true}},
		{Step{Op: 10, Num: 20}, []bool{true, true, true, true, true, true, true}},
		{Step{Op: 10, Num: 28}, []bool{true, true, true, true, true, true, false}},
		{Step{Op: 10, Num: 40}, []bool{true, true, false, false, true, true, false}},
		{Step{Op: 10, Num: 41}, []bool{false, false, false, false, false, false, false}},
	} {
		for k, p := range all {
			if got := Match([]Step{x.s}, p); got != x.want[k] {
				t.Error(i, k, got)
			}
			if got := Match([]Step{x.s, {Op: 13}}, p); got == x.want[k] {
				t.Error(i, k, "not", got)
			}
		}
	}
	p := segment(1, 2, 2)
	p.Options = make([]byte, 8)
	if !Match([]Step{{Op: 10, Num: 48}}, p) || Match([]Step{{Op: 10, Num: 49}}, p) {
		t.Error("options aren't counted")
	}
}

func TestMatchRows(t *testing.T) {
	yes, no := Step{Op: 1}, Step{Op: 2}
	for i, x := range []struct {
		f    []Step
		want bool
	}{
		{[]Step{yes, yes, {Op: 11}}, true}, {[]Step{yes, no, {Op: 11}}, false}, {[]Step{no, yes, {Op: 11}}, false}, {[]Step{no, no, {Op: 11}}, false},
		{[]Step{yes, yes, {Op: 12}}, true}, {[]Step{yes, no, {Op: 12}}, true}, {[]Step{no, yes, {Op: 12}}, true}, {[]Step{no, no, {Op: 12}}, false},
		{[]Step{yes, no, yes, {Op: 12}, {Op: 11}}, true}, {[]Step{yes, no, {Op: 13}, {Op: 11}, no, {Op: 12}}, true}, {[]Step{no, yes, yes, {Op: 11}, {Op: 11}}, false}, {[]Step{yes, no, {Op: 13}, {Op: 13}, {Op: 11}}, false},
	} {
		before := slices.Clone(x.f)
		if got := Match(x.f, segment(1, 2, 2)); got != x.want || !slices.Equal(x.f, before) {
			t.Error(i, got)
		}
	}
}

// P45.2

func TestParse(t *testing.T) {
	for s, want := range map[string][]Step{
		"tcp": {{Op: 1}}, "udp": {{Op: 2}}, "icmp": {{Op: 3}}, "any": {{Op: 4}}, "syn": {{Op: 9}}, "  tcp   ": {{Op: 1}},
		"src 10.0.0.1":         {{Op: 5, Addr: one, Num: 32}},
		"dst 10.0.0.1/0":       {{Op: 6, Addr: one}},
		"src   10.0.0.1/32":    {{Op: 5, Addr: one, Num: 32}},
		"dst 255.255.255.0/9":  {{Op: 6, Addr: 0xffffff00, Num: 9}},
		"sport 0":              {{Op: 7}},
		"dport 65535":          {{Op: 8, Num: 65535}},
		"len 1500":             {{Op: 10, Num: 1500}},
		"host 10.0.0.1/8":      {{Op: 5, Addr: one, Num: 8}, {Op: 6, Addr: one, Num: 8}, {Op: 12}},
		"port 80":              {{Op: 7, Num: 80}, {Op: 8, Num: 80}, {Op: 12}},
		"tcp and not port 80":  {{Op: 1}, {Op: 7, Num: 80}, {Op: 8, Num: 80}, {Op: 12}, {Op: 13}, {Op: 11}},
		"tcp or udp or icmp":   {{Op: 1}, {Op: 2}, {Op: 12}, {Op: 3}, {Op: 12}},
		"tcp and udp and icmp": {{Op: 1}, {Op: 2}, {Op: 11}, {Op: 3}, {Op: 11}},
		"tcp or udp and icmp":  {{Op: 1}, {Op: 2}, {Op: 3}, {Op: 11}, {Op: 12}},
		"tcp and udp or icmp":  {{Op: 1}, {Op: 2}, {Op: 11}, {Op: 3}, {Op: 12}},
		"(tcp or udp)and icmp": {{Op: 1}, {Op: 2}, {Op: 12}, {Op: 3}, {Op: 11}},
		"not(tcp)or(not udp)":  {{Op: 1}, {Op: 13}, {Op: 2}, {Op: 13}, {Op: 12}},
		"not tcp and udp":      {{Op: 1}, {Op: 13}, {Op: 2}, {Op: 11}},
		"not not ( ( tcp ) )":  {{Op: 1}, {Op: 13}, {Op: 13}},
		"not(tcp or udp)":      {{Op: 1}, {Op: 2}, {Op: 12}, {Op: 13}},
	} {
		if got, e := Parse(s); e != api.OK || !slices.Equal(got, want) {
			t.Errorf("%q: %v %v", s, got, e)
		}
	}
}

func TestParseOfNone(t *testing.T) {
	for _, s := range []string{
		"", " ", "(", ")", "()", "(tcp", "tcp)", "tcp udp", "and", "or", "not", "tcp and", "and tcp", "tcp or", "tcp and and udp", "tcp or and udp", "tcp not udp", "(tcp)(udp)", "not and tcp",
		"TCP", "tcpx", "tcp\t", "\ttcp", "tcp\n", "tcp\u00a0", "t cp", "tcp,udp", "\xff", "tcp\xff", "tcp\ufffd", "tcp and \xff",
		"src", "src tcp", "src 10.0.0", "src 10.0.0.1/", "src 10.0.0.1/33", "src 10.0.0.1/08", "src 10.0.0.1/-1", "src 10.0.0.1/8/8", "src 10.0.0.1 /8", "src 10.0.0.1/ 8", "src 10.0.0.256", "src 010.0.0.1", "src (10.0.0.1)", "src /8", "dst", "host", "host 1", "dst 80",
		"sport", "sport x", "sport 65536", "sport 00", "sport 080", "sport -1", "sport +1", "dport 18446744073709551616", "dport 18446744073709551696", "port", "port 10.0.0.1", "port 80 80", "len", "len 65536", "len 1.0", "len ٣", "len 0x5", "syn 5", "any any",
		"13", "src10.0.0.1", "port80", "nottcp",
	} {
		if got, e := Parse(s); e != api.ErrForm || len(got) != 0 {
			t.Errorf("%q: %v %v", s, got, e)
		}
	}
}

func TestParseBig(t *testing.T) {
	many := "tcp" + strings.Repeat(" or tcp", 50)
	deep := strings.Repeat("(", 20) + "tcp" + strings.Repeat(")", 20)
	nots := strings.Repeat("not ", 20) + "tcp"
	for _, x := range []struct {
		name string
		s    string
		e    api.Errno
		n    int
	}{
		{"1000 bytes", "tcp" + strings.Repeat(" ", 997), api.OK, 1},
		{"1001 bytes", "tcp" + strings.Repeat(" ", 998), api.ErrBig, 0},
		{"1001 bytes of no text", strings.Repeat("x", 1001), api.ErrBig, 0},
		{"1000 bytes of no text", strings.Repeat("x", 1000), api.ErrForm, 0},
		{"99 steps", many[:len(many)-7], api.OK, 99},
		{"100 steps", "not " + many[:len(many)-7], api.OK, 100},
		{"101 steps", many, api.ErrBig, 0},
		{"101 steps of no text", many + " and", api.ErrForm, 0},
		{"20 deep", deep, api.OK, 1},
		{"21 deep", "(" + deep + ")", api.ErrBig, 0},
		{"21 deep of no text", "(" + deep, api.ErrForm, 0},
		{"20 nots", nots, api.OK, 21},
		{"21 nots", "not " + nots, api.ErrBig, 0},
		{"both", "not(" + deep[1:len(deep)-1] + ")", api.ErrBig, 0},
		{"both, 20", "not " + deep[1:len(deep)-1], api.OK, 2},
		{"20 deep, time and again", deep + " or " + deep + " and " + nots, api.OK, 25},
		{"1000 deep", strings.Repeat("(", 1000), api.ErrForm, 0},
		{"500 deep", strings.Repeat("(", 498) + "tcp" + strings.Repeat(")", 498), api.ErrBig, 0},
	} {
		if got, e := Parse(x.s); e != x.e || len(got) != x.n {
			t.Error(x.name, len(got), e)
		}
	}
}

// P45.3

func TestPrint(t *testing.T) {
	for s, want := range map[string]string{
		"tcp": "tcp", "udp": "udp", "icmp": "icmp", "any": "any", "syn": "syn", "src 10.0.0.1": "src 10.0.0.1/32", "dst 10.0.0.1/0": "dst 10.0.0.1/0", "sport 0": "sport 0", "dport 65535": "dport 65535", "len 7": "len 7",
		"host 10.0.0.1": "(src 10.0.0.1/32 or dst 10.0.0.1/32)", "tcp and not port 80": "(tcp and not (sport 80 or dport 80))",
		"not not tcp or udp and syn": "(not not tcp or (udp and syn))", "tcp or udp or icmp": "((tcp or udp) or icmp)",
	} {
		f, e := Parse(s)
		if got := Print(f); got != want || e != api.OK {
			t.Errorf("%q: %q", s, got)
		}
	}
}

// chance answers a right filter by chance, with so many steps that put.
func chance(r *rand.Rand, n int) []Step {
	var f []Step
	switch {
	case n > 1:
		k := 1 + r.Intn(n-1)
		f = append(chance(r, k), chance(r, n-k)...)
		f = append(f, Step{Op: 11 + r.Intn(2)})
	default:
		op := 1 + r.Intn(10)
		s := Step{Op: op, Num: r.Intn(most(op) + 1)}
		if op == 5 || op == 6 {
			s.Addr = r.Uint32()
		}
		f = []Step{s}
	}
	if r.Intn(4) == 0 {
		f = append(f, Step{Op: 13})
	}
	return f
}

func TestPrintedIsRead(t *testing.T) {
	r := rand.New(rand.NewSource(45))
	read := 0
	for range 500 {
		f := chance(r, 1+r.Intn(20))
		if !Right(f) {
			t.Fatal(f)
		}
		s := Print(f)
		got, e := Parse(s)
		if e == api.ErrBig {
			continue
		}
		read++
		if e != api.OK || !slices.Equal(got, f) {
			t.Fatal(s, got, f, e)
		}
	}
	if read < 400 {
		t.Error(read)
	}
}

// TestWords has blanks wherever they may stand.
func TestWords(t *testing.T) {
	want, _ := Parse("not(tcp and(len 5))")
	for _, s := range []string{" not ( tcp and ( len 5 ) ) ", "not (tcp and (len  5))", "not( tcp   and(len 5) )"} {
		if got, e := Parse(s); e != api.OK || !slices.Equal(got, want) {
			t.Error(s, got, e)
		}
	}
}

// TestMatchSame has a filter, and what its text is read as, want the same packets.
func TestMatchSame(t *testing.T) {
	r := rand.New(rand.NewSource(46))
	p := segment(1, 80, api.SYN)
	b, _ := ipv4.Put(p)
	for range 200 {
		f := chance(r, 1+r.Intn(8))
		g, e := Parse(Print(f))
		if e == api.OK && Match(f, p) != Match(g, p) {
			t.Fatal(f, g)
		}
	}
	if c, _ := ipv4.Put(p); !slices.Equal(b, c) {
		t.Error("the packet is changed")
	}
}
