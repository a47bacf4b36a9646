package errs

import (
	"bytes"
	"math"
	"reflect"
	"testing"

	"linkboy/api"
	"linkboy/icmp"
	"linkboy/ipv4"
	"linkboy/octet"
	"linkboy/roomy"
)

// P30.1

func TestReply(t *testing.T) {
	for _, m := range []api.Icmp{{}, icmp.Ask(1, 2, []byte{3, 4}), {Type: 3, Code: 4, Rest: 1400, Data: []byte{9}}} {
		want := api.Packet{DF: true, TTL: 64, Proto: 1, Src: 5, Dst: 6, Data: icmp.Put(m)}
		if got := Reply(5, 6, m); !reflect.DeepEqual(got, want) {
			t.Error(m, got)
		}
	}
	if got := Reply(0, 0, icmp.Ask(1, 2, nil)); !bytes.Equal(got.Data, []byte{8, 0, 247, 252, 0, 1, 0, 2}) {
		t.Error(got)
	}
}

func TestEcho(t *testing.T) {
	p := api.Packet{TOS: 9, ID: 8, MF: true, Off: 7, TTL: 3, Proto: 1, Src: 5, Dst: 6, Options: []byte{1, 1, 1, 1}, Data: []byte{2}}
	m := icmp.Ask(300, 400, []byte{1, 2, 3})
	want := api.Packet{DF: true, TTL: 64, Proto: 1, Src: 6, Dst: 5, Data: icmp.Put(api.Icmp{Rest: 300<<16 + 400, Data: []byte{1, 2, 3}})}
	if got, ok := Echo(p, m); !ok || !reflect.DeepEqual(got, want) {
		t.Error(got, ok)
	}
	for typ := range 256 {
		for _, code := range []byte{0, 1, 255} {
			m.Type, m.Code = byte(typ), code
			got, ok := Echo(p, m)
			if ok != (typ == 8 && code == 0) || !ok && !reflect.DeepEqual(got, api.Packet{}) {
				t.Error(typ, code, got, ok)
			}
		}
	}
}

func TestEchoIsApart(t *testing.T) {
	m := icmp.Ask(1, 2, nil)
	m.Data = roomy.Bytes(3, 4)
	got, _ := Echo(api.Packet{}, m)
	if !roomy.Untouched(m.Data, 3, 4) || !roomy.Apart(got.Data, m.Data) {
		t.Error("the answer is shared")
	}
}

// P30.2

func conf() api.Config {
	return api.Config{Addrs: [2]uint32{100, 200}, MTU: 1500}
}

// great answers a packet whose sender can be told.
func great() api.Packet {
	return api.Packet{TOS: 9, ID: 8, DF: true, TTL: 7, Proto: 6, Src: 5, Dst: 6, Data: []byte{1, 2, 3, 4, 5, 6, 7, 8, 9, 10}}
}

func put(p api.Packet) []byte {
	b, _ := ipv4.Put(p)
	return b
}

func TestTooBig(t *testing.T) {
	for _, n := range []int{0, 1, 7, 8, 9, 1480} {
		for _, options := range [][]byte{nil, {1, 1, 1, 0}, make([]byte, 40)} {
			p := great()
			p.Data, p.Options = bytes.Repeat([]byte{66}, n), options
			b := put(p)
			m := api.Icmp{Type: 3, Code: 4, Rest: 1480, Data: b[:min(len(b), 28)]}
			want := api.Packet{DF: true, TTL: 64, Proto: 1, Src: 100, Dst: 5, Data: icmp.Put(m)}
			if got, ok := TooBig(conf(), octet.Join(b, []byte{9, 9, 9}), 1480); !ok || !reflect.DeepEqual(got, want) {
				t.Error(n, got, ok)
			}
		}
	}
}

func TestTooBigRest(t *testing.T) {
	for mtu, want := range map[int]uint32{0: 0, 1500: 1500, -1: math.MaxUint32, 1 << 32: 0, 1<<32 + 7: 7} {
		got, ok := TooBig(conf(), put(great()), mtu)
		if m, e := icmp.Parse(got.Data); !ok || e != api.OK || m.Rest != want || m.Type != 3 || m.Code != 4 {
			t.Error(mtu, m, e)
		}
	}
}

func TestTooBigNot(t *testing.T) {
	b := put(great())
	soft := great()
	soft.DF = false
	wrong := octet.Join(b)
	wrong[1]++
	for i, b := range [][]byte{nil, b[:19], b[:len(b)-1], wrong, make([]byte, 40), put(soft)} {
		if got, ok := TooBig(conf(), b, 1480); ok || !reflect.DeepEqual(got, api.Packet{}) {
			t.Error(i, got, ok)
		}
	}
}

// TestTooBigOfMessages has each protocol, and each type.
func TestTooBigOfMessages(t *testing.T) {
	for proto := range 256 {
		for typ := range 256 {
			p := great()
			p.Proto, p.Data[0] = byte(proto), byte(typ)
			got, ok := TooBig(conf(), put(p), 1480)
			if ok != (proto != 1 || typ == 0 || typ == 8) || !ok && !reflect.DeepEqual(got, api.Packet{}) {
				t.Fatal(proto, typ, got, ok)
			}
		}
		p := great()
		p.Proto, p.Data = byte(proto), nil
		// What stands behind isn't its data.
		got, ok := TooBig(conf(), octet.Join(put(p), []byte{8, 0, 0, 0}), 1480)
		if ok != (proto != 1) || !ok && !reflect.DeepEqual(got, api.Packet{}) {
			t.Fatal(proto, got, ok)
		}
	}
	p := great()
	p.Proto, p.MF, p.Off, p.TTL, p.Data = 1, true, 9, 0, []byte{8}
	if _, ok := TooBig(conf(), put(p), 1480); !ok {
		t.Error("of a piece")
	}
}

func TestTooBigIsApart(t *testing.T) {
	raw := put(great())
	b := roomy.Bytes(raw...)
	got, ok := TooBig(conf(), b, 1480)
	if !ok || !roomy.Untouched(b, raw...) || !roomy.Apart(got.Data, b) {
		t.Error("the packet is shared, or changed")
	}
}
