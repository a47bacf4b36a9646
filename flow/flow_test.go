package flow

import (
	"bytes"
	"math/rand"
	"slices"
	"testing"

	"linkboy/api"
	"linkboy/roomy"
)

// P11.1

func TestOf(t *testing.T) {
	for _, proto := range []byte{6, 17} {
		p := api.Packet{Proto: proto, Src: 0x01020304, Dst: 0xf5f6f7f8, DF: true, Options: []byte{1, 1, 1, 0}, Data: []byte{0xab, 0xcd, 0x12, 0x34}}
		want := api.Flow{Src: 0x01020304, Dst: 0xf5f6f7f8, SrcPort: 0xabcd, DstPort: 0x1234, Proto: proto}
		if got, e := Of(p); got != want || e != api.OK {
			t.Error(got, e)
		}
		p.Data = append(p.Data, 9, 9, 9)
		if got, e := Of(p); got != want || e != api.OK {
			t.Error("with more behind", got, e)
		}
	}
	if got, e := Of(api.Packet{Proto: 17, Data: make([]byte, 4)}); got != (api.Flow{Proto: 17}) || e != api.OK {
		t.Error("of zeros", got, e)
	}
}

func TestOfRefuses(t *testing.T) {
	four := []byte{1, 2, 3, 4}
	for _, c := range []struct {
		name string
		p    api.Packet
		want api.Errno
	}{
		{"a first fragment", api.Packet{Proto: 6, MF: true, Data: four}, api.ErrRange},
		{"a last fragment", api.Packet{Proto: 17, Off: 1, Data: four}, api.ErrRange},
		{"a fragment within", api.Packet{Proto: 17, MF: true, Off: 8191, Data: four}, api.ErrRange},
		{"a fragment of another protocol", api.Packet{Proto: 1, MF: true, Data: four}, api.ErrRange},
		{"a fragment of another protocol, and short", api.Packet{Proto: 1, Off: 5}, api.ErrRange},
		{"a short fragment", api.Packet{Proto: 6, Off: 5}, api.ErrRange},
		{"ICMP", api.Packet{Proto: 1, Data: four}, api.ErrForm},
		{"IPIP", api.Packet{Proto: 4, Data: four}, api.ErrForm},
		{"0", api.Packet{Data: four}, api.ErrForm},
		{"5", api.Packet{Proto: 5, Data: four}, api.ErrForm},
		{"7", api.Packet{Proto: 7, Data: four}, api.ErrForm},
		{"16", api.Packet{Proto: 16, Data: four}, api.ErrForm},
		{"18", api.Packet{Proto: 18, Data: four}, api.ErrForm},
		{"255", api.Packet{Proto: 255, Data: four}, api.ErrForm},
		{"ICMP, short", api.Packet{Proto: 1, Data: four[:3]}, api.ErrForm},
		{"nothing", api.Packet{Proto: 6}, api.ErrShort},
		{"3 bytes", api.Packet{Proto: 6, Src: 1, Dst: 2, Data: four[:3]}, api.ErrShort},
		{"3 bytes of UDP", api.Packet{Proto: 17, Src: 1, Dst: 2, Data: four[:3]}, api.ErrShort},
	} {
		if got, e := Of(c.p); got != (api.Flow{}) || e != c.want {
			t.Errorf("%s: %v %d", c.name, got, e)
		}
	}
}

func TestOfKeepsData(t *testing.T) {
	data := roomy.Bytes(1, 2, 3, 4, 5)
	Of(api.Packet{Proto: 6, Data: data})
	if !roomy.Untouched(data, 1, 2, 3, 4, 5) {
		t.Error("what was handed in is changed")
	}
}

// P11.2

func TestBack(t *testing.T) {
	f := api.Flow{Src: 1, Dst: 2, SrcPort: 10, DstPort: 20, Proto: 6}
	if got := Back(f); got != (api.Flow{Src: 2, Dst: 1, SrcPort: 20, DstPort: 10, Proto: 6}) {
		t.Error(got)
	}
	if got := Back(Back(f)); got != f {
		t.Error(got)
	}
	if got := Back(api.Flow{Src: 1, Dst: 1, SrcPort: 3, DstPort: 3, Proto: 99}); got != (api.Flow{Src: 1, Dst: 1, SrcPort: 3, DstPort: 3, Proto: 99}) {
		t.Error(got)
	}
}

func TestBytes(t *testing.T) {
	f := api.Flow{Src: 0x01020304, Dst: 0xf5f6f7f8, SrcPort: 0xabcd, DstPort: 0x1234, Proto: 17}
	if got := Bytes(f); !bytes.Equal(got, []byte{1, 2, 3, 4, 0xf5, 0xf6, 0xf7, 0xf8, 0xab, 0xcd, 0x12, 0x34, 17}) {
		t.Errorf("% x", got)
	}
	if got := Bytes(api.Flow{}); !bytes.Equal(got, make([]byte, 13)) {
		t.Errorf("% x", got)
	}
}

// TestCompare goes through flows that stand in their order.
func TestCompare(t *testing.T) {
	l := []api.Flow{
		{},
		{Proto: 1},
		{Proto: 255},
		{DstPort: 1},
		{DstPort: 0x00ff, Proto: 255},
		{DstPort: 0x0100},
		{DstPort: 0xffff, Proto: 255},
		{SrcPort: 1},
		{SrcPort: 0x00ff, DstPort: 7},
		{SrcPort: 0x0100, DstPort: 6},
		{Dst: 1},
		{Dst: 0x000000ff, SrcPort: 0xffff},
		{Dst: 0x00000100},
		{Dst: 0x7fffffff},
		{Dst: 0x80000000},
		{Src: 1},
		{Src: 0x00ffffff, Dst: 0xffffffff, SrcPort: 0xffff, DstPort: 0xffff, Proto: 255},
		{Src: 0x01000000},
		{Src: 0x7fffffff},
		{Src: 0xffffffff},
	}
	for i, a := range l {
		for j, b := range l {
			want := 0
			if i < j {
				want = -1
			}
			if i > j {
				want = 1
			}
			if got := Compare(a, b); got != want {
				t.Errorf("%v, %v: %d", a, b, got)
			}
		}
	}
}

func TestOthersHaveOtherBytes(t *testing.T) {
	r := rand.New(rand.NewSource(11))
	few := func() uint32 { return uint32(r.Intn(3)) << (8 * r.Intn(4)) }
	for range 20000 {
		a := api.Flow{Src: few(), Dst: few(), SrcPort: uint16(few()), DstPort: uint16(few()), Proto: byte(few())}
		b := a
		switch r.Intn(6) {
		case 0:
			b.Src = few()
		case 1:
			b.Dst = few()
		case 2:
			b.SrcPort = uint16(few())
		case 3:
			b.DstPort = uint16(few())
		case 4:
			b.Proto = byte(few())
		case 5:
			b = Back(a)
		}
		same := slices.Equal(Bytes(a), Bytes(b))
		if same != (a == b) || (Compare(a, b) == 0) != same || Compare(a, b) != -Compare(b, a) {
			t.Errorf("%v, %v: %d", a, b, Compare(a, b))
		}
	}
}
