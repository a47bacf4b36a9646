package script

import (
	"bytes"
	"math"
	"math/rand"
	"reflect"
	"slices"
	"strings"
	"testing"

	"linkboy/api"
	"linkboy/arp"
	"linkboy/count"
	"linkboy/ether"
	"linkboy/host"
	"linkboy/roomy"
)

func conf() api.Config {
	return api.Config{
		Macs: [2]api.Mac{{2, 0, 0, 0, 0, 1}, {2, 0, 0, 0, 0, 2}}, Addrs: [2]uint32{0x0a000001, 0x0a010001}, Bits: [2]int{24, 24}, Gateway: 0x0a0000fe, MTU: 1500,
		Hash: api.Key{Lo: 1, Hi: 2}, Control: api.Key{Lo: 3, Hi: 4}, Listen: 7000, Prime: 13, Flows: 8, Ring: 8, Bufs: 64, Cache: 8, Queue: 8,
		Age: 100, Retry: 2, Tries: 3, Opening: 5, Open: 30, Closing: 4, Loose: 10, Interval: 3, Timeout: 2, Rise: 2, Fall: 2,
	}
}

// steps are steps, and the lines that they are.
func steps() map[string]api.Act {
	return map[string]api.Act{
		"frame 0 -":    {Kind: api.ActFrame},
		"frame 1 ab05": {Kind: api.ActFrame, Nic: 1, Frame: []byte{171, 5}},
		"poll 0 0":     {Kind: api.ActPoll},
		"poll 1 4095":  {Kind: api.ActPoll, Nic: 1, N: 4095},
		"done 0 64":    {Kind: api.ActDone, N: 64},
		"done 1 10":    {Kind: api.ActDone, Nic: 1, N: 10},
		"tick 5":       {Kind: api.ActTick, N: 5},
		"tick 0":       {Kind: api.ActTick},
		"tick 4095":    {Kind: api.ActTick, N: 4095},
		"secret 0000000000000001 00000000000000ff": {Kind: api.ActSecret, Key: api.Key{Lo: 1, Hi: 255}},
		"secret fedcba9876543210 ffffffffffffffff": {Kind: api.ActSecret, Key: api.Key{Lo: 0xfedcba9876543210, Hi: math.MaxUint64}},
		"secret 0000000000000000 0000000000000000": {Kind: api.ActSecret},
		"frame 0 " + strings.Repeat("00", 1600):    {Kind: api.ActFrame, Frame: make([]byte, 1600)},
	}
}

// wrong answers steps that may not be written.
func wrong() []api.Act {
	key := api.Key{Hi: 1}
	return []api.Act{
		{}, {Kind: -1}, {Kind: 6}, {Kind: 6, N: 1},
		{Kind: api.ActFrame, Nic: 2}, {Kind: api.ActFrame, Nic: -1}, {Kind: api.ActFrame, N: 1}, {Kind: api.ActFrame, Key: key}, {Kind: api.ActFrame, Frame: make([]byte, 1601)},
		{Kind: api.ActPoll, Nic: 2}, {Kind: api.ActPoll, N: -1}, {Kind: api.ActPoll, N: 4096}, {Kind: api.ActPoll, Frame: []byte{1}}, {Kind: api.ActPoll, Key: key},
		{Kind: api.ActDone, Nic: -1}, {Kind: api.ActDone, N: math.MaxInt}, {Kind: api.ActDone, Frame: []byte{1}}, {Kind: api.ActDone, Key: key},
		{Kind: api.ActTick, Nic: 1}, {Kind: api.ActTick, N: -1}, {Kind: api.ActTick, N: 4096}, {Kind: api.ActTick, Frame: []byte{1}}, {Kind: api.ActTick, Key: key},
		{Kind: api.ActSecret, Nic: 1, Key: key}, {Kind: api.ActSecret, N: 1}, {Kind: api.ActSecret, Frame: []byte{1}},
	}
}

// same tells whether steps are the same.
func same(a, b api.Act) bool {
	return a.Kind == b.Kind && a.Nic == b.Nic && a.N == b.N && bytes.Equal(a.Frame, b.Frame) && a.Key == b.Key
}

// P41.1

func TestLine(t *testing.T) {
	for want, a := range steps() {
		if got := Line(a); got != want {
			t.Errorf("%q in place of %q", got, want)
		}
	}
	if got := Line(api.Act{Kind: api.ActTick, N: 1, Frame: []byte{}}); got != "tick 1" {
		t.Error(got)
	}
	for _, a := range wrong() {
		if got := Line(a); got != "" {
			t.Error(a, got)
		}
	}
	a := api.Act{Kind: api.ActFrame, Frame: roomy.Bytes(1, 2)}
	if Line(a); !roomy.Untouched(a.Frame, 1, 2) {
		t.Error("the frame is changed")
	}
}

func TestRead(t *testing.T) {
	for s, want := range steps() {
		if got, e := Read(s); e != api.OK || !same(got, want) {
			t.Error(s, got, e)
		}
	}
	for _, s := range []string{
		"", " ", "frame", "frame 0", "frame 0 ", "frame 0 a", "frame 0 AB", "frame 0 ab ", "frame 0 ab cd", "frame 2 ab", "frame -1 ab", "frame 00 ab", "frame  0 ab", "frame 0  ab", "frame 0 --", "frame 0 -ab", "frame 0 zz",
		" tick 5", "tick 5 ", "tick", "tick ", "tick 05", "tick +5", "tick -5", "tick 4096", "tick 18446744073709551616", "tick 18446744073709551621", "tick x", "tick ٥", "tick 5\n", "Tick 5", "tick\t5", "tick 5 5", "tick 1.0", "tick 0x5",
		"poll", "poll 0", "poll 0 ", "poll 2 1", "poll 0 4096", "poll 0 -1", "poll 0 1 1", "poll 0 01", "done 1", "done 1 5 ", "done a 5", "done 1 b",
		"secret", "secret 1 2", "secret 0000000000000001", "secret 0000000000000001 ", "secret 000000000000001 00000000000000ff", "secret 0000000000000001 00000000000000fF", "secret 0000000000000001 00000000000000ff00", "secret 0000000000000001 00000000000000ff 0", "secret 000000000000000g 0000000000000000",
		"#", "# tick 5", "stats", "\xff", "tick \xff", "frame 0 " + strings.Repeat("00", 1601),
	} {
		if got, e := Read(s); e != api.ErrForm || !same(got, api.Act{}) {
			t.Errorf("%q: %v %v", s, got, e)
		}
	}
}

// P41.2

func TestText(t *testing.T) {
	l := []api.Act{{Kind: api.ActTick, N: 5}, {Kind: api.ActFrame}}
	if got, e := Text(l); got != "tick 5\nframe 0 -\n" || e != api.OK {
		t.Error(got, e)
	}
	if got, e := Text(nil); got != "" || e != api.OK {
		t.Error(got, e)
	}
	many := slices.Repeat(l, 200)
	if got, e := Text(many); got != strings.Repeat("tick 5\nframe 0 -\n", 200) || e != api.OK {
		t.Error(len(got), e)
	}
	if got, e := Text(append(many, l[0])); got != "" || e != api.ErrBig {
		t.Error(len(got), e)
	}
	for _, a := range wrong() {
		for _, l := range [][]api.Act{{l[0], a}, append(slices.Clone(many), a), append(slices.Clone(many), l[0], l[0], a)} {
			if got, e := Text(l); got != "" || e != api.ErrArg {
				t.Error(a, got, e)
			}
		}
	}
}

func TestParse(t *testing.T) {
	tick := api.Act{Kind: api.ActTick, N: 5}
	many := strings.Repeat("tick 5\n", 400)
	for _, x := range []struct {
		s    string
		want []api.Act
		at   int
		e    api.Errno
	}{
		{"", nil, 0, api.OK},
		{"\n", nil, 0, api.OK},
		{"\n\n#\n# no step\n#tick 5", nil, 0, api.OK},
		{"tick 5", []api.Act{tick}, 0, api.OK},
		{"tick 5\n", []api.Act{tick}, 0, api.OK},
		{"\ntick 5\n\n#x\nframe 0 -\n", []api.Act{tick, {Kind: api.ActFrame}}, 0, api.OK},
		{"tick 5\nx", nil, 2, api.ErrForm},
		{"x", nil, 1, api.ErrForm},
		{"#\n\ntick 5\n #\nx\n", nil, 4, api.ErrForm},
		{"tick 5\r\n", nil, 1, api.ErrForm},
		{"tick 5\n ", nil, 2, api.ErrForm},
		{many, slices.Repeat([]api.Act{tick}, 400), 0, api.OK},
		{many + "\n#\n", slices.Repeat([]api.Act{tick}, 400), 0, api.OK},
		{many + "\n#\ntick 1", nil, 403, api.ErrBig},
		{many + "tick 1\nx", nil, 401, api.ErrBig},
		{many + "x\ntick 1", nil, 401, api.ErrForm},
		{"x\n" + many + "tick 1", nil, 1, api.ErrForm},
	} {
		got, at, e := Parse(x.s)
		if !slices.EqualFunc(got, x.want, same) || at != x.at || e != x.e {
			t.Error(len(x.s), len(got), at, e)
		}
	}
}

// P41.3

// ask answers the frame by which one asks for card 0's address.
func ask() []byte {
	mac := api.Mac{2, 9, 0, 0, 0, 1}
	return ether.Put(arp.Frame(arp.Ask(mac, 0x0a000009, 0x0a000001), ether.All()))
}

func TestPlay(t *testing.T) {
	l := []api.Act{{Kind: api.ActFrame, Frame: ask()}, {Kind: api.ActPoll, N: 65}, {Kind: api.ActPoll, N: 64}, {Kind: 9}, {Kind: api.ActTick, N: 3}}
	got, e := Play(conf(), l)
	if e != api.OK || !slices.Equal(got.Codes, []api.Errno{0, api.ErrArg, 0, api.ErrArg, 0}) || len(got.Sent) != 1 || got.Sent[0].Nic != 0 {
		t.Error(got, e)
	}
	want := count.Add(count.Add(count.Counts{}, api.CntIn), api.CntOut)
	if got.Counts != want {
		t.Error(got.Counts)
	}
	h, _ := host.New(conf())
	for _, a := range l {
		h.Do(a)
	}
	if !reflect.DeepEqual(h.Sent(), got.Sent) {
		t.Error(got.Sent)
	}
	if got, e := Play(conf(), nil); e != api.OK || len(got.Codes) != 0 || len(got.Sent) != 0 || got.Counts != (count.Counts{}) {
		t.Error(got, e)
	}
}

// nothing tells whether an answer is the zero one.
func nothing(p Played) bool {
	return len(p.Codes) == 0 && len(p.Sent) == 0 && p.Counts == count.Counts{}
}

func TestPlayOfNone(t *testing.T) {
	many := slices.Repeat([]api.Act{{Kind: api.ActTick, N: 1}}, 400)
	if got, e := Play(conf(), many); e != api.OK || len(got.Codes) != 400 {
		t.Error(e)
	}
	many = append(many, many[0])
	if got, e := Play(conf(), many); e != api.ErrBig || !nothing(got) {
		t.Error(e)
	}
	if got, e := Play(api.Config{}, many); e != api.ErrArg || !nothing(got) {
		t.Error(e)
	}
	if got, e := Play(api.Config{}, nil); e != api.ErrArg || !nothing(got) {
		t.Error(e)
	}
}

func TestRun(t *testing.T) {
	l := []api.Act{{Kind: api.ActFrame, Frame: ask()}, {Kind: api.ActPoll, N: 1}, {Kind: api.ActPoll, N: 99}}
	s, _ := Text(l)
	want, _ := Play(conf(), l)
	if got, e := Run(conf(), "# begin\n\n"+s); e != api.OK || !reflect.DeepEqual(got, want) || len(got.Sent) != 1 {
		t.Error(got, e)
	}
	for _, x := range []struct {
		c api.Config
		s string
		e api.Errno
	}{{conf(), "x", api.ErrForm}, {api.Config{}, "x", api.ErrForm}, {api.Config{}, "tick 1", api.ErrArg}, {conf(), strings.Repeat("tick 1\n", 401), api.ErrBig}} {
		if got, e := Run(x.c, x.s); e != x.e || !nothing(got) {
			t.Error(x.s, e)
		}
	}
}

// P41.4

// chance answers a step by chance.
func chance(r *rand.Rand) api.Act {
	b := make([]byte, r.Intn(40))
	r.Read(b)
	switch k := 1 + r.Intn(5); k {
	case api.ActFrame:
		return api.Act{Kind: k, Nic: r.Intn(2), Frame: b}
	case api.ActTick:
		return api.Act{Kind: k, N: r.Intn(4096)}
	case api.ActSecret:
		return api.Act{Kind: k, Key: api.Key{Lo: r.Uint64(), Hi: r.Uint64()}}
	default:
		return api.Act{Kind: k, Nic: r.Intn(2), N: r.Intn(4096)}
	}
}

func TestWrittenIsRead(t *testing.T) {
	r := rand.New(rand.NewSource(41))
	for range 100 {
		var l []api.Act
		for range r.Intn(400) {
			l = append(l, chance(r))
		}
		s, e := Text(l)
		got, at, e2 := Parse(s)
		if e != api.OK || e2 != api.OK || at != 0 || !slices.EqualFunc(got, l, same) {
			t.Fatal(e, e2, at)
		}
	}
}

func TestPlayedAgain(t *testing.T) {
	r := rand.New(rand.NewSource(42))
	var l []api.Act
	for range 130 {
		l = append(l, api.Act{Kind: api.ActFrame, Frame: ask()}, api.Act{Kind: api.ActPoll, N: 1}, chance(r))
	}
	one, e := Play(conf(), l)
	two, e2 := Play(conf(), l)
	if e != api.OK || e2 != api.OK || !reflect.DeepEqual(one, two) || len(one.Sent) == 0 {
		t.Error(e, e2)
	}
}
