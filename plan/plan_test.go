package plan

import (
	"math"
	"math/rand"
	"reflect"
	"slices"
	"strings"
	"testing"

	"linkboy/api"
	"linkboy/farm"
)

const at = 0x0a000050

// orders are orders, and the lines that they are.
func orders() map[string]api.Order {
	return map[string]api.Order{
		"vip 1 10.0.0.80:80 tcp direct":         {Op: api.OrderVip, Id: 1, Addr: at, Port: 80, Proto: 6, Num: 1},
		"vip 65535 0.0.0.0:0 udp proxy":         {Op: api.OrderVip, Id: 65535, Proto: 17, Num: 2},
		"vip 0 255.255.255.255:65535 tcp proxy": {Op: api.OrderVip, Addr: math.MaxUint32, Port: 65535, Proto: 6, Num: 2},
		"backend 11 1 10.0.0.80 weight 3":       {Op: api.OrderAdd, Id: 11, Vip: 1, Addr: at, Num: 3},
		"backend 65535 255 0.0.0.0 weight 255":  {Op: api.OrderAdd, Id: 65535, Vip: 255, Num: 255},
		"backend 0 0 0.0.0.0 weight 0":          {Op: api.OrderAdd},
		"remove 5":                              {Op: api.OrderRemove, Id: 5},
		"remove 0":                              {Op: api.OrderRemove},
		"drain 65535":                           {Op: api.OrderDrain, Id: 65535},
		"weight 5 8":                            {Op: api.OrderWeight, Id: 5, Num: 8},
		"weight 0 255":                          {Op: api.OrderWeight, Num: 255},
		"mode 5 direct":                         {Op: api.OrderMode, Id: 5, Num: 1},
		"mode 99 proxy":                         {Op: api.OrderMode, Id: 99, Num: 2},
		"stats":                                 {Op: api.OrderStats},
	}
}

// wrong answers orders that may not be written.
func wrong() []api.Order {
	vip := api.Order{Op: api.OrderVip, Id: 1, Addr: at, Port: 80, Proto: 6, Num: 1}
	back := api.Order{Op: api.OrderAdd, Id: 1, Vip: 1, Addr: at, Num: 1}
	l := []api.Order{{}, {Op: -1}, {Op: 8}, {Op: math.MaxInt}, {Op: math.MinInt}}
	for _, x := range []struct {
		o      api.Order
		change func(o *api.Order)
	}{
		{vip, func(o *api.Order) { o.Num = 0 }}, {vip, func(o *api.Order) { o.Num = 3 }}, {vip, func(o *api.Order) { o.Num = -1 }}, {vip, func(o *api.Order) { o.Proto = 0 }}, {vip, func(o *api.Order) { o.Proto = 1 }}, {vip, func(o *api.Order) { o.Proto = 255 }},
		{vip, func(o *api.Order) { o.Id = -1 }}, {vip, func(o *api.Order) { o.Id = 65536 }}, {vip, func(o *api.Order) { o.Vip = 1 }}, {vip, func(o *api.Order) { o.Count = 1 }},
		{back, func(o *api.Order) { o.Vip = -1 }}, {back, func(o *api.Order) { o.Vip = 256 }}, {back, func(o *api.Order) { o.Num = 256 }}, {back, func(o *api.Order) { o.Num = -1 }}, {back, func(o *api.Order) { o.Id = 65536 }},
		{back, func(o *api.Order) { o.Port = 1 }}, {back, func(o *api.Order) { o.Proto = 6 }}, {back, func(o *api.Order) { o.Count = 1 }},
	} {
		x.change(&x.o)
		l = append(l, x.o)
	}
	for op := api.OrderRemove; op <= api.OrderStats; op++ {
		num := 0
		if op == api.OrderWeight || op == api.OrderMode {
			num = 1
		}
		l = append(l, api.Order{Op: op, Num: num, Vip: 1}, api.Order{Op: op, Num: num, Addr: 1}, api.Order{Op: op, Num: num, Port: 1}, api.Order{Op: op, Num: num, Proto: 6}, api.Order{Op: op, Num: num, Count: 1}, api.Order{Op: op, Num: num, Id: 65536}, api.Order{Op: op, Num: num, Id: -1})
	}
	l = append(l, api.Order{Op: api.OrderRemove, Num: 1}, api.Order{Op: api.OrderDrain, Num: 1}, api.Order{Op: api.OrderStats, Num: 1}, api.Order{Op: api.OrderStats, Id: 1})
	return append(l, api.Order{Op: api.OrderWeight, Num: 256}, api.Order{Op: api.OrderWeight, Num: -1}, api.Order{Op: api.OrderMode}, api.Order{Op: api.OrderMode, Num: 3}, api.Order{Op: api.OrderMode, Num: -1})
}

// P47.1

func TestLine(t *testing.T) {
	for want, o := range orders() {
		if got := Line(o); got != want {
			t.Errorf("%q in place of %q", got, want)
		}
	}
	for _, o := range wrong() {
		if got := Line(o); got != "" {
			t.Errorf("%v: %q", o, got)
		}
	}
}

func TestRead(t *testing.T) {
	for s, want := range orders() {
		if got, e := Read(s); e != api.OK || got != want {
			t.Error(s, got, e)
		}
	}
	for _, s := range []string{
		"", " ", "vip", "vip 1", "vip 1 10.0.0.80:80", "vip 1 10.0.0.80:80 tcp", "vip 1 10.0.0.80:80 tcp ", "vip 1 10.0.0.80:80 tcp direct ", "vip 1 10.0.0.80:80 tcp direct 1", " vip 1 10.0.0.80:80 tcp direct", "vip  1 10.0.0.80:80 tcp direct",
		"vip 1 10.0.0.80 tcp direct", "vip 1 10.0.0.80: tcp direct", "vip 1 10.0.0.80:080 tcp direct", "vip 1 10.0.0.80:65536 tcp direct", "vip 1 10.0.0.80:80:80 tcp direct", "vip 1 10.0.0.080:80 tcp direct", "vip 1 :80 tcp direct", "vip 1 10.0.0.80 :80 tcp direct",
		"vip 1 10.0.0.80:80 icmp direct", "vip 1 10.0.0.80:80 6 direct", "vip 1 10.0.0.80:80  direct", "vip 1 10.0.0.80:80 tcp 1", "vip 1 10.0.0.80:80 tcp other", "vip 1 10.0.0.80:80 TCP direct", "vip 65536 10.0.0.80:80 tcp direct", "vip 01 10.0.0.80:80 tcp direct", "vip -1 10.0.0.80:80 tcp direct", "vip x 10.0.0.80:80 tcp direct",
		"backend", "backend 1 1 10.0.0.80", "backend 1 1 10.0.0.80 3", "backend 1 1 10.0.0.80 weight", "backend 1 1 10.0.0.80 weight ", "backend 1 1 10.0.0.80 weight 256", "backend 1 256 10.0.0.80 weight 1", "backend 65536 1 10.0.0.80 weight 1", "backend 1 1 10.0.0.80:80 weight 1", "backend 1 1 10.0.0.80 Weight 1", "backend 1 1 10.0.0.80 weight 1 1", "backend 1 1 weight 1",
		"remove", "remove ", "remove x", "remove 5 5", "remove 05", "remove 65536", "remove 18446744073709551621", "remove -5", "Remove 5", "drain", "drain 5 ", "drain\t5", "drain 5\n",
		"weight", "weight 5", "weight 5 256", "weight 5 08", "weight 5 8 8", "weight x 8", "mode 5", "mode 5 1", "mode 5 Direct", "mode 5 ", "mode direct", "mode 5 direct ", "stats ", " stats", "stats 1", "stats\n", "Stats", "other", "other 1", "# stats", "\xff", "remove \xff", "remove ٥",
	} {
		if got, e := Read(s); e != api.ErrForm || got != (api.Order{}) {
			t.Errorf("%q: %v %v", s, got, e)
		}
	}
}

// P47.2

// counted answers orders with counts.
func counted(l ...api.Order) []api.Order {
	for i := range l {
		l[i].Count = uint64(i) + 1
	}
	return l
}

func TestParse(t *testing.T) {
	stats, drain := api.Order{Op: api.OrderStats}, api.Order{Op: api.OrderDrain, Id: 5}
	for _, x := range []struct {
		s    string
		want []api.Order
		at   int
		e    api.Errno
	}{
		{"", nil, 0, api.OK},
		{"\n\n\n", nil, 0, api.OK},
		{"stats", counted(stats), 0, api.OK},
		{"\nstats\n\n\ndrain 5\nstats\n", counted(stats, drain, stats), 0, api.OK},
		{"stats\ndrain 5", counted(stats, drain), 0, api.OK},
		{"stats\n drain 5", nil, 2, api.ErrForm},
		{"x", nil, 1, api.ErrForm},
		{"\n\nstats\n\nx\ny\n", nil, 5, api.ErrForm},
		{"stats\n# no order\n", nil, 2, api.ErrForm},
		{"stats\r\n", nil, 1, api.ErrForm},
		{"stats\n ", nil, 2, api.ErrForm},
		{strings.Repeat("\n", 4000), nil, 0, api.OK},
		{strings.Repeat("\n", 4001), nil, 0, api.ErrBig},
		{strings.Repeat("x", 4000), nil, 1, api.ErrForm},
		{strings.Repeat("x", 4001), nil, 0, api.ErrBig},
		{strings.Repeat("stats\n", 666), counted(slices.Repeat([]api.Order{stats}, 666)...), 0, api.OK},
	} {
		if got, at, e := Parse(x.s); !slices.Equal(got, x.want) || at != x.at || e != x.e {
			t.Errorf("%.40q: %v %v %v", x.s, got, at, e)
		}
	}
}

// P47.3

// usual answers a farm, and its lines.
func usual() (api.Farm, string) {
	return api.Farm{
		Vips: []api.Vip{{Id: 1, Addr: at, Port: 80, Proto: 6, Mode: 1}, {Id: 7, Addr: at, Port: 53, Proto: 17, Mode: 1}, {Id: 99, Addr: at, Port: 443, Proto: 6, Mode: 2}},
		Backends: []api.Backend{
			{Id: 2, Vip: 7, Addr: at + 2, Weight: 8, Life: api.Draining},
			{Id: 11, Vip: 1, Addr: at + 1, Weight: 1, Life: api.Serving, Up: true},
			{Id: 999, Vip: 99, Addr: at + 1, Weight: 3, Life: api.Draining, Up: true},
		},
	}, "vip 1 10.0.0.80:80 tcp direct\nvip 7 10.0.0.80:53 udp direct\nvip 99 10.0.0.80:443 tcp proxy\n" +
		"backend 2 7 10.0.0.82 weight 8\nbackend 11 1 10.0.0.81 weight 1\nbackend 999 99 10.0.0.81 weight 3\ndrain 2\ndrain 999\n"
}

func TestWrite(t *testing.T) {
	f, want := usual()
	if got := Write(f); got != want {
		t.Error(got)
	}
	if got := Write(api.Farm{}); got != "" {
		t.Error(got)
	}
	f.Backends[1].Weight = 9
	if got := Write(f); got != "" {
		t.Error(got)
	}
	f, _ = usual()
	f.Vips[1].Mode = 2
	if got := Write(f); got != "" {
		t.Error(got)
	}
}

// same tells whether farms are the same, whatever lists are empty.
func same(a, b api.Farm) bool {
	return slices.Equal(a.Vips, b.Vips) && slices.Equal(a.Backends, b.Backends)
}

func TestLoad(t *testing.T) {
	want, s := usual()
	for i := range want.Backends {
		want.Backends[i].Up = false
	}
	if got, e := Load(s); e != api.OK || !same(got, want) {
		t.Error(got, e)
	}
	if got, e := Load(s + "stats\nremove 2\n\nmode 1 proxy\nweight 11 4\n"); e != api.OK || len(got.Backends) != 2 || got.Vips[0].Mode != 2 || got.Backends[0].Weight != 4 {
		t.Error(got, e)
	}
	for _, x := range []struct {
		s string
		e api.Errno
	}{
		{"", api.OK}, {"\n\nstats", api.OK},
		{s + "x", api.ErrForm}, {"remove 5\nx", api.ErrForm}, {strings.Repeat("x", 4001), api.ErrBig}, {strings.Repeat("remove 5\n", 445), api.ErrBig},
		{"remove 5\nvip 0 0.0.0.0:0 tcp direct", api.ErrNone}, {"vip 0 0.0.0.0:0 tcp direct\nremove 5", api.ErrArg}, {s + "vip 1 10.0.0.80:81 tcp direct", api.ErrThere}, {s + "mode 7 proxy", api.ErrArg}, {s + "weight 2 9", api.ErrArg}, {"backend 1 1 10.0.0.1 weight 1", api.ErrNone},
	} {
		if got, e := Load(x.s); e != x.e || !same(got, api.Farm{}) {
			t.Errorf("%.40q: %v %v", x.s, got, e)
		}
	}
}

// P47.4

func TestWrittenIsLoaded(t *testing.T) {
	r := rand.New(rand.NewSource(47))
	for range 300 {
		var f api.Farm
		for range r.Intn(6) {
			f, _ = farm.AddVip(f, api.Vip{Id: 1 + r.Intn(99), Addr: r.Uint32(), Port: uint16(r.Uint32()), Proto: []byte{6, 17}[r.Intn(2)], Mode: 1 + r.Intn(2)})
		}
		for range r.Intn(20) {
			id := 1 + r.Intn(999)
			if len(f.Vips) > 0 {
				f, _ = farm.AddBackend(f, api.Backend{Id: id, Vip: f.Vips[r.Intn(len(f.Vips))].Id, Addr: r.Uint32(), Weight: 1 + r.Intn(8)})
			}
			if r.Intn(3) == 0 {
				f, _ = farm.Drain(f, id)
			}
			f, _ = farm.Set(f, id, r.Intn(2) == 0)
		}
		before := api.Farm{Vips: slices.Clone(f.Vips), Backends: slices.Clone(f.Backends)}
		s := Write(f)
		if !reflect.DeepEqual(f, before) {
			t.Fatal("the farm is changed")
		}
		for _, b := range f.Backends {
			f, _ = farm.Set(f, b.Id, false)
		}
		if got, e := Load(s); e != api.OK || !same(got, f) {
			t.Fatal(s, got, f, e)
		}
	}
}

// TestFull has as many Vips and backends as may be, of the longest lines.
func TestFull(t *testing.T) {
	var f api.Farm
	for i := range 4 {
		f.Vips = append(f.Vips, api.Vip{Id: 96 + i, Addr: 0xdffffffa, Port: uint16(65530 + i), Proto: 6, Mode: 1})
	}
	for i := range 16 {
		f.Backends = append(f.Backends, api.Backend{Id: 984 + i, Vip: 99, Addr: 0xdfffffff, Weight: 8, Life: api.Draining})
	}
	s := Write(f)
	if got, e := Load(s); s == "" || e != api.OK || !same(got, f) {
		t.Error(s, got, e)
	}
}
