package route

import (
	"math"
	"math/rand"
	"testing"

	"linkboy/addr"
	"linkboy/api"
)

// a answers the address of a text.
func a(s string) uint32 {
	n, _ := addr.Parse(s)
	return n
}

// conf answers a configuration that may be.
func conf() api.Config {
	return api.Config{
		Macs: [2]api.Mac{{2, 0, 0, 0, 0, 1}, {2, 0, 0, 0, 0, 2}}, Addrs: [2]uint32{a("10.0.0.1"), a("10.0.1.1")}, Bits: [2]int{24, 24},
		Gateway: a("10.0.0.254"), MTU: 1500, Listen: 99, Prime: 13, Flows: 8, Ring: 4, Bufs: 16, Cache: 8, Queue: 8,
		Age: 60, Retry: 2, Tries: 3, Opening: 5, Open: 50, Closing: 10, Loose: 20, Interval: 10, Timeout: 3, Rise: 2, Fall: 2,
	}
}

// P25.1

func TestRight(t *testing.T) {
	if !Right(conf()) {
		t.Error("a right one isn't")
	}
	if Right(api.Config{}) {
		t.Error("the zero one is right")
	}
}

func TestRightMacs(t *testing.T) {
	for _, x := range []struct {
		one, two api.Mac
		want     bool
	}{
		{api.Mac{2}, api.Mac{2, 0, 0, 0, 0, 1}, true},
		{api.Mac{0, 0, 0, 0, 0, 1}, api.Mac{254}, true},
		{api.Mac{2}, api.Mac{2}, false},
		{api.Mac{}, api.Mac{2}, false},
		{api.Mac{2}, api.Mac{}, false},
		{api.Mac{1}, api.Mac{2}, false},
		{api.Mac{2}, api.Mac{3}, false},
		{api.Mac{2}, api.Mac{255, 255, 255, 255, 255, 255}, false},
	} {
		c := conf()
		c.Macs = [2]api.Mac{x.one, x.two}
		if Right(c) != x.want {
			t.Error(x)
		}
	}
}

func TestRightNets(t *testing.T) {
	for _, x := range []struct {
		one, two   string
		bits, more int
		gateway    string
		want       bool
	}{
		{"10.0.0.1", "10.0.1.1", 24, 24, "10.0.0.2", true},
		{"10.0.0.1", "10.0.1.1", 23, 24, "10.0.0.2", false},
		{"10.0.0.1", "10.0.1.1", 24, 23, "10.0.0.2", false},
		{"10.0.0.1", "10.0.1.1", 24, 8, "10.0.0.2", false},
		{"10.0.0.1", "11.0.0.1", 8, 8, "10.255.0.0", true},
		{"10.0.0.1", "11.0.0.1", 7, 8, "10.0.0.2", false},
		{"10.0.0.1", "11.0.0.1", 8, 7, "10.0.0.2", false},
		{"10.0.0.1", "20.0.0.1", 8, 7, "10.0.0.2", false},
		{"10.0.0.1", "20.0.0.1", 7, 8, "10.0.0.2", false},
		{"10.0.0.1", "10.0.0.5", 30, 30, "10.0.0.2", true},
		{"10.0.0.1", "10.0.0.5", 31, 30, "10.0.0.0", false},
		{"10.0.0.1", "10.0.0.5", 30, 31, "10.0.0.2", false},
		{"10.0.0.1", "10.0.0.5", 30, 32, "10.0.0.2", false},
		{"10.0.0.1", "10.0.0.5", math.MinInt, 30, "10.0.0.2", false},
		{"10.0.0.1", "10.0.0.5", 30, math.MaxInt, "10.0.0.2", false},
		{"10.0.0.1", "10.0.0.1", 24, 24, "10.0.0.2", false},
		{"10.0.0.0", "10.0.1.1", 24, 24, "10.0.0.2", false},
		{"10.0.0.255", "10.0.1.1", 24, 24, "10.0.0.2", false},
		{"10.0.0.1", "10.0.1.0", 24, 24, "10.0.0.2", false},
		{"10.0.0.1", "10.0.1.255", 24, 24, "10.0.0.2", false},
		{"10.0.0.1", "127.0.1.1", 24, 24, "10.0.0.2", false},
		{"224.0.0.1", "10.0.1.1", 24, 24, "224.0.0.2", false},
		{"10.0.0.1", "10.0.1.1", 24, 24, "10.0.0.1", false},
		{"10.0.0.1", "10.0.1.1", 24, 24, "10.0.0.0", false},
		{"10.0.0.1", "10.0.1.1", 24, 24, "10.0.0.255", false},
		{"10.0.0.1", "10.0.1.1", 24, 24, "10.0.1.2", false},
		{"10.0.0.1", "10.0.1.1", 24, 24, "10.0.1.1", false},
		{"10.0.0.1", "10.0.1.1", 24, 24, "0.0.0.0", false},
		{"10.0.0.1", "10.0.1.1", 24, 24, "11.0.0.2", false},
	} {
		c := conf()
		c.Addrs, c.Bits, c.Gateway = [2]uint32{a(x.one), a(x.two)}, [2]int{x.bits, x.more}, a(x.gateway)
		if Right(c) != x.want {
			t.Error(x)
		}
	}
}

// TestRightNumbers goes to the least and the greatest of each number, and past them.
func TestRightNumbers(t *testing.T) {
	for _, x := range []struct {
		name        string
		field       func(*api.Config) *int
		least, most int
	}{
		{"MTU", func(c *api.Config) *int { return &c.MTU }, 576, 1500},
		{"Flows", func(c *api.Config) *int { return &c.Flows }, 1, 256},
		{"Ring", func(c *api.Config) *int { return &c.Ring }, 1, 64},
		{"Bufs", func(c *api.Config) *int { return &c.Bufs }, 0, 256},
		{"Cache", func(c *api.Config) *int { return &c.Cache }, 0, 32},
		{"Queue", func(c *api.Config) *int { return &c.Queue }, 0, 64},
		{"Age", func(c *api.Config) *int { return &c.Age }, 1, 4095},
		{"Retry", func(c *api.Config) *int { return &c.Retry }, 1, 4095},
		{"Opening", func(c *api.Config) *int { return &c.Opening }, 1, 4095},
		{"Open", func(c *api.Config) *int { return &c.Open }, 1, 4095},
		{"Closing", func(c *api.Config) *int { return &c.Closing }, 1, 4095},
		{"Loose", func(c *api.Config) *int { return &c.Loose }, 1, 4095},
		{"Interval", func(c *api.Config) *int { return &c.Interval }, 1, 4095},
		{"Timeout", func(c *api.Config) *int { return &c.Timeout }, 1, 4095},
		{"Tries", func(c *api.Config) *int { return &c.Tries }, 1, 100},
		{"Rise", func(c *api.Config) *int { return &c.Rise }, 1, 100},
		{"Fall", func(c *api.Config) *int { return &c.Fall }, 1, 100},
	} {
		for _, n := range []int{math.MinInt, -1, x.least - 1, x.least, x.least + 1, x.most - 1, x.most, x.most + 1, math.MaxInt} {
			c := conf()
			*x.field(&c) = n
			if Right(c) != (n >= x.least && n <= x.most) {
				t.Error(x.name, n)
			}
		}
	}
}

func TestRightPrimeAndListen(t *testing.T) {
	for m, want := range map[int]bool{2: true, 3: true, 251: true, 1: false, 0: false, 4: false, 250: false, 257: false, -13: false} {
		c := conf()
		c.Prime = m
		if Right(c) != want {
			t.Error(m)
		}
	}
	for l, want := range map[uint16]bool{0: false, 1: true, 65535: true} {
		c := conf()
		c.Listen = l
		if Right(c) != want {
			t.Error(l)
		}
	}
}

// P25.2

func TestOwn(t *testing.T) {
	c := conf()
	for s, want := range map[string]int{"10.0.0.1": 0, "10.0.1.1": 1, "10.0.0.254": -1, "10.0.0.2": -1, "0.0.0.0": -1} {
		n, ok := Own(c, a(s))
		if ok != (want >= 0) || n != max(want, 0) {
			t.Error(s, n, ok)
		}
	}
	if n, ok := Own(api.Config{}, 0); n != 0 || !ok {
		t.Error("of two alike ones the first", n, ok)
	}
}

func TestOf(t *testing.T) {
	c := conf()
	for _, x := range []struct {
		to   string
		nic  int
		next string
		want api.Errno
	}{
		{"10.0.0.2", 0, "10.0.0.2", api.OK},
		{"10.0.0.1", 0, "10.0.0.1", api.OK},
		{"10.0.0.254", 0, "10.0.0.254", api.OK},
		{"10.0.1.1", 1, "10.0.1.1", api.OK},
		{"10.0.1.77", 1, "10.0.1.77", api.OK},
		{"10.0.2.1", 0, "10.0.0.254", api.OK},
		{"10.0.2.0", 0, "10.0.0.254", api.OK},
		{"8.8.8.8", 0, "10.0.0.254", api.OK},
		{"223.255.255.255", 0, "10.0.0.254", api.OK},
		{"10.0.0.0", 0, "0.0.0.0", api.ErrArg},
		{"10.0.0.255", 0, "0.0.0.0", api.ErrArg},
		{"10.0.1.0", 0, "0.0.0.0", api.ErrArg},
		{"10.0.1.255", 0, "0.0.0.0", api.ErrArg},
		{"0.0.0.0", 0, "0.0.0.0", api.ErrArg},
		{"255.255.255.255", 0, "0.0.0.0", api.ErrArg},
		{"224.0.0.1", 0, "0.0.0.0", api.ErrArg},
		{"127.0.0.1", 0, "0.0.0.0", api.ErrArg},
	} {
		if p, e := Of(c, a(x.to)); p != (api.Place{Nic: x.nic, Next: a(x.next)}) || e != x.want {
			t.Error(x, p, e)
		}
	}
}

// TestOfOtherGateways has the gateway stand in the second card's net, or in none, or be no host.
func TestOfOtherGateways(t *testing.T) {
	c := conf()
	c.Gateway = a("10.0.1.9")
	if p, e := Of(c, a("8.8.8.8")); p != (api.Place{Nic: 1, Next: c.Gateway}) || e != api.OK {
		t.Error(p, e)
	}
	for _, g := range []string{"10.0.2.1", "0.0.0.0", "10.0.0.255", "10.0.1.0", "127.0.0.1"} {
		c.Gateway = a(g)
		if p, e := Of(c, a("8.8.8.8")); p != (api.Place{}) || e != api.ErrNone {
			t.Error(g, p, e)
		}
		if p, e := Of(c, a("127.0.0.1")); p != (api.Place{}) || e != api.ErrArg {
			t.Error(g, p, e)
		}
		if p, e := Of(c, a("10.0.1.255")); p != (api.Place{}) || e != api.ErrArg {
			t.Error(g, p, e)
		}
		if p, e := Of(c, a("10.0.1.5")); p != (api.Place{Nic: 1, Next: a("10.0.1.5")}) || e != api.OK {
			t.Error(g, p, e)
		}
	}
}

// TestOfNetsWithin has one net lie in the other one: the first card comes first, and one that is a host in the other one alone goes there.
func TestOfNetsWithin(t *testing.T) {
	c := conf()
	c.Addrs, c.Bits = [2]uint32{a("10.0.0.1"), a("10.9.0.1")}, [2]int{24, 8}
	for s, want := range map[string]int{"10.0.0.5": 0, "10.0.0.255": 1, "10.0.0.0": -1, "10.1.0.0": 1, "10.255.255.255": -1} {
		p, e := Of(c, a(s))
		if want < 0 && (p != (api.Place{}) || e != api.ErrArg) || want >= 0 && (p != (api.Place{Nic: want, Next: a(s)}) || e != api.OK) {
			t.Error(s, p, e)
		}
	}
	c.Addrs, c.Bits = [2]uint32{a("10.9.0.1"), a("10.0.0.1")}, [2]int{8, 24}
	if p, e := Of(c, a("10.0.0.5")); p != (api.Place{Nic: 0, Next: a("10.0.0.5")}) || e != api.OK {
		t.Error(p, e)
	}
}

// P25.3

func TestThereIsAWay(t *testing.T) {
	r := rand.New(rand.NewSource(25))
	for range 5000 {
		c := conf()
		c.Bits = [2]int{8 + r.Intn(23), 8 + r.Intn(23)}
		c.Addrs = [2]uint32{r.Uint32(), r.Uint32()}
		c.Gateway = c.Addrs[0] ^ uint32(r.Intn(4))
		if !Right(c) {
			continue
		}
		for _, to := range []uint32{r.Uint32(), c.Addrs[0] ^ uint32(r.Intn(256)), c.Addrs[1] ^ uint32(r.Intn(256))} {
			one, two := addr.Host(to, c.Addrs[0], c.Bits[0]), addr.Host(to, c.Addrs[1], c.Bits[1])
			none := !addr.In(to, c.Addrs[0], c.Bits[0]) && !addr.In(to, c.Addrs[1], c.Bits[1])
			p, e := Of(c, to)
			want, err := api.Place{}, api.ErrArg
			switch {
			case addr.Special(to):
			case one:
				want, err = api.Place{Nic: 0, Next: to}, api.OK
			case two:
				want, err = api.Place{Nic: 1, Next: to}, api.OK
			case none:
				want, err = api.Place{Nic: 0, Next: c.Gateway}, api.OK
			}
			if p != want || e != err {
				t.Fatal(c, to, p, e)
			}
		}
	}
}
