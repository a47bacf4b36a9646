package host

import (
	"math/rand"
	"slices"
	"testing"

	"linkboy/api"
	"linkboy/cookie"
	"linkboy/ether"
	"linkboy/farm"
	"linkboy/ipv4"
	"linkboy/proxy"
	"linkboy/tcp"
	"linkboy/tun"
)

// crowd answers a balancer of a Vip that is direct and one that is proxied, each with four backends, none of whom is up; backend n's address ends with n.
func crowd(t *testing.T) world {
	t.Helper()
	c := conf()
	c.Flows, c.Ring, c.Bufs, c.Cache, c.Age = 32, 64, 256, 32, 4095
	w := made(t, c)
	w.meet(0, gate)
	w.meet(0, boss)
	n := uint64(0)
	give := func(o api.Order) {
		n++
		o.Count = n
		w.packet(0, order(o))
	}
	give(api.Order{Op: api.OrderVip, Id: 1, Addr: vip, Port: 80, Proto: 6, Num: api.Direct})
	give(api.Order{Op: api.OrderVip, Id: 2, Addr: vip, Port: 443, Proto: 6, Num: api.Proxy})
	for id := range 8 {
		w.meet(1, inner+uint32(10+id))
		give(api.Order{Op: api.OrderAdd, Id: 10 + id, Vip: 1 + id/4, Addr: inner + uint32(10+id), Num: 1 + id%4})
	}
	if len(w.h.Farm().Backends) != 8 {
		t.Fatal(w.h.Farm())
	}
	return w
}

// entryOf answers the entry of a flow.
func entryOf(l []api.Entry, f api.Flow) (api.Entry, bool) {
	i := slices.IndexFunc(l, func(e api.Entry) bool { return e.Flow == f })
	if i < 0 {
		return api.Entry{}, false
	}
	return l[i], true
}

// bornes answers to whom packets went that bear others, and holds what they bear against what came.
func bornes(t *testing.T, l []api.Sent, came api.Packet) []uint32 {
	t.Helper()
	want, _ := ipv4.Put(came)
	var to []uint32
	for _, s := range l {
		f, _ := ether.Parse(s.Frame)
		p, e := ipv4.Parse(f.Data)
		if b, e2 := tun.Open(p); e == api.OK && e2 == api.OK {
			if !slices.Equal(b, want) {
				t.Fatal("it isn't what came", b, want)
			}
			to = append(to, p.Dst)
		}
	}
	return to
}

// TestSticksAndFits is T2 and T3: whoever is up, drained, weighed meanwhile, a flow's packets go to its entry's backend, and one without an entry finds who is of its Vip, Serving and Up.
func TestSticksAndFits(t *testing.T) {
	r := rand.New(rand.NewSource(2))
	stuck, found, nobody := 0, 0, 0
	for range 10 {
		w := crowd(t)
		last := uint64(100)
		for range 300 {
			switch r.Intn(6) {
			case 0:
				w.ticks(1)
			case 1, 2:
				probeAll(w, r)
			case 3:
				last++
				op := []int{api.OrderDrain, api.OrderWeight, api.OrderRemove, api.OrderAdd, api.OrderAdd}[r.Intn(5)]
				id := 10 + r.Intn(8)
				w.packet(0, order(api.Order{Count: last, Op: op, Id: id, Vip: 1 + (id-10)/4, Addr: inner + uint32(id), Num: 1 + r.Intn(8)}))
			default:
				f := api.Flow{Src: client, Dst: vip, SrcPort: uint16(r.Intn(20)), DstPort: 80, Proto: 6}
				p := segment(client, vip, tcp.Plain(f.SrcPort, 80, 1, 2, []byte{api.SYN, api.ACK, api.ACK, api.FIN | api.ACK, api.RST}[r.Intn(5)]))
				e, tracked := entryOf(w.h.Entries(), f)
				to := bornes(t, w.packet(0, p), p)
				switch {
				case tracked:
					b, _ := farm.Get(w.h.Farm(), e.Backend)
					if !slices.Equal(to, []uint32{b.Addr}) {
						t.Fatal(to, b)
					}
					stuck++
				case len(farm.Fit(w.h.Farm(), 1)) == 0:
					if len(to) > 0 {
						t.Fatal(to)
					}
					nobody++
				default:
					if !slices.ContainsFunc(farm.Fit(w.h.Farm(), 1), func(b api.Backend) bool { return slices.Equal(to, []uint32{b.Addr}) }) {
						t.Fatal(to, w.h.Farm())
					}
					found++
				}
			}
		}
	}
	if stuck < 100 || found < 100 || nobody < 20 {
		t.Error(stuck, found, nobody)
	}
}

// probeAll has some of the backends answer what they were asked in the next tick.
func probeAll(w world, r *rand.Rand) {
	for _, s := range w.ticks(1) {
		f, _ := ether.Parse(s.Frame)
		p, _ := ipv4.Parse(f.Data)
		q, e := tcp.Parse(p.Src, p.Dst, p.Data)
		if e != api.OK || q.Src < 30000 || q.Flags != api.SYN || r.Intn(4) == 0 {
			continue
		}
		w.packet(1, segment(p.Dst, inner, tcp.Plain(q.Dst, q.Src, 5, q.Seq+1, api.SYN|api.ACK)))
	}
}

// TestCookiesAlone is T4: a SYN for an address that is proxied leaves nothing behind, and a flow gets an entry there only by a segment that answers a cookie of one of the two last keys.
func TestCookiesAlone(t *testing.T) {
	r := rand.New(rand.NewSource(4))
	w := crowd(t)
	for range 6 {
		probeAll(w, rand.New(rand.NewSource(1)))
	}
	secrets := cookie.Secrets{Now: conf().Hash, Last: conf().Hash}
	var old []cookie.Secrets
	taken, refused := 0, 0
	for i := range 600 {
		f := api.Flow{Src: client, Dst: vip, SrcPort: uint16(i), DstPort: 443, Proto: 6}
		before := w.h.Entries()
		w.packet(0, segment(client, vip, api.Segment{Src: f.SrcPort, Dst: 443, Seq: 99, Flags: api.SYN}))
		if !slices.Equal(w.h.Entries(), before) {
			t.Fatal("a SYN leaves something behind")
		}
		by := secrets
		if len(old) > 0 && r.Intn(2) == 0 {
			by = old[max(len(old)-1-r.Intn(3), 0)]
		}
		right := by.Epoch >= secrets.Epoch-1
		offer := proxy.Offer(by, f, api.Segment{Seq: 99})
		w.packet(0, segment(client, vip, tcp.Plain(f.SrcPort, 443, 100, offer.Seq+1, api.ACK)))
		if _, ok := entryOf(w.h.Entries(), f); ok != right {
			t.Fatal(i, ok, right)
		}
		if right {
			taken++
			w.packet(0, segment(client, vip, tcp.Plain(f.SrcPort, 443, 100, 0, api.RST)))
		} else {
			refused++
		}
		if r.Intn(5) == 0 {
			key := api.Key{Lo: r.Uint64(), Hi: r.Uint64()}
			old = append(old, secrets)
			secrets = cookie.Fresh(secrets, key)
			w.do(api.Act{Kind: api.ActSecret, Key: key})
		}
	}
	if taken < 100 || refused < 50 {
		t.Error(taken, refused)
	}
}
