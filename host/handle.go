package host

import (
	"linkboy/api"
	"linkboy/check"
	"linkboy/command"
	"linkboy/count"
	"linkboy/errs"
	"linkboy/ether"
	"linkboy/farm"
	"linkboy/flow"
	"linkboy/recv"
	"linkboy/route"
	"linkboy/tag"
	"linkboy/udp"
)

const (
	front = 0
	ttl   = 64
)

// handle handles a frame that came.
func (h *Host) handle(card int, b []byte) {
	x, why := recv.Of(h.config, card, b)
	if why != none {
		h.count(why)
		return
	}
	if a, ok := x.(api.Arp); ok {
		h.lay(h.net.Heard(card, a))
		return
	}
	p, _ := x.(api.Packet)
	_, own := route.Own(h.config, p.Dst)
	switch {
	case h.forwards(p, own):
		// What is borne goes on byte by byte as it came: a sum may be written two ways.
		f, _ := ether.Parse(b)
		h.become(h.plane.Forward(f.Data))
	case own:
		h.local(p)
	default:
		h.count(api.CntNoVip)
	}
}

// forwards tells whether a packet came for an address that is served; to an own one it did only if its flow is a Vip's.
func (h *Host) forwards(p api.Packet, own bool) bool {
	if !own {
		return farm.Serves(h.state.Farm, p.Dst)
	}
	f, e := flow.Of(p)
	_, ok := farm.Vip(h.state.Farm, f.Dst, f.DstPort, f.Proto)
	return e == api.OK && ok
}

// local handles a packet for an own address.
func (h *Host) local(p api.Packet) {
	if p.Proto != api.ProtoICMP && p.Proto != api.ProtoTCP && p.Proto != api.ProtoUDP {
		h.count(api.CntProto)
		return
	}
	body, e := recv.Body(p)
	if e != api.OK {
		h.count(api.CntHeader)
		return
	}
	switch x := body.(type) {
	case api.Icmp:
		h.message(p, x)
	case api.Segment:
		h.segment(p)
	case api.Datagram:
		h.datagram(p, x)
	}
}

// message handles a message.
func (h *Host) message(p api.Packet, m api.Icmp) {
	reply, ok := errs.Echo(p, m)
	if !ok {
		h.probed(p)
		return
	}
	h.count(api.CntEcho)
	h.send(reply)
}

// segment handles a segment.
func (h *Host) segment(p api.Packet) {
	out, ok := h.plane.Back(p)
	if !ok {
		h.probed(p)
		return
	}
	h.become(out)
}

// probed handles what may answer a probe.
func (h *Host) probed(p api.Packet) {
	r, good, ok := check.Read(h.config, h.state.Farm, p)
	if !ok {
		h.count(api.CntProto)
		return
	}
	if !h.check.Answer(r.Backend, r.Num, good) {
		h.count(api.CntLost)
		return
	}
	if good {
		h.count(api.CntProbeGood)
		h.bye(r)
	} else {
		h.count(api.CntProbeBad)
	}
	h.judge()
}

// bye ends what a probe began.
func (h *Host) bye(r check.Probe) {
	if p, ok := check.Bye(h.config, h.state.Farm, r); ok {
		h.send(p)
	}
}

// datagram handles a datagram.
func (h *Host) datagram(p api.Packet, d api.Datagram) {
	if p.Dst != h.config.Addrs[front] || d.Dst != h.config.Listen {
		h.count(api.CntProto)
		return
	}
	o, e := tag.Parse(h.config.Control, d.Data)
	if e != api.OK {
		h.count(api.CntForged)
		return
	}
	e = h.order(o)
	h.answer(p.Src, d.Src, o, e)
}

// order does an order.
func (h *Host) order(o api.Order) api.Errno {
	next, e := command.Do(h.state, o)
	switch e {
	case api.OK:
		h.count(api.CntOrder)
	case api.ErrOld:
		h.count(api.CntReplayed)
		return e
	default:
		h.count(api.CntRefused)
		return e
	}
	// The flows of one who is removed go while the plane's farm still has it.
	if id, ok := command.Gone(h.state, o); ok {
		h.plane.Gone(id)
	}
	h.state = next
	h.check.Follow(next.Farm)
	h.plane.Farm(next.Farm)
	return api.OK
}

// answer tells who sent an order what came of it.
func (h *Host) answer(to uint32, port uint16, o api.Order, e api.Errno) {
	var text []byte
	if e == api.OK && o.Op == api.OrderStats {
		text = count.Bytes(h.counts)
	}
	own := h.config.Addrs[front]
	d := api.Datagram{Src: h.config.Listen, Dst: port, Data: tag.Answer(h.config.Control, o.Count, command.Code(e), text)}
	data, _ := udp.Put(own, to, d)
	h.send(api.Packet{DF: true, TTL: ttl, Proto: api.ProtoUDP, Src: own, Dst: to, Data: data})
}
