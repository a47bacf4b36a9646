package plane

import (
	"linkboy/api"
	"linkboy/errs"
	"linkboy/farm"
	"linkboy/flow"
	"linkboy/icmp"
	"linkboy/ipv4"
	"linkboy/phase"
	"linkboy/proxy"
	"linkboy/quote"
	"linkboy/recv"
	"linkboy/splice"
	"linkboy/tcp"
	"linkboy/tun"
)

// arrived is a packet for a Vip that came: its bytes, what they are, and its segment (of none of TCP the zero one).
type arrived struct {
	bytes   []byte
	packet  api.Packet
	flow    api.Flow
	vip     api.Vip
	segment api.Segment
}

// counted answers that nothing becomes of a packet, and why.
func counted(k int) Out {
	return Out{Counts: []int{k}}
}

// one answers that a packet becomes of one, and what is counted.
func one(p api.Packet, k int) Out {
	return Out{Packets: []api.Packet{p}, Counts: []int{k}}
}

// Forward answers what becomes of a packet.
func (p *Plane) Forward(b []byte) Out {
	if p == nil {
		return Out{}
	}
	x, e := ipv4.Parse(b)
	if e != api.OK {
		return counted(api.CntIP)
	}
	if x.Proto == api.ProtoICMP {
		return p.message(b, x)
	}
	f, e := flow.Of(x)
	if e != api.OK {
		return counted(why(e))
	}
	body, e := recv.Body(x)
	if e != api.OK {
		return counted(api.CntHeader)
	}
	v, ok := farm.Vip(p.farm, f.Dst, f.DstPort, f.Proto)
	if !ok {
		return counted(api.CntNoVip)
	}
	seg, _ := body.(api.Segment)
	return p.served(arrived{b, x, f, v, seg})
}

// why answers what is counted of a packet that has no flow.
func why(e api.Errno) int {
	switch e {
	case api.ErrRange:
		return api.CntFragment
	case api.ErrForm:
		return api.CntProto
	}
	return api.CntHeader
}

// served answers what becomes of a packet for a Vip, by the entry of its flow.
func (p *Plane) served(a arrived) Out {
	e, ok := p.flows.Get(a.flow)
	switch {
	case !ok && a.vip.Mode == api.Proxy:
		return p.begin(a)
	case !ok:
		return p.first(a)
	case !e.Proxied:
		return p.stick(a, e)
	case !e.Joined:
		return p.wait(a, e)
	}
	return p.there(a, e)
}

// first answers what becomes of a flow's first packet, of a Vip that isn't proxied.
func (p *Plane) first(a arrived) Out {
	id, ok := p.board.Pick(a.vip.Id, a.flow)
	if !ok {
		return counted(api.CntNoBackend)
	}
	out, ok := p.bear(a.bytes, id, api.CntForward)
	e := api.Entry{Flow: a.flow, Backend: id, Phase: loose}
	if a.flow.Proto == api.ProtoTCP {
		e.Phase = phase.First(a.segment.Flags)
	}
	if !ok || e.Phase == gone {
		return out
	}
	tracked := api.CntTracked
	if p.flows.Add(e, phase.Wait(p.config, e.Phase)) != api.OK {
		tracked = api.CntUntracked
	}
	out.Counts = append(out.Counts, tracked)
	return out
}

// stick answers what becomes of a packet of a flow that has a backend.
func (p *Plane) stick(a arrived, e api.Entry) Out {
	out, ok := p.bear(a.bytes, e.Backend, api.CntForward)
	if ok {
		p.pass(e, a.segment.Flags)
	}
	return out
}

// bear answers the packet that bears another one to a backend, and whether there is one; else who sent that one is told.
func (p *Plane) bear(b []byte, id, k int) (Out, bool) {
	w, e := tun.Wrap(p.config, b, p.addr(id), p.id)
	if e == api.OK {
		p.id++
		return one(w, k), true
	}
	if told, ok := errs.TooBig(p.config, b, p.config.MTU-head); ok {
		return one(told, api.CntTooBig), false
	}
	return counted(api.CntTooBig), false
}

// begin answers what becomes of a packet of no entry, of a Vip that is proxied: nothing is kept of who only asks.
func (p *Plane) begin(a arrived) Out {
	s := a.segment
	if tcp.Has(s, api.SYN) && s.Flags&(api.ACK|api.RST|api.FIN) == 0 {
		return one(made(a.flow.Dst, a.flow.Src, proxy.Offer(p.secrets, a.flow, s)), api.CntCookie)
	}
	size, ok := proxy.Accept(p.secrets, a.flow, s)
	if !ok {
		return counted(api.CntBadCookie)
	}
	id, ok := p.board.Pick(a.vip.Id, a.flow)
	if !ok {
		return counted(api.CntNoBackend)
	}
	e := proxy.Open(a.flow, id, p.port(), s)
	if p.flows.Add(e, phase.Wait(p.config, opening)) != api.OK {
		return counted(api.CntUntracked)
	}
	p.ports[e.Port] = a.flow
	return one(made(p.config.Addrs[back], p.addr(id), proxy.Call(e, a.vip.Port, size)), api.CntTracked)
}

// wait answers what becomes of a packet whose backend hasn't answered yet.
func (p *Plane) wait(a arrived, e api.Entry) Out {
	if tcp.Has(a.segment, api.RST) {
		p.drop(e)
	}
	return counted(api.CntNotJoined)
}

// there answers what becomes of a client's packet.
func (p *Plane) there(a arrived, e api.Entry) Out {
	t := splice.There(e, p.config, p.addr(e.Backend), a.flow.DstPort)
	p.pass(e, a.segment.Flags)
	return one(turned(a.packet, t), api.CntForward)
}

// turned answers the packet of a segment to which that is done.
func turned(x api.Packet, t splice.Turn) api.Packet {
	data, _ := splice.Bytes(x.Src, x.Dst, x.Data, t)
	x.Src, x.Dst, x.TTL, x.Options, x.Data = t.Src, t.Dst, ttl, nil, data
	return x
}

// made answers the packet of a segment that one makes.
func made(src, dst uint32, s api.Segment) api.Packet {
	data, _ := tcp.Put(src, dst, s)
	return api.Packet{DF: true, TTL: ttl, Proto: api.ProtoTCP, Src: src, Dst: dst, Data: data}
}

// message answers what becomes of a message.
func (p *Plane) message(b []byte, x api.Packet) Out {
	m, e := icmp.Parse(x.Data)
	if e != api.OK {
		return counted(api.CntHeader)
	}
	if reply, ok := errs.Echo(x, m); ok {
		return one(reply, api.CntEcho)
	}
	if !icmp.About(m) {
		return counted(api.CntProto)
	}
	f, e := quote.Of(m)
	if e != api.OK {
		return counted(api.CntHeader)
	}
	entry, ok := p.flows.Get(flow.Back(f))
	if !ok || entry.Proxied || entry.Flow.Dst != x.Dst {
		return counted(api.CntLost)
	}
	out, _ := p.bear(b, entry.Backend, api.CntSteered)
	return out
}
