package plane

import (
	"linkboy/api"
	"linkboy/ipv4"
	"linkboy/proxy"
	"linkboy/splice"
	"linkboy/tcp"
)

// Back answers what becomes of what a backend answers.
func (p *Plane) Back(x api.Packet) (Out, bool) {
	if p == nil || x.Dst != p.config.Addrs[back] || ipv4.Part(x) || x.Proto != api.ProtoTCP {
		return Out{}, false
	}
	s, err := tcp.Parse(x.Src, x.Dst, x.Data)
	if err != api.OK {
		return Out{}, false
	}
	f, used := p.ports[s.Dst]
	if !used {
		return Out{}, false
	}
	e, _ := p.flows.Get(f)
	if x.Src != p.addr(e.Backend) || s.Src != f.DstPort {
		return Out{}, false
	}
	if e.Joined {
		return p.here(x, s, e), true
	}
	return p.answer(x, s, e), true
}

// here answers what becomes of a backend's packet.
func (p *Plane) here(x api.Packet, s api.Segment, e api.Entry) Out {
	p.pass(e, s.Flags)
	return one(turned(x, splice.Here(e)), api.CntForward)
}

// answer answers what becomes of a backend's answer to a call.
func (p *Plane) answer(x api.Packet, s api.Segment, e api.Entry) Out {
	if tcp.Has(s, api.RST) && s.Ack == e.First+1 {
		p.drop(e)
		return one(made(e.Flow.Dst, e.Flow.Src, proxy.Refuse(e)), api.CntNotJoined)
	}
	joined, ok := proxy.Join(e, s)
	if !ok {
		return counted(api.CntNotJoined)
	}
	p.keep(joined)
	return one(made(p.config.Addrs[back], x.Src, proxy.Greet(joined, e.Flow.DstPort, s)), api.CntJoined)
}
