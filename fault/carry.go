package fault

import (
	"interpreter/api"
	"interpreter/icmp4"
	"interpreter/icmp6"
	"interpreter/icmpmap"
)

// Carry6 is an error of IPv4 as IPv6's, with what it quotes carried over to other ends, if there is one.
func Carry6(m api.Msg, mtu4, mtu6 int, from, to api.T6) (api.Msg, bool) {
	p, claim, e := Inside4(m.Data)
	if e != nil || !icmp4.Failure(m) {
		return api.Msg{}, false
	}
	x, ok := icmpmap.To6(m, mtu4, mtu6, head4Bytes+len(p.Options)+claim)
	quoted, e := Quote6(p, claim, from, to)
	if !ok || e != nil {
		return api.Msg{}, false
	}
	x.Data = first(quoted, room6)
	return x, true
}

// Carry4 is an error of IPv6 as IPv4's, with what it quotes carried over to other ends, if there is one.
func Carry4(m api.Msg, mtu4, mtu6 int, from, to api.T4) (api.Msg, bool) {
	p, claim, e := Inside6(m.Data)
	if e != nil || !icmp6.Failure(m) {
		return api.Msg{}, false
	}
	x, ok := icmpmap.To4(m, mtu4, mtu6)
	quoted, e := Quote4(p, claim, from, to)
	if !ok || e != nil {
		return api.Msg{}, false
	}
	x.Data = first(quoted, room4(mtu4))
	return x, true
}
