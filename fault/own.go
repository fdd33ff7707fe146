package fault

import (
	"interpreter/api"
	"interpreter/class"
	"interpreter/icmp4"
	"interpreter/icmp6"
	"interpreter/ip4"
	"interpreter/ip6"
	"interpreter/sum"
)

// The MTUs that a way may have for an error of the gateway's own.
const (
	leastMtu4, mostMtu4 = 68, 65535
	leastMtu6, mostMtu6 = 1280, 65575
)

// ownHops is with how many hops left an error of the gateway's own goes out.
const ownHops = 64

// manyFirst is the first byte of the addresses that are of many.
const manyFirst = 255

// The Kinds of IPv6 that count here. That a packet is too big is told about one to many, too: how else would its sender learn the MTU.
const (
	kindTooBig   = 2
	leastNoError = 128
)

// Own4 is an IPv4 packet with an error of the gateway's own about a packet, if there is to be one.
func Own4(m api.Msg, packet string, from api.V4, id, mtu int) (string, bool) {
	p, e := ip4.Parse(packet)
	if e != nil || !icmp4.Failure(m) || !told4(p) || mtu < leastMtu4 || mtu > mostMtu4 {
		return "", false
	}
	head := head4Bytes + len(p.Options)
	quoted, ok := begun(packet[:head+len(p.Data)], head, room4(mtu))
	if !ok {
		return "", false
	}
	m.Data = quoted
	data, e := icmp4.Bytes(m)
	if e != nil {
		return "", false
	}
	s, e := ip4.Bytes(api.Ip4{Id: id & most16, Ttl: ownHops, Proto: api.Icmp, From: from, To: p.From, Data: data})
	return s, e == nil
}

// told4 says whether an error may be told about a packet.
func told4(p api.Ip4) bool {
	if p.At != 0 || class.Martian4(p.From) {
		return false
	}
	return p.Proto != api.Icmp || p.Data != "" && !icmp4.Failure(api.Msg{Kind: int(p.Data[0])})
}

// room4 is how many bytes may be quoted in an error of IPv4.
func room4(mtu int) int { return min(mtu, mostError4) - head4Bytes - messageBytes }

// room6 is the same of IPv6, which knows no MTU below an error's bound.
const room6 = mostError6 - head6Bytes - messageBytes

// begun is as much of a packet's bytes as there is room for, and whether that tells enough of it.
func begun(packet string, head, room int) (string, bool) {
	if len(packet) <= room {
		return packet, true
	}
	if room < head+leastData {
		return "", false
	}
	return packet[:room], true
}

// Own6 is an IPv6 packet with an error of the gateway's own about a packet, if there is to be one.
func Own6(m api.Msg, packet string, from api.V6, mtu int) (string, bool) {
	p, e := ip6.Parse(packet)
	if e != nil || !icmp6.Failure(m) || !told6(m, p) || mtu < leastMtu6 || mtu > mostMtu6 {
		return "", false
	}
	heads := headsLength(p)
	quoted, ok := begun(packet[:heads+len(p.Data)], heads, room6)
	if !ok {
		return "", false
	}
	m.Data = quoted
	data, e := icmp6.Bytes(m, sum.Pseudo6(from, p.From, api.Icmp6, messageBytes+len(quoted)))
	if e != nil {
		return "", false
	}
	s, e := ip6.Bytes(api.Ip6{Hop: ownHops, From: from, To: p.From, Proto: api.Icmp6, Data: data})
	return s, e == nil
}

// told6 says whether that error may be told about a packet.
func told6(m api.Msg, p api.Ip6) bool {
	if p.At != 0 || class.Martian6(p.From) || p.To[0] == manyFirst && m.Kind != kindTooBig {
		return false
	}
	return p.Proto != api.Icmp6 || p.Data != "" && p.Data[0] >= leastNoError
}

// headsLength is how many bytes stand ahead of a packet's data.
func headsLength(p api.Ip6) int {
	n := head6Bytes
	for _, x := range p.Exts {
		n += extBytes + len(x.Body)
	}
	if p.Frag {
		n += fragmentBytes
	}
	return n
}
