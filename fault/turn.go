package fault

import (
	"interpreter/api"
	"interpreter/icmp4"
	"interpreter/icmp6"
	"interpreter/num"
	"interpreter/sum"
)

// Where the sums of segments and datagrams stand.
const (
	tcpSumAt = 16
	udpSumAt = 6
)

// sumBytes is how many bytes a sum has, portsBytes how many two ports.
const (
	sumBytes   = 2
	portsBytes = 4
)

// Where the sum, the identifier and what is behind it stand in an echo.
const (
	echoSumAt = 2
	echoIdAt  = 4
	echoRest  = 6
)

// The Kinds of echoes.
const (
	isEcho4   = 0
	asksEcho4 = 8
	asksEcho6 = 128
	isEcho6   = 129
)

// turned6 is the data of a quoted IPv4 packet as they are over IPv6.
func turned6(p api.Ip4, claim int, from, to api.T6) string {
	if p.At != 0 {
		return p.Data
	}
	if p.Proto != api.Icmp {
		return withPorts(p.Data, p.Proto, string(p.From[:])+string(p.To[:]),
			string(from.Addr[:])+string(to.Addr[:]), big(from.Port, 2)+big(to.Port, 2))
	}
	kind, is := echoKind6(p.Data)
	if !is {
		return p.Data
	}
	return withId(p.Data, kind, from.Port, "", sum.Pseudo6(from.Addr, to.Addr, api.Icmp6, claim))
}

// turned4 is the data of a quoted IPv6 packet as they are over IPv4.
func turned4(p api.Ip6, claim int, from, to api.T4) string {
	if p.At != 0 {
		return p.Data
	}
	if p.Proto != api.Icmp6 {
		return withPorts(p.Data, p.Proto, string(p.From[:])+string(p.To[:]),
			string(from.Addr[:])+string(to.Addr[:]), big(from.Port, 2)+big(to.Port, 2))
	}
	kind, is := echoKind4(p.Data)
	if !is {
		return p.Data
	}
	return withId(p.Data, kind, from.Port, sum.Pseudo6(p.From, p.To, api.Icmp6, claim), "")
}

// withPorts is data of a protocol with other ports, their sum made that between other addresses.
func withPorts(data string, proto int, old, new, ports string) string {
	at, has := sumAt(proto)
	if !has || len(data) < portsBytes {
		return data
	}
	turned := ports + data[portsBytes:]
	if len(data) < at+sumBytes {
		return turned
	}
	was := word(data, at)
	if proto == api.Udp && was == 0 {
		return turned // the datagram has no sum
	}
	s := sum.Update(was, old+data[:portsBytes], new+ports)
	if proto == api.Udp && s == 0 {
		s = most16 // which is as right, and does not say that there is none
	}
	return turned[:at] + big(s, sumBytes) + turned[at+sumBytes:]
}

// sumAt is where the sum of a protocol with ports stands, and whether a protocol is one.
func sumAt(proto int) (int, bool) {
	switch proto {
	case api.Tcp:
		return tcpSumAt, true
	case api.Udp:
		return udpSumAt, true
	}
	return 0, false
}

// word is the number of a text's two bytes at a place.
func word(s string, at int) int {
	x, _ := num.New(s[at:]).U16() // they are there: it tells no fault
	return x
}

// echoKind6 is the Kind over IPv6 of data that are an echo over IPv4, and whether they are one.
func echoKind6(data string) (int, bool) {
	if len(data) < messageBytes {
		return 0, false
	}
	_, asks, is := icmp4.Echo(api.Msg{Kind: int(data[0]), Code: int(data[1])})
	if asks {
		return asksEcho6, is
	}
	return isEcho6, is
}

// echoKind4 is the Kind over IPv4 of data that are an echo over IPv6, and whether they are one.
func echoKind4(data string) (int, bool) {
	if len(data) < messageBytes {
		return 0, false
	}
	_, asks, is := icmp6.Echo(api.Msg{Kind: int(data[0]), Code: int(data[1])})
	if asks {
		return asksEcho4, is
	}
	return isEcho4, is
}

// withId is an echo of another Kind and with another identifier; its sum was that with the head old, which is not sent, and is made that with new.
func withId(data string, kind, id int, old, new string) string {
	ahead, ident := big(kind, 1)+data[1:echoSumAt], big(id, 2)
	s := sum.Update(word(data, echoSumAt), old+data[:echoSumAt]+data[echoIdAt:echoRest], new+ahead+ident)
	return ahead + big(s, sumBytes) + ident + data[echoRest:]
}
