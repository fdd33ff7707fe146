package fault

import (
	"interpreter/api"
	"interpreter/head46"
	"interpreter/head64"
	"interpreter/sum"
)

// smallClaim is how many bytes of data a packet has at most that routers of IPv4 may cut.
const smallClaim = 1240

// Quote6 is a quoted IPv4 packet as it is quoted over IPv6, between other ends.
func Quote6(p api.Ip4, claim int, from, to api.T6) (string, error) {
	next, known := head46.Proto(p.Proto)
	between := 0
	if isPiece(p) {
		between = fragmentBytes
	}
	switch {
	case !bounded4(p) || !portsBounded(from.Port, to.Port) || claim < len(p.Data):
		return "", fault(api.ErrRange)
	case !known:
		return "", fault(api.ErrKind)
	case claim > most16-between:
		return "", fault(api.ErrLong)
	}
	behind := turned6(p, claim, from, to)
	if isPiece(p) {
		next, behind = fragment, fragmentHead(p, next)+behind
	}
	return big(version6<<28|p.Tos<<20, 4) + big(between+claim, 2) +
		big(next, 1) + big(p.Ttl, 1) + string(from.Addr[:]) + string(to.Addr[:]) + behind, nil
}

// bounded4 says whether the numbers that are handed on are in their bounds.
func bounded4(p api.Ip4) bool {
	return within(p.Tos, most8) && within(p.Ttl, most8) && within(p.Id, most16) && isPlace(p.At)
}

// isPlace says whether a number is a piece's place.
func isPlace(at int) bool { return within(at, mostAt) && at%8 == 0 }

// portsBounded says whether two ports are in their bounds.
func portsBounded(from, to int) bool { return within(from, most16) && within(to, most16) }

// isPiece says whether an IPv4 packet is a piece, so that over IPv6 it has a fragment's head.
func isPiece(p api.Ip4) bool { return p.More || p.At != 0 }

// fragmentHead is the fragment's head of a piece whose data are of a protocol.
func fragmentHead(p api.Ip4, proto int) string {
	place := p.At
	if p.More {
		place |= bitMore6
	}
	return big(proto, 1) + big(0, 1) + big(place, 2) + big(p.Id, 4)
}

// Quote4 is a quoted IPv6 packet as it is quoted over IPv4, between other ends.
func Quote4(p api.Ip6, claim int, from, to api.T4) (string, error) {
	proto, known := head64.Proto(p.Proto)
	switch {
	case !bounded6(p) || !portsBounded(from.Port, to.Port) || claim < len(p.Data):
		return "", fault(api.ErrRange)
	case !known:
		return "", fault(api.ErrKind)
	case claim > most16-head4Bytes-p.At:
		return "", fault(api.ErrLong)
	}
	ahead := big(version4*16+head4Bytes/4, 1) + big(p.Class, 1) + big(head4Bytes+claim, 2) +
		idAndPlace(p, claim) + big(p.Hop, 1) + big(proto, 1)
	addresses := string(from.Addr[:]) + string(to.Addr[:])
	return ahead + big(sum.Of(ahead, addresses), 2) + addresses + turned4(p, claim, from, to), nil
}

// bounded6 says whether the numbers that are handed on are in their bounds.
func bounded6(p api.Ip6) bool {
	return within(p.Class, most8) && within(p.Hop, most8) && isPlace(p.At)
}

// idAndPlace is what IPv4's head says of a packet's Id, of its place, and whether it may be cut.
func idAndPlace(p api.Ip6, claim int) string {
	id, place := 0, p.At/8
	if p.More {
		place |= bitMore4
	}
	switch {
	case p.Frag:
		id = int(p.Id & most16)
	case claim > smallClaim:
		place |= bitDF
	}
	return big(id, 2) + big(place, 2)
}
