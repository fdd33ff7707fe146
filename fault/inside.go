package fault

import (
	"interpreter/api"
	"interpreter/ip6"
	"interpreter/num"
	"interpreter/sum"
)

// The first bits of every packet.
const (
	version4 = 4
	version6 = 6
)

// Inside4 is the IPv4 packet that an error quotes, and how many bytes of data the whole has.
func Inside4(s string) (p api.Ip4, claim int, e error) {
	head, c := measure4(s)
	if c != api.OK {
		return api.Ip4{}, 0, fault(c)
	}
	p, all, right := readHead4(s[:head])
	if all < head || !right || p.At+all > most16 {
		return api.Ip4{}, 0, fault(api.ErrForm)
	}
	claim = all - head
	p.Data = first(s[head:], claim)
	if !tells(p.Data, claim) {
		return api.Ip4{}, 0, fault(api.ErrShort)
	}
	return p, claim, nil
}

// measure4 is how many bytes the head has with which a text begins, or the code by which it has none.
func measure4(s string) (int, api.Errno) {
	if len(s) < head4Bytes {
		return 0, api.ErrShort
	}
	n := int(s[0]) % 16 * 4
	switch {
	case s[0]/16 != version4 || n < head4Bytes:
		return 0, api.ErrForm
	case len(s) < n:
		return 0, api.ErrShort
	case !sum.Right(s[:n]):
		return 0, api.ErrSum
	}
	return n, api.OK
}

// readHead4 is what a head says: of the packet, how many bytes it has in all, and whether the bit that is nobody's is not set.
func readHead4(s string) (p api.Ip4, all int, right bool) {
	r := num.New(s) // as long as was measured: it tells no fault
	r.U8()
	p.Tos, _ = r.U8()
	all, _ = r.U16()
	p.Id, _ = r.U16()
	w, _ := r.U16()
	p.At, p.DF, p.More = w&placeBits4*8, w&bitDF != 0, w&bitMore4 != 0
	p.Ttl, _ = r.U8()
	p.Proto, _ = r.U8()
	r.U16()
	p.From = address4(r)
	p.To = address4(r)
	p.Options = r.Rest()
	return p, all, w&bitNone == 0
}

// address4 is the IPv4 address of a reader's next bytes.
func address4(r *num.Reader) (a api.V4) {
	s, _ := r.Text(len(a))
	copy(a[:], s)
	return a
}

// first is a text's first bytes, at most so many.
func first(s string, most int) string { return s[:min(len(s), most)] }

// tells says whether what there is of a packet's data tells enough of it.
func tells(data string, claim int) bool { return len(data) >= min(claim, leastData) }

// Inside6 is the IPv6 packet that an error quotes, and how many bytes of data the whole has.
func Inside6(s string) (p api.Ip6, claim int, e error) {
	if len(s) < head6Bytes {
		return api.Ip6{}, 0, fault(api.ErrShort)
	}
	p, version, claim, next := readHead6(s[:head6Bytes])
	if version != version6 {
		return api.Ip6{}, 0, fault(api.ErrForm)
	}
	behind := first(s[head6Bytes:], claim)
	p.Exts, p.Proto, p.Data, e = ip6.Chain(next, behind)
	if e != nil {
		return api.Ip6{}, 0, e
	}
	if p.Proto == fragment {
		if len(p.Data) < fragmentBytes {
			return api.Ip6{}, 0, fault(api.ErrShort)
		}
		p = readFragment(p)
	}
	claim -= len(behind) - len(p.Data)
	if !tells(p.Data, claim) {
		return api.Ip6{}, 0, fault(api.ErrShort)
	}
	return p, claim, nil
}

// readHead6 is what a head says: of the packet, its version, how many bytes stand behind, and the first next.
func readHead6(s string) (p api.Ip6, version, behind, next int) {
	r := num.New(s) // as long as a head: it tells no fault
	w, _ := r.U32()
	version, p.Class, p.Flow = w>>28, w>>20&most8, w&mostFlow
	behind, _ = r.U16()
	next, _ = r.U8()
	p.Hop, _ = r.U8()
	p.From = address6(r)
	p.To = address6(r)
	return p, version, behind, next
}

// address6 is the IPv6 address of a reader's next bytes.
func address6(r *num.Reader) (a api.V6) {
	s, _ := r.Text(len(a))
	copy(a[:], s)
	return a
}

// readFragment is the packet of one whose Data begin with a fragment's head.
func readFragment(p api.Ip6) api.Ip6 {
	r := num.New(p.Data) // at least as long as a fragment's head: it tells no fault
	p.Frag = true
	p.Proto, _ = r.U8()
	r.U8()
	w, _ := r.U16()
	p.At, p.More = w&placeBits6, w&bitMore6 != 0
	id, _ := r.U32()
	p.Id = uint32(id)
	p.Data = r.Rest()
	return p
}
