package icmpmap

import (
	"math"
	"math/rand"
	"slices"
	"testing"

	"interpreter/api"
	"interpreter/icmp4"
	"interpreter/icmp6"
)

// The MTUs of the tests in which they do not matter, and data of an odd number of bytes.
const (
	usual = 1500
	data  = "\x45\x00 quoted\xff"
)

// mtus are both sides' MTUs.
type mtus struct{ four, six int }

// MTUs that may be, at their bounds and between, and some that may not.
var (
	goodMtus = []mtus{
		{68, 1280}, {68, 65575}, {65535, 1280}, {65535, 65575}, {69, 1281}, {65534, 65574}, {usual, usual}, {576, 1280}, {1260, 1280}, {1259, 1281}, {9000, 1500}, {1500, 9000},
	}
	badMtus = []mtus{
		{67, usual}, {65536, usual}, {usual, 1279}, {usual, 65576}, {67, 1280}, {65536, 65575}, {68, 1279}, {65535, 65576}, {67, 1279}, {65536, 65576},
		{0, usual}, {usual, 0}, {0, 0}, {-1, usual}, {usual, -1}, {-68, usual}, {usual, -1280}, {-1500, -1500}, {usual, 68}, {1 << 16, usual}, {usual, 1 << 17},
		{1<<32 + 1500, usual}, {usual, 1<<32 + 1500}, {-1<<32 + 1500, usual}, {usual, -1<<32 + 1500}, {math.MaxInt, usual}, {usual, math.MaxInt}, {math.MinInt, usual}, {usual, math.MinInt},
		{math.MaxInt, math.MaxInt}, {math.MinInt, math.MinInt}, {math.MaxInt, math.MinInt}, {math.MinInt + 1500, usual}, {usual, math.MinInt + 1500},
	}
)

// noBytes are numbers that are no byte's.
var noBytes = []int{-1, -2, -3, -4, -128, -129, -253, -255, -256, -256 + 3, -256 + 8, -65536, 256, 257, 258, 259, 260, 264, 267, 268, 384, 385, 512 + 3, 1 << 16, 1<<32 + 3, 1<<32 + 8, 1<<32 + 128, -1<<32 + 3, math.MaxInt, math.MinInt, math.MinInt + 3, math.MinInt + 128}

// lengths are those that a plateau is asked below.
func lengths() []int {
	far := []int{0, 1, 20, 28, 576, 1280, 1500, 1514, 9000, 65575, 65576, 1 << 17, 1 << 31, 1<<32 + 100, 1 << 40, math.MaxInt, -1, -2, -68, -69, -1500, -65536, -1 << 31, -1<<32 + 1500, math.MinInt, math.MinInt + 1500}
	for _, p := range plainPlateaus() {
		far = append(far, p-1, p, p+1)
	}
	return far
}

// plainPlateaus is the chapter's list.
func plainPlateaus() []int {
	return []int{65535, 32000, 17914, 8166, 4352, 2002, 1492, 1006, 508, 296, 68}
}

// plainPlateau is what Plateau has to answer, as the chapter says it.
func plainPlateau(length int) int {
	all := slices.DeleteFunc(plainPlateaus(), func(p int) bool { return p >= length })
	return slices.Max(append(all, 68))
}

// say is what the Codes of a Kind become: another Kind and Code, and how the Rest is made, where it is not 0.
type say struct {
	kind  int
	codes []int
	is    [2]int
	rest  string
}

// The chapter's lists of Kinds, and of pointers.
var (
	says6 = []say{
		{8, []int{0}, [2]int{128, 0}, "as it is"}, {0, []int{0}, [2]int{129, 0}, "as it is"},
		{3, []int{0, 1, 5, 6, 7, 8, 11, 12}, [2]int{1, 0}, ""}, {3, []int{9, 10, 13, 15}, [2]int{1, 1}, ""}, {3, []int{3}, [2]int{1, 4}, ""}, {3, []int{2}, [2]int{4, 1}, "six"}, {3, []int{4}, [2]int{2, 0}, "mtu"},
		{11, []int{0}, [2]int{3, 0}, ""}, {11, []int{1}, [2]int{3, 1}, ""},
		{12, []int{0, 2}, [2]int{4, 0}, "pointer"},
	}
	says4 = []say{
		{128, []int{0}, [2]int{8, 0}, "as it is"}, {129, []int{0}, [2]int{0, 0}, "as it is"},
		{1, []int{0, 2, 3}, [2]int{3, 1}, ""}, {1, []int{1}, [2]int{3, 10}, ""}, {1, []int{4}, [2]int{3, 3}, ""},
		{2, []int{0}, [2]int{3, 4}, "mtu"},
		{3, []int{0}, [2]int{11, 0}, ""}, {3, []int{1}, [2]int{11, 1}, ""},
		{4, []int{0}, [2]int{12, 0}, "pointer"}, {4, []int{1}, [2]int{3, 2}, ""},
	}
	pointers6 = map[uint32]uint32{0: 0, 1: 1, 2: 4, 3: 4, 8: 7, 9: 6, 12: 8, 13: 8, 14: 8, 15: 8, 16: 24, 17: 24, 18: 24, 19: 24}
	pointers4 = map[uint32]uint32{
		0: 0, 1: 1, 4: 2, 5: 2, 6: 9, 7: 8,
		8: 12, 9: 12, 10: 12, 11: 12, 12: 12, 13: 12, 14: 12, 15: 12, 16: 12, 17: 12, 18: 12, 19: 12, 20: 12, 21: 12, 22: 12, 23: 12,
		24: 16, 25: 16, 26: 16, 27: 16, 28: 16, 29: 16, 30: 16, 31: 16, 32: 16, 33: 16, 34: 16, 35: 16, 36: 16, 37: 16, 38: 16, 39: 16,
	}
)

// may says whether MTUs are in their bounds.
func may(x mtus) bool {
	return 68 <= x.four && x.four <= 65535 && 1280 <= x.six && x.six <= 65575
}

// find is the line of a list that a message's Kind and Code stand in.
func find(list []say, m api.Msg) (say, bool) {
	for _, s := range list {
		if s.kind == m.Kind && slices.Contains(s.codes, m.Code) {
			return s, true
		}
	}
	return say{}, false
}

// plain6 is what To6 has to answer, as the chapter says it.
func plain6(m api.Msg, x mtus, length int) (api.Msg, bool) {
	s, ok := find(says6, m)
	if !ok || !may(x) {
		return api.Msg{}, false
	}
	q := api.Msg{Kind: s.is[0], Code: s.is[1], Data: m.Data}
	switch s.rest {
	case "as it is":
		q.Rest = m.Rest
	case "six":
		q.Rest = 6
	case "pointer":
		q.Rest, ok = pointers6[m.Rest/0x1000000]
	case "mtu":
		a := int(m.Rest % 65536)
		if a == 0 {
			a = plainPlateau(length)
		}
		q.Rest = uint32(max(slices.Min([]int{a + 20, x.six, x.four + 20}), 1280))
	}
	if !ok {
		return api.Msg{}, false
	}
	return q, true
}

// plain4 is what To4 has to answer, as the chapter says it.
func plain4(m api.Msg, x mtus) (api.Msg, bool) {
	s, ok := find(says4, m)
	if !ok || !may(x) {
		return api.Msg{}, false
	}
	q := api.Msg{Kind: s.is[0], Code: s.is[1], Data: m.Data}
	switch s.rest {
	case "as it is":
		q.Rest = m.Rest
	case "pointer":
		q.Rest, ok = pointers4[m.Rest]
		q.Rest *= 0x1000000
	case "mtu":
		n := float64(m.Rest) - 20
		for _, most := range []int{x.four, x.six - 20, 65535} {
			n = min(n, float64(most))
		}
		q.Rest = uint32(max(n, 68))
	}
	if !ok {
		return api.Msg{}, false
	}
	return q, true
}

// becomes6 asks what a message of IPv4 is over IPv6: that one, or none and no message beside it.
func becomes6(t *testing.T, m api.Msg, x mtus, length int, want api.Msg, ok bool) {
	t.Helper()
	if q, is := To6(m, x.four, x.six, length); is != ok || q != want {
		t.Errorf("To6(%#v, %+v, %d): %#v, %v, not %#v, %v", m, x, length, q, is, want, ok)
	}
}

// becomes4 asks what a message of IPv6 is over IPv4, likewise.
func becomes4(t *testing.T, m api.Msg, x mtus, want api.Msg, ok bool) {
	t.Helper()
	if q, is := To4(m, x.four, x.six); is != ok || q != want {
		t.Errorf("To4(%#v, %+v): %#v, %v, not %#v, %v", m, x, q, is, want, ok)
	}
}

// asked6 asks of a message what plain6 says, and tells it.
func asked6(t *testing.T, m api.Msg, x mtus, length int) (api.Msg, bool) {
	t.Helper()
	q, ok := plain6(m, x, length)
	becomes6(t, m, x, length, q, ok)
	return q, ok
}

// asked4 asks of a message what plain4 says, and tells it.
func asked4(t *testing.T, m api.Msg, x mtus) (api.Msg, bool) {
	t.Helper()
	q, ok := plain4(m, x)
	becomes4(t, m, x, q, ok)
	return q, ok
}

// P14.1: each number of the list, one less and one more, and what is below and beyond all of them.
func TestPlateau(t *testing.T) {
	for length, want := range map[int]int{
		math.MinInt: 68, math.MinInt + 1500: 68, -1 << 32: 68, -65536: 68, -1500: 68, -69: 68, -1: 68, 0: 68, 1: 68, 67: 68, 68: 68, 69: 68,
		295: 68, 296: 68, 297: 296, 507: 296, 508: 296, 509: 508, 1005: 508, 1006: 508, 1007: 1006, 1491: 1006, 1492: 1006, 1493: 1492, 1500: 1492,
		2001: 1492, 2002: 1492, 2003: 2002, 4351: 2002, 4352: 2002, 4353: 4352, 8165: 4352, 8166: 4352, 8167: 8166, 17913: 8166, 17914: 8166, 17915: 17914,
		31999: 17914, 32000: 17914, 32001: 32000, 65534: 32000, 65535: 32000, 65536: 65535, 65575: 65535, 1 << 20: 65535, 1<<32 + 100: 65535, math.MaxInt: 65535,
	} {
		if got := Plateau(length); got != want {
			t.Errorf("%d: %d, not %d", length, got, want)
		}
	}
	for length := -100; length < 66000; length++ {
		if got := Plateau(length); got != plainPlateau(length) {
			t.Fatalf("%d: %d, not %d", length, got, plainPlateau(length))
		}
	}
	for _, length := range lengths() {
		if got := Plateau(length); got != plainPlateau(length) {
			t.Errorf("%d: %d, not %d", length, got, plainPlateau(length))
		}
	}
}

// P14.1 to P14.3: the chapter's examples.
func TestExamples(t *testing.T) {
	if a, b, c := Plateau(1500), Plateau(68), Plateau(1492); a != 1492 || b != 68 || c != 1006 {
		t.Error(a, b, c)
	}
	x := mtus{1500, 1500}
	becomes6(t, api.Msg{Kind: 3, Code: 4, Rest: 1400}, x, 0, api.Msg{Kind: 2, Rest: 1420}, true)
	becomes6(t, api.Msg{Kind: 3, Code: 4}, x, 1500, api.Msg{Kind: 2, Rest: 1500}, true)
	becomes6(t, api.Msg{Kind: 3, Code: 14}, x, 0, api.Msg{}, false)
	becomes4(t, api.Msg{Kind: 2, Rest: 1280}, x, api.Msg{Kind: 3, Code: 4, Rest: 1260}, true)
	becomes4(t, api.Msg{Kind: 4, Rest: 40}, x, api.Msg{}, false)
	becomes4(t, api.Msg{Kind: 4, Rest: 7}, x, api.Msg{Kind: 12, Rest: 8 << 24}, true)
}

// P14.2: each line of IPv4's Kinds, with a Rest that says something, and Data.
func TestLinesTo6(t *testing.T) {
	const rest = 0x0cfeba98 // the pointer is 12, the MTU more than either side's
	for from, to := range map[[2]int]api.Msg{
		{8, 0}: {Kind: 128, Rest: rest}, {0, 0}: {Kind: 129, Rest: rest},
		{3, 0}: {Kind: 1}, {3, 1}: {Kind: 1}, {3, 5}: {Kind: 1}, {3, 6}: {Kind: 1}, {3, 7}: {Kind: 1}, {3, 8}: {Kind: 1}, {3, 11}: {Kind: 1}, {3, 12}: {Kind: 1},
		{3, 9}: {Kind: 1, Code: 1}, {3, 10}: {Kind: 1, Code: 1}, {3, 13}: {Kind: 1, Code: 1}, {3, 15}: {Kind: 1, Code: 1},
		{3, 3}: {Kind: 1, Code: 4}, {3, 2}: {Kind: 4, Code: 1, Rest: 6}, {3, 4}: {Kind: 2, Rest: 1400},
		{11, 0}: {Kind: 3}, {11, 1}: {Kind: 3, Code: 1}, {12, 0}: {Kind: 4, Rest: 8}, {12, 2}: {Kind: 4, Rest: 8},
	} {
		for _, d := range []string{data, "", "x"} {
			to.Data = d
			becomes6(t, api.Msg{Kind: from[0], Code: from[1], Rest: rest, Data: d}, mtus{1500, 1400}, 1000, to, true)
		}
	}
	for _, from := range [][2]int{{3, 14}, {3, 16}, {3, 17}, {4, 0}, {5, 0}, {5, 1}, {9, 0}, {10, 0}, {11, 2}, {12, 1}, {12, 3}, {13, 0}, {14, 0}, {17, 0}, {8, 1}, {0, 1}, {1, 0}, {2, 0}, {128, 0}, {129, 0}, {255, 255}} {
		becomes6(t, api.Msg{Kind: from[0], Code: from[1], Rest: rest, Data: data}, mtus{1500, 1400}, 1000, api.Msg{}, false)
	}
}

// P14.3: each line of IPv6's Kinds, likewise.
func TestLinesTo4(t *testing.T) {
	const rest = 0xfedcba98 // no pointer, and an MTU that is more than either side's
	for from, to := range map[[2]int]api.Msg{
		{128, 0}: {Kind: 8, Rest: rest}, {129, 0}: {Kind: 0, Rest: rest},
		{1, 0}: {Kind: 3, Code: 1}, {1, 2}: {Kind: 3, Code: 1}, {1, 3}: {Kind: 3, Code: 1}, {1, 1}: {Kind: 3, Code: 10}, {1, 4}: {Kind: 3, Code: 3},
		{2, 0}: {Kind: 3, Code: 4, Rest: 1380}, {3, 0}: {Kind: 11}, {3, 1}: {Kind: 11, Code: 1}, {4, 1}: {Kind: 3, Code: 2},
	} {
		for _, d := range []string{data, "", "x"} {
			to.Data = d
			becomes4(t, api.Msg{Kind: from[0], Code: from[1], Rest: rest, Data: d}, mtus{1500, 1400}, to, true)
		}
	}
	becomes4(t, api.Msg{Kind: 4, Rest: 23, Data: data}, mtus{1500, 1400}, api.Msg{Kind: 12, Rest: 12 << 24, Data: data}, true)
	for _, from := range [][2]int{{1, 5}, {1, 6}, {1, 7}, {1, 10}, {2, 1}, {2, 4}, {3, 2}, {3, 3}, {4, 0}, {4, 2}, {4, 3}, {0, 0}, {8, 0}, {11, 0}, {12, 0}, {127, 0}, {128, 1}, {129, 1}, {130, 0}, {133, 0}, {135, 0}, {136, 0}, {137, 0}, {255, 255}} {
		becomes4(t, api.Msg{Kind: from[0], Code: from[1], Rest: rest, Data: data}, mtus{1500, 1400}, api.Msg{}, false)
	}
}

// P14.2, P14.3: every Kind with every Code, with a Rest that is a pointer, one that is none, and 0.
func TestEveryKind(t *testing.T) {
	for kind := range 256 {
		for code := range 256 {
			for _, rest := range []uint32{0, 9, 20, 1400, 9 << 24, 0x0d00ffff, 0x13010000, math.MaxUint32} {
				m := api.Msg{Kind: kind, Code: code, Rest: rest, Data: data}
				asked6(t, m, mtus{usual, usual}, 1400)
				asked4(t, m, mtus{usual, usual})
			}
		}
		if t.Failed() {
			return // one Kind tells enough
		}
	}
}

// P14.2, P14.3: Kinds and Codes that are no byte become nothing.
func TestBeyondBytes(t *testing.T) {
	right := []int{0, 1, 2, 3, 4, 8, 11, 12, 128, 129}
	all := append(slices.Clone(right), noBytes...)
	for _, kind := range all {
		for _, code := range all {
			if slices.Contains(right, kind) && slices.Contains(right, code) {
				continue
			}
			for _, rest := range []uint32{0, 1, 1400, 1 << 24} {
				m := api.Msg{Kind: kind, Code: code, Rest: rest, Data: data}
				becomes6(t, m, mtus{usual, usual}, 1400, api.Msg{}, false)
				becomes4(t, m, mtus{usual, usual}, api.Msg{}, false)
			}
		}
	}
}

// P14.2, P14.3: MTUs that are out of their bounds, and such as are just within them, of whatever message.
func TestMtus(t *testing.T) {
	messages := []api.Msg{{Kind: 8, Rest: 77}, {Kind: 0}, {Kind: 3}, {Kind: 3, Code: 2}, {Kind: 3, Code: 4, Rest: 1400}, {Kind: 3, Code: 14}, {Kind: 11}, {Kind: 12}, {Kind: 128}, {Kind: 129}, {Kind: 1}, {Kind: 2, Rest: 1400}, {Kind: 3, Code: 1}, {Kind: 4}, {Kind: 4, Code: 1}, {Kind: -1}}
	for _, x := range badMtus {
		for _, m := range messages {
			m.Data = data
			becomes6(t, m, x, 1500, api.Msg{}, false)
			becomes4(t, m, x, api.Msg{}, false)
		}
	}
	for _, x := range goodMtus {
		for _, m := range messages {
			m.Data = data
			asked6(t, m, x, 1500)
			asked4(t, m, x)
		}
		becomes6(t, api.Msg{Kind: 8, Rest: 77, Data: data}, x, 0, api.Msg{Kind: 128, Rest: 77, Data: data}, true)
		becomes4(t, api.Msg{Kind: 129, Rest: 77, Data: data}, x, api.Msg{Kind: 0, Rest: 77, Data: data}, true)
	}
}

// P14.2: what is told of the 6 side, told over IPv4 or guessed by the length, with either side's MTU as its bound.
func TestTold6(t *testing.T) {
	for _, x := range []struct {
		rest   uint32
		mtus   mtus
		length int
		want   uint32
	}{
		{1, mtus{1500, 1500}, 0, 1280}, {67, mtus{1500, 1500}, 0, 1280}, {68, mtus{1500, 1500}, 0, 1280}, {1259, mtus{1500, 1500}, 0, 1280}, {1260, mtus{1500, 1500}, 0, 1280}, {1261, mtus{1500, 1500}, 0, 1281},
		{1400, mtus{1500, 1500}, 0, 1420}, {1479, mtus{1500, 1500}, 0, 1499}, {1480, mtus{1500, 1500}, 0, 1500}, {1481, mtus{1500, 1500}, 0, 1500}, {1500, mtus{1500, 1500}, 0, 1500}, {65535, mtus{1500, 1500}, 0, 1500},
		{1399, mtus{1400, 9000}, 0, 1419}, {1400, mtus{1400, 9000}, 0, 1420}, {1401, mtus{1400, 9000}, 0, 1420}, {9000, mtus{1400, 9000}, 0, 1420},
		{1499, mtus{9000, 1520}, 0, 1519}, {1500, mtus{9000, 1520}, 0, 1520}, {1501, mtus{9000, 1520}, 0, 1520},
		{1500, mtus{68, 1280}, 0, 1280}, {1500, mtus{1259, 1500}, 0, 1280}, {1500, mtus{1260, 1500}, 0, 1280}, {1500, mtus{1261, 1500}, 0, 1281}, {65535, mtus{65535, 1280}, 0, 1280},
		{65535, mtus{65535, 65575}, 0, 65555}, {65535, mtus{65535, 65555}, 0, 65555}, {65535, mtus{65535, 65554}, 0, 65554}, {65534, mtus{65535, 65575}, 0, 65554}, {65535, mtus{65534, 65575}, 0, 65554},
		{0x10000 + 1400, mtus{1500, 1500}, 0, 1420}, {0xffff0000 + 1400, mtus{1500, 1500}, 9000, 1420}, {1400, mtus{1500, 1500}, 9000, 1420}, {1400, mtus{1500, 1500}, math.MinInt, 1420}, {0x80000001, mtus{1500, 1500}, 9000, 1280},
		{0, mtus{1500, 1500}, 1500, 1500}, {0, mtus{9000, 9000}, 1500, 1512}, {0, mtus{9000, 9000}, 1493, 1512}, {0, mtus{9000, 9000}, 1492, 1280}, {0, mtus{9000, 9000}, 2003, 2022}, {0, mtus{9000, 9000}, 2002, 1512},
		{0, mtus{9000, 9000}, 0, 1280}, {0, mtus{9000, 9000}, -1, 1280}, {0, mtus{9000, 9000}, math.MinInt, 1280}, {0, mtus{9000, 9000}, math.MaxInt, 9000}, {0, mtus{8166, 9000}, 9000, 8186}, {0, mtus{8165, 9000}, 9000, 8185},
		{0, mtus{65535, 65575}, math.MaxInt, 65555}, {0, mtus{65535, 65575}, 65536, 65555}, {0, mtus{65535, 65575}, 65535, 32020}, {0, mtus{65535, 65575}, 1<<32 + 100, 65555},
		{0x10000, mtus{9000, 9000}, 1500, 1512}, {0x10000, mtus{9000, 9000}, 0, 1280}, {0xffff0000, mtus{9000, 9000}, 2003, 2022}, {0x80000000, mtus{9000, 9000}, -5, 1280},
	} {
		becomes6(t, api.Msg{Kind: 3, Code: 4, Rest: x.rest, Data: data}, x.mtus, x.length, api.Msg{Kind: 2, Rest: x.want, Data: data}, true)
	}
}

// P14.3: what is told of the 4 side, with either side's MTU as its bound.
func TestTold4(t *testing.T) {
	for _, x := range []struct {
		rest uint32
		mtus mtus
		want uint32
	}{
		{0, mtus{1500, 1500}, 68}, {1, mtus{1500, 1500}, 68}, {19, mtus{1500, 1500}, 68}, {20, mtus{1500, 1500}, 68}, {21, mtus{1500, 1500}, 68}, {87, mtus{1500, 1500}, 68}, {88, mtus{1500, 1500}, 68}, {89, mtus{1500, 1500}, 69}, {90, mtus{1500, 1500}, 70},
		{1279, mtus{1500, 1500}, 1259}, {1280, mtus{1500, 1500}, 1260}, {1499, mtus{1500, 1500}, 1479}, {1500, mtus{1500, 1500}, 1480}, {1501, mtus{1500, 1500}, 1480}, {1520, mtus{1500, 1500}, 1480}, {9000, mtus{1500, 1500}, 1480},
		{1419, mtus{1400, 9000}, 1399}, {1420, mtus{1400, 9000}, 1400}, {1421, mtus{1400, 9000}, 1400}, {9000, mtus{1400, 9000}, 1400}, {1500, mtus{1480, 1500}, 1480}, {1500, mtus{1479, 1500}, 1479}, {1500, mtus{1481, 1500}, 1480},
		{9000, mtus{68, 1280}, 68}, {89, mtus{68, 1280}, 68}, {88, mtus{68, 65575}, 68}, {90, mtus{69, 1280}, 69}, {9000, mtus{65535, 1280}, 1260}, {9000, mtus{65535, 1281}, 1261},
		{65554, mtus{65535, 65575}, 65534}, {65555, mtus{65535, 65575}, 65535}, {65556, mtus{65535, 65575}, 65535}, {65575, mtus{65535, 65575}, 65535}, {65575, mtus{65535, 65554}, 65534}, {65575, mtus{65534, 65575}, 65534}, {65576, mtus{65535, 65575}, 65535},
		{65536, mtus{1500, 1500}, 1480}, {65536, mtus{65535, 65575}, 65516}, {65536 + 88, mtus{1500, 9000}, 1500}, {1 << 24, mtus{1500, 1500}, 1480}, {1<<31 - 1, mtus{1500, 1500}, 1480}, {1 << 31, mtus{1500, 1500}, 1480}, {1<<31 + 20, mtus{1500, 1500}, 1480},
		{math.MaxUint32, mtus{1500, 1500}, 1480}, {math.MaxUint32, mtus{65535, 65575}, 65535}, {math.MaxUint32, mtus{68, 1280}, 68}, {math.MaxUint32 - 20, mtus{65535, 65575}, 65535},
	} {
		becomes4(t, api.Msg{Kind: 2, Rest: x.rest, Data: data}, x.mtus, api.Msg{Kind: 3, Code: 4, Rest: x.want, Data: data}, true)
	}
}

// P14.2, P14.3: what is told, of all of the bounds together.
func TestToldEverywhere(t *testing.T) {
	rests := []uint32{0, 1, 19, 20, 67, 68, 87, 88, 89, 1259, 1260, 1261, 1279, 1280, 1281, 1299, 1300, 1400, 1480, 1500, 1520, 8980, 9000, 9020, 65515, 65534, 65535, 65536, 65537, 65536 + 1400, 65555, 65575, 65595, 1 << 24, 1 << 31, math.MaxUint32}
	for _, x := range append(slices.Clone(goodMtus), badMtus...) {
		for _, rest := range rests {
			asked4(t, api.Msg{Kind: 2, Rest: rest, Data: data}, x)
			for _, length := range lengths() {
				asked6(t, api.Msg{Kind: 3, Code: 4, Rest: rest, Data: data}, x, length)
			}
		}
	}
}

// P14.2: each pointer of IPv4, which the lower 24 bits do not count for; an error of Code 1 points nowhere.
func TestPointers6(t *testing.T) {
	for at := range uint32(256) {
		want, is := pointers6[at]
		for _, low := range []uint32{0, 1, 7, 0x800000, 0xffffff} {
			for _, code := range []int{0, 2} {
				m := api.Msg{Kind: 12, Code: code, Rest: at<<24 | low, Data: data}
				if is {
					becomes6(t, m, mtus{usual, usual}, 0, api.Msg{Kind: 4, Rest: want, Data: data}, true)
				} else {
					becomes6(t, m, mtus{usual, usual}, 0, api.Msg{}, false)
				}
			}
			becomes6(t, api.Msg{Kind: 12, Code: 1, Rest: at<<24 | low, Data: data}, mtus{usual, usual}, 0, api.Msg{}, false)
		}
	}
	if len(pointers6) != 14 {
		t.Errorf("%d pointers", len(pointers6))
	}
}

// P14.3: each pointer of IPv6, and ones of more than 8 bits, of which none becomes one; an unknown protocol's is not looked at.
func TestPointers4(t *testing.T) {
	for at := range uint32(256) {
		m := api.Msg{Kind: 4, Rest: at, Data: data}
		if want, is := pointers4[at]; is {
			becomes4(t, m, mtus{usual, usual}, api.Msg{Kind: 12, Rest: want << 24, Data: data}, true)
		} else {
			becomes4(t, m, mtus{usual, usual}, api.Msg{}, false)
		}
		for shift := 8; shift < 32; shift++ {
			m.Rest = at | 1<<shift
			becomes4(t, m, mtus{usual, usual}, api.Msg{}, false)
		}
		for _, rest := range []uint32{at, at << 8, at << 24, math.MaxUint32 - at} {
			becomes4(t, api.Msg{Kind: 4, Code: 1, Rest: rest, Data: data}, mtus{usual, usual}, api.Msg{Kind: 3, Code: 2, Data: data}, true)
		}
	}
	if len(pointers4) != 38 {
		t.Errorf("%d pointers", len(pointers4))
	}
}

// P14.4: an echo that went over and back is as it was, and is one over there too, that asks if it asked, of that identifier.
func TestEchoes(t *testing.T) {
	for _, x := range goodMtus {
		for _, rest := range []uint32{0, 1, 0xffff, 0x10000, 0x00010002, 0x80000000, 0xfedcba98, math.MaxUint32} {
			for _, d := range []string{"", "x", data} {
				for _, kind := range []int{8, 0} {
					m := api.Msg{Kind: kind, Rest: rest, Data: d}
					over, ok := To6(m, x.four, x.six, 0)
					back, again := To4(over, x.four, x.six)
					id, asks, is := icmp6.Echo(over)
					if !ok || !again || back != m || !is || asks != (kind == 8) || id != int(rest>>16) {
						t.Errorf("%#v: %#v, %#v", m, over, back)
					}
				}
				for _, kind := range []int{128, 129} {
					m := api.Msg{Kind: kind, Rest: rest, Data: d}
					over, ok := To4(m, x.four, x.six)
					back, again := To6(over, x.four, x.six, 0)
					id, asks, is := icmp4.Echo(over)
					if !ok || !again || back != m || !is || asks != (kind == 128) || id != int(rest>>16) {
						t.Errorf("%#v: %#v, %#v", m, over, back)
					}
				}
			}
		}
	}
}

// P14.4: an error becomes an error, and what is none becomes none; Data are as they were, and the message has bytes.
func TestErrors(t *testing.T) {
	over6, over4 := 0, 0
	for kind := range 256 {
		for code := range 256 {
			for at := range uint32(256) {
				m := api.Msg{Kind: kind, Code: code, Rest: at<<24 | at, Data: data}
				if x, ok := To6(m, usual, usual, 1400); ok {
					over6++
					if icmp6.Failure(x) != icmp4.Failure(m) || x.Data != m.Data {
						t.Fatalf("%#v: %#v", m, x)
					}
				}
				m.Rest = at
				if x, ok := To4(m, usual, usual); ok {
					over4++
					if icmp4.Failure(x) != icmp6.Failure(m) || x.Data != m.Data {
						t.Fatalf("%#v: %#v", m, x)
					}
				}
			}
		}
	}
	// 19 pairs of Kind and Code without pointers, and 2 with 14; and 11 without, and one with 38.
	if over6 != 19*256+2*14 || over4 != 11*256+38 {
		t.Errorf("%d, %d become something", over6, over4)
	}
}

// P14.4: an MTU that is told is no less than the family's least one, and no more than its side's.
func TestToldFits(t *testing.T) {
	chance := rand.New(rand.NewSource(14))
	for range 20000 {
		x := mtus{68 + chance.Intn(65535-67), 1280 + chance.Intn(65575-1279)}
		if chance.Intn(2) == 0 {
			x = goodMtus[chance.Intn(len(goodMtus))]
		}
		rest := chance.Uint32() >> chance.Intn(32)
		six, ok := asked6(t, api.Msg{Kind: 3, Code: 4, Rest: rest}, x, chance.Intn(70000)-100)
		if !ok || six.Rest < 1280 || int(six.Rest) > x.six {
			t.Fatalf("%#v of %+v, %v", six, x, ok)
		}
		four, ok := asked4(t, api.Msg{Kind: 2, Rest: rest}, x)
		if !ok || four.Rest < 68 || int(four.Rest) > x.four || int(four.Rest) > x.six-20 {
			t.Fatalf("%#v of %+v, %v", four, x, ok)
		}
	}
}

// R3: an answer hangs on nothing but what the call is given.
func TestAnswersAgain(t *testing.T) {
	chance := rand.New(rand.NewSource(15))
	for range 20000 {
		x := goodMtus[chance.Intn(len(goodMtus))]
		if chance.Intn(8) == 0 {
			x = badMtus[chance.Intn(len(badMtus))]
		}
		kinds := []int{0, 1, 2, 3, 4, 5, 8, 11, 12, 128, 129, 130}
		m := api.Msg{Kind: kinds[chance.Intn(len(kinds))], Code: chance.Intn(18) - 1, Rest: chance.Uint32() >> chance.Intn(32), Data: data[:chance.Intn(len(data))]}
		length := chance.Intn(70000) - 100
		asked6(t, m, x, length)
		asked4(t, m, x)
		asked6(t, m, x, length)
	}
}

// FuzzMessages is P14.1 to P14.4, of whatever message.
func FuzzMessages(f *testing.F) {
	f.Add(3, 4, uint32(1400), "hi", 1500, 1500, 0)
	f.Add(3, 4, uint32(0), "", 1500, 1500, 1500)
	f.Add(12, 2, uint32(9<<24), "hi", 68, 1280, -1)
	f.Add(2, 0, uint32(1280), "hi", 65535, 65575, 9)
	f.Add(4, 0, uint32(7), "hi", 1500, 1500, 9)
	f.Add(128, 0, uint32(7), "hi", 67, 1500, math.MaxInt)
	f.Add(8, 0, uint32(7), "hi", 1500, 65576, math.MinInt)
	f.Fuzz(func(t *testing.T, kind, code int, rest uint32, d string, mtu4, mtu6, length int) {
		if got := Plateau(length); got != plainPlateau(length) {
			t.Errorf("%d: %d", length, got)
		}
		m, x := api.Msg{Kind: kind, Code: code, Rest: rest, Data: d}, mtus{mtu4, mtu6}
		over, ok := asked6(t, m, x, length)
		if ok && (icmp6.Failure(over) != icmp4.Failure(m) || over.Kind == 2 && over.Rest < 1280) {
			t.Errorf("%#v: %#v", m, over)
		}
		over, ok = asked4(t, m, x)
		if ok && (icmp4.Failure(over) != icmp6.Failure(m) || over.Kind == 3 && over.Code == 4 && over.Rest < 68) {
			t.Errorf("%#v: %#v", m, over)
		}
	})
}
