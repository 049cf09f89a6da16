package tests

import (
	"bytes"
	"math"
	"strconv"
	"testing"

	"loop.example/g00607/impl"
)

// wordEdges are numbers around the limits of two bytes, and whether they are within.
var wordEdges = []struct {
	n  int
	in bool
}{
	{math.MinInt, false}, {-65536, false}, {-1, false}, {0, true}, {1, true}, {255, true}, {256, true},
	{65535, true}, {65536, false}, {65536 + 80, false}, {math.MaxInt, false},
}

func flow(addr int, port int) impl.Flow { return impl.Flow{Addr: addr, Port: port} }

// counting is a body of n bytes from a seed on.
func counting(n int, seed int) []byte {
	body := make([]byte, n)
	for i := range body {
		body[i] = byte(seed + 37*i)
	}
	return body
}

// goodPackets are packets at and between all limits.
func goodPackets() []impl.Packet {
	var all []impl.Packet
	words := []int{0, 1, 255, 256, 258, 32768, 65535}
	for i, addr := range words {
		for j, port := range words {
			for flags := range 16 {
				if flags&impl.FlSyn != 0 && flags&(impl.FlFin|impl.FlRst) != 0 {
					continue
				}
				n := (i + 3*j + 5*flags) % (impl.MaxBody + 1)
				all = append(all, impl.Packet{Flow: flow(addr, port), Flags: flags, Seq: words[(i+j+flags)%len(words)], Body: counting(n, i*j+flags)})
			}
		}
	}
	for n := range impl.MaxBody + 1 {
		all = append(all, impl.Packet{Body: counting(n, 250)}, impl.Packet{Body: make([]byte, n)})
		all = append(all, impl.Packet{Flow: flow(65535, 65535), Flags: 14, Seq: 65535, Body: bytes.Repeat([]byte{255}, n)})
	}
	return all
}

// badPackets are packets of which one thing alone is wrong.
func badPackets() map[string]impl.Packet {
	bad := map[string]impl.Packet{}
	for _, e := range wordEdges {
		if !e.in {
			n := strconv.Itoa(e.n)
			bad["Addr "+n] = impl.Packet{Flow: flow(e.n, 80), Flags: impl.FlSyn}
			bad["Port "+n] = impl.Packet{Flow: flow(80, e.n), Flags: impl.FlSyn}
			bad["Seq "+n] = impl.Packet{Seq: e.n, Flags: impl.FlSyn}
		}
	}
	for _, flags := range []int{math.MinInt, -16, -15, -1, 16, 17, 256, 257, math.MaxInt, 5, 7, 9, 11, 13, 15} {
		bad["Flags "+strconv.Itoa(flags)] = impl.Packet{Flow: flow(1, 2), Flags: flags}
	}
	for _, n := range []int{impl.MaxBody + 1, impl.MaxBody + 2, 255, 256, 257, 3000} {
		bad["Body "+strconv.Itoa(n)] = impl.Packet{Flow: flow(1, 2), Flags: impl.FlSyn, Body: make([]byte, n)}
	}
	return bad
}

func samePacket(a impl.Packet, b impl.Packet) bool {
	return a.Flow == b.Flow && a.Flags == b.Flags && a.Seq == b.Seq && bytes.Equal(a.Body, b.Body)
}

// bytesOf is PacketBytes of what has to be a packet.
func bytesOf(t *testing.T, p impl.Packet) []byte {
	t.Helper()
	b, ok := impl.PacketBytes(p)
	if !ok {
		t.Fatalf("%v has no bytes", p)
	}
	return b
}

// mustNotRead wants the zero value and false.
func mustNotRead(t *testing.T, why string, b []byte) {
	t.Helper()
	p, ok := impl.PacketRead(b)
	if ok || !samePacket(p, impl.Packet{}) {
		t.Fatalf("%s: % x was read as %v, %v", why, b, p, ok)
	}
}

func TestConstants(t *testing.T) {
	if impl.MaxBody != 16 || impl.FlSyn != 1 || impl.FlAck != 2 || impl.FlFin != 4 || impl.FlRst != 8 {
		t.Fatal("a constant is not as the document has it")
	}
}

func TestFlowOkAtItsEdges(t *testing.T) {
	for _, a := range wordEdges {
		for _, p := range wordEdges {
			if got := impl.FlowOk(flow(a.n, p.n)); got != (a.in && p.in) {
				t.Errorf("FlowOk(%d, %d) = %v", a.n, p.n, got)
			}
		}
	}
}

func TestFlowCmpGoesByAddrThenPort(t *testing.T) {
	ascending := []impl.Flow{flow(0, 0), flow(0, 1), flow(0, 65535), flow(1, 0), flow(1, 65534), flow(1, 65535), flow(2, 0), flow(65534, 65535), flow(65535, 0), flow(65535, 65535)}
	for i, a := range ascending {
		for j, b := range ascending {
			want := 0
			if i < j {
				want = -1
			} else if i > j {
				want = 1
			}
			if got := impl.FlowCmp(a, b); got != want {
				t.Errorf("FlowCmp(%v, %v) = %d, not %d", a, b, got, want)
			}
		}
	}
}

func TestFlowCmpOfNoFlowIsNought(t *testing.T) {
	good := []impl.Flow{flow(0, 0), flow(7, 9), flow(65535, 65535)}
	for _, e := range wordEdges {
		if e.in {
			continue
		}
		for _, bad := range []impl.Flow{flow(e.n, 1), flow(1, e.n), flow(e.n, e.n)} {
			for _, g := range good {
				if impl.FlowCmp(bad, g) != 0 || impl.FlowCmp(g, bad) != 0 {
					t.Errorf("%v and %v are compared", bad, g)
				}
			}
			if impl.FlowCmp(bad, flow(-2, 70000)) != 0 {
				t.Errorf("%v is compared with one that is none either", bad)
			}
		}
	}
}

func TestPacketOkWithinItsLimits(t *testing.T) {
	for _, p := range goodPackets() {
		if !impl.PacketOk(p) {
			t.Errorf("%v is refused", p)
		}
	}
	for why, p := range badPackets() {
		if impl.PacketOk(p) {
			t.Errorf("%s is accepted", why)
		}
	}
}

func TestPacketOkOfEachFlags(t *testing.T) {
	want := map[int]bool{0: true, 1: true, 2: true, 3: true, 4: true, 6: true, 8: true, 10: true, 12: true, 14: true}
	for flags := -20; flags <= 40; flags++ {
		if got := impl.PacketOk(impl.Packet{Flags: flags}); got != want[flags] {
			t.Errorf("Flags %d: %v", flags, got)
		}
	}
	for _, beside := range []int{impl.FlFin, impl.FlRst, impl.FlFin | impl.FlRst} {
		if impl.PacketOk(impl.Packet{Flags: impl.FlSyn | beside}) || !impl.PacketOk(impl.Packet{Flags: beside}) {
			t.Errorf("FlSyn beside %d", beside)
		}
	}
	if !impl.PacketOk(impl.Packet{Flags: impl.FlSyn | impl.FlAck}) {
		t.Error("FlSyn may stand beside FlAck")
	}
}

func TestCheckSumOfKnownBytes(t *testing.T) {
	cases := []struct {
		b    []byte
		want int
	}{
		{nil, 65535},
		{[]byte{}, 65535},
		{[]byte{0}, 65535},
		{[]byte{0, 0}, 65535},
		{[]byte{1}, 65535 - 256},
		{[]byte{1, 0}, 65535 - 256},
		{[]byte{0, 1}, 65534},
		{[]byte{255}, 255},
		{[]byte{255, 255}, 0},
		{[]byte{255, 255, 0, 0}, 0},
		{[]byte{255, 255, 0, 1}, 65534},
		{[]byte{255, 255, 255, 255}, 0},
		{[]byte{255, 255, 1}, 65279},
		{[]byte{255, 254, 0, 1}, 0},
		{[]byte{255, 254, 0, 2}, 65534},
		{[]byte{1, 2, 3, 4, 5}, 65535 - (258 + 772 + 1280)},
		{[]byte{128, 0, 128, 0, 128, 0}, 65535 - (3*32768 - 65535)},
	}
	for _, c := range cases {
		if got := impl.CheckSum(c.b); got != c.want {
			t.Errorf("CheckSum(% x) = %d, not %d", c.b, got, c.want)
		}
	}
}

func TestCheckSumAtItsLimit(t *testing.T) {
	for _, n := range []int{1998, 1999, 2000} {
		if got := impl.CheckSum(make([]byte, n)); got != 65535 {
			t.Errorf("%d noughts: %d", n, got)
		}
		if got := impl.CheckSum(bytes.Repeat([]byte{255}, n-n%2)); got != 0 {
			t.Errorf("%d of 255: %d", n, got)
		}
	}
	ones := bytes.Repeat([]byte{0, 1}, 1000)
	if got := impl.CheckSum(ones); got != 65535-1000 {
		t.Errorf("a thousand ones: %d", got)
	}
	for _, n := range []int{2001, 2002, 70000} {
		if got := impl.CheckSum(make([]byte, n)); got != -1 {
			t.Errorf("%d bytes: %d, not -1", n, got)
		}
	}
}

func TestCheckSumPlaysNoHeedToTheOrderOfPairs(t *testing.T) {
	for n := 0; n <= 40; n += 2 {
		b := counting(n, 201+n)
		want := impl.CheckSum(b)
		for i := 0; i < n; i += 2 {
			for j := 0; j < i; j += 2 {
				turned := bytes.Clone(b)
				copy(turned[i:i+2], b[j:j+2])
				copy(turned[j:j+2], b[i:i+2])
				if got := impl.CheckSum(turned); got != want {
					t.Fatalf("% x: %d, with pairs %d and %d changed over %d", b, want, i, j, got)
				}
			}
		}
	}
	odd := counting(7, 180)
	turned := []byte{odd[4], odd[5], odd[0], odd[1], odd[2], odd[3], odd[6]}
	if impl.CheckSum(odd) != impl.CheckSum(turned) || impl.CheckSum(odd) != impl.CheckSum(append(bytes.Clone(odd), 0)) {
		t.Error("an odd count")
	}
	if impl.CheckSum([]byte{1, 2}) == impl.CheckSum([]byte{2, 1}) {
		t.Error("within a pair the order counts")
	}
}

func TestPacketBytesOfKnownPackets(t *testing.T) {
	cases := []struct {
		p    impl.Packet
		want []byte
	}{
		{impl.Packet{}, []byte{0, 0, 0, 0, 0, 0, 0, 0, 255, 255}},
		{impl.Packet{Flow: flow(65535, 0)}, []byte{255, 255, 0, 0, 0, 0, 0, 0, 0, 0}},
		{impl.Packet{Flow: flow(258, 80), Flags: impl.FlSyn, Seq: 7, Body: []byte{1, 2, 3}}, []byte{1, 2, 0, 80, 0, 7, 1, 3, 0xf9, 0xa1, 1, 2, 3}},
		{impl.Packet{Flow: flow(0x1122, 0x3344), Flags: 14, Seq: 0x5566, Body: []byte{7}}, []byte{0x11, 0x22, 0x33, 0x44, 0x55, 0x66, 14, 1, 0x51, 0x32, 7}},
	}
	for _, c := range cases {
		if got := bytesOf(t, c.p); !bytes.Equal(got, c.want) {
			t.Errorf("%v: % x, not % x", c.p, got, c.want)
		}
	}
}

func TestPacketsComeBackFromTheirBytes(t *testing.T) {
	for _, p := range goodPackets() {
		b := bytesOf(t, p)
		if len(b) != 10+len(p.Body) || int(b[7]) != len(p.Body) || impl.CheckSum(b) != 0 {
			t.Fatalf("%v: % x with sum %d", p, b, impl.CheckSum(b))
		}
		back, ok := impl.PacketRead(b)
		if !ok || !samePacket(p, back) {
			t.Fatalf("%v came back as %v, %v", p, back, ok)
		}
	}
}

func TestNoPacketHasNoBytes(t *testing.T) {
	for why, p := range badPackets() {
		if b, ok := impl.PacketBytes(p); ok || len(b) != 0 {
			t.Errorf("%s: % x, %v", why, b, ok)
		}
	}
}

func TestBytesOfAnotherLengthAreNoPacket(t *testing.T) {
	mustNotRead(t, "nil", nil)
	for n := range 30 {
		mustNotRead(t, "noughts", make([]byte, n))
	}
	for _, p := range goodPackets() {
		b := bytesOf(t, p)
		for n := range b {
			mustNotRead(t, "cut short", b[:n])
		}
		for _, last := range []byte{0, 1, 255} {
			mustNotRead(t, "one too many", append(bytes.Clone(b), last))
		}
		mustNotRead(t, "two too many", append(bytes.Clone(b), 0, 0))
	}
}

func TestBytesWithOneChangedAreNoPacket(t *testing.T) {
	for i, p := range goodPackets() {
		if i%7 != 0 {
			continue
		}
		b := bytesOf(t, p)
		for at := range b {
			turned := bytes.Clone(b)
			for range 255 {
				turned[at]++
				mustNotRead(t, "one changed", turned)
			}
		}
	}
}

// withSum is b with S set so that its sum is 0.
func withSum(b []byte) []byte {
	b = bytes.Clone(b)
	b[8], b[9] = 0, 0
	s := impl.CheckSum(b)
	b[8], b[9] = byte(s>>8), byte(s)
	return b
}

func TestASumOfNoughtAloneIsNoPacket(t *testing.T) {
	other := []byte{255, 255, 0, 0, 0, 0, 0, 0, 255, 255}
	if impl.CheckSum(other) != 0 {
		t.Fatal("65535 as S sums up to nought too")
	}
	mustNotRead(t, "S is 65535, not 0", other)
	mustNotRead(t, "Flags 5", withSum([]byte{0, 1, 0, 2, 0, 3, 5, 0, 0, 0}))
	mustNotRead(t, "Flags 9", withSum([]byte{0, 1, 0, 2, 0, 3, 9, 0, 0, 0}))
	mustNotRead(t, "Flags 16", withSum([]byte{0, 1, 0, 2, 0, 3, 16, 0, 0, 0}))
	mustNotRead(t, "Flags 255", withSum([]byte{0, 1, 0, 2, 0, 3, 255, 0, 0, 0}))
	mustNotRead(t, "length 1 with no body", withSum([]byte{0, 1, 0, 2, 0, 3, 1, 1, 0, 0}))
	mustNotRead(t, "length 0 with a body", withSum([]byte{0, 1, 0, 2, 0, 3, 1, 0, 0, 0, 9}))
	mustNotRead(t, "length 1 with two", withSum([]byte{0, 1, 0, 2, 0, 3, 1, 1, 0, 0, 9, 9}))
	over := make([]byte, 10+impl.MaxBody+1)
	over[7] = impl.MaxBody + 1
	mustNotRead(t, "too great a body", withSum(over))
	full := withSum(append([]byte{0, 1, 0, 2, 0, 3, 1, impl.MaxBody, 0, 0}, counting(impl.MaxBody, 3)...))
	if p, ok := impl.PacketRead(full); !ok || len(p.Body) != impl.MaxBody {
		t.Error("MaxBody bytes are a body")
	}
	mustNotRead(t, "very many", make([]byte, 100000))
}

func TestWhateverIsReadIsJustItsBytes(t *testing.T) {
	state, read := uint32(1), 0
	next := func() byte {
		state = state*1664525 + 1013904223
		return byte(state >> 24)
	}
	for range 20000 {
		b := make([]byte, 10+int(next())%(impl.MaxBody+2))
		for i := range b {
			b[i] = next()
		}
		b[6] %= 20
		b[7] = byte(len(b) - 10)
		b = withSum(b)
		p, ok := impl.PacketRead(b)
		if !ok {
			mustNotRead(t, "refused", b)
			continue
		}
		read++
		if own := bytesOf(t, p); !bytes.Equal(own, b) {
			t.Fatalf("% x was read as %v, whose bytes are % x", b, p, own)
		}
	}
	if read < 5000 {
		t.Fatalf("of all only %d were read", read)
	}
}

func TestOpensWithSynAndWithoutAck(t *testing.T) {
	for flags := -2; flags < 20; flags++ {
		if got := impl.Opens(impl.Packet{Flow: flow(3, 4), Flags: flags, Body: []byte{1}}); got != (flags == impl.FlSyn) {
			t.Errorf("Flags %d: %v", flags, got)
		}
	}
	for why, p := range badPackets() {
		if impl.Opens(p) {
			t.Errorf("%s opens", why)
		}
	}
}

func TestPacketText(t *testing.T) {
	cases := []struct {
		p    impl.Packet
		want string
	}{
		{impl.Packet{}, "0:0  #0 +0"},
		{impl.Packet{Flow: flow(258, 80), Flags: impl.FlSyn, Seq: 7, Body: []byte{1, 2, 3}}, "258:80 s #7 +3"},
		{impl.Packet{Flow: flow(65535, 65535), Seq: 65535, Body: make([]byte, 16)}, "65535:65535  #65535 +16"},
		{impl.Packet{Flow: flow(1, 2), Flags: impl.FlSyn | impl.FlAck, Seq: 10}, "1:2 sa #10 +0"},
		{impl.Packet{Flow: flow(1, 2), Flags: impl.FlAck}, "1:2 a #0 +0"},
		{impl.Packet{Flow: flow(1, 2), Flags: impl.FlFin}, "1:2 f #0 +0"},
		{impl.Packet{Flow: flow(1, 2), Flags: impl.FlRst}, "1:2 r #0 +0"},
		{impl.Packet{Flow: flow(1, 2), Flags: impl.FlAck | impl.FlFin}, "1:2 af #0 +0"},
		{impl.Packet{Flow: flow(1, 2), Flags: impl.FlAck | impl.FlRst}, "1:2 ar #0 +0"},
		{impl.Packet{Flow: flow(1, 2), Flags: impl.FlFin | impl.FlRst}, "1:2 fr #0 +0"},
		{impl.Packet{Flow: flow(1, 2), Flags: impl.FlAck | impl.FlFin | impl.FlRst}, "1:2 afr #0 +0"},
	}
	for _, c := range cases {
		if got := string(impl.PacketText(c.p)); got != c.want {
			t.Errorf("%v: %q, not %q", c.p, got, c.want)
		}
	}
	for why, p := range badPackets() {
		if got := impl.PacketText(p); len(got) != 0 {
			t.Errorf("%s: %q", why, got)
		}
	}
}
