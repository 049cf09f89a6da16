package tests

import (
	"bytes"
	"math"
	"slices"
	"strconv"
	"testing"

	"loop.example/g00607/impl"
)

func own(back int) impl.Seg { return impl.Seg{Back: back, Fn: impl.SgOwn} }

func hunt(back int) impl.Seg { return impl.Seg{Back: back, Fn: impl.SgHunt} }

// opening and following are packets of one flow.
func opening() impl.Packet {
	return impl.Packet{Flow: flow(258, 80), Flags: impl.FlSyn, Seq: 7, Body: []byte{1, 2, 3}}
}

func following() impl.Packet {
	return impl.Packet{Flow: flow(258, 80), Flags: impl.FlAck, Seq: 8, Body: []byte{4}}
}

// owned is a route of n, none of which is hunted.
func owned(n int) []impl.Seg {
	segs := make([]impl.Seg, n)
	for i := range segs {
		segs[i] = own((2 + i) % impl.MaxBack)
	}
	return segs
}

// route is one of n, of which the last h are hunted.
func route(n int, h int) []impl.Seg {
	segs := owned(n)
	for i := n - h; i < n; i++ {
		segs[i].Fn = impl.SgHunt
	}
	return segs
}

// goodCarriers are carriers at and between all limits.
func goodCarriers() []impl.Carrier {
	stamps := []int{0, 1, 255, 256, 258, 65535, 65536, 66051, 99999, 100000}
	var all []impl.Carrier
	for n := 1; n <= impl.MaxSegs; n++ {
		for h := 0; h <= n; h++ {
			for _, at := range []int{0, n / 2, n - 1} {
				stamp := stamps[(n+h+at)%len(stamps)]
				all = append(all, impl.Carrier{P: opening(), Segs: route(n, h), At: at, Stamp: stamp})
			}
		}
	}
	for i, p := range goodPackets() {
		n := 1 + i%impl.MaxSegs
		all = append(all, impl.Carrier{P: p, Segs: owned(n), At: i % n, Stamp: stamps[i%len(stamps)]})
	}
	return all
}

// badCarriers are carriers of which one thing alone is wrong.
func badCarriers() map[string]impl.Carrier {
	bad := map[string]impl.Carrier{
		"the zero value":              {},
		"no Segs":                     {P: opening()},
		"no Segs, At -1":              {P: opening(), At: -1},
		"one Seg too many":            {P: opening(), Segs: owned(impl.MaxSegs + 1)},
		"one hunted too many":         {P: opening(), Segs: route(impl.MaxSegs+1, 2)},
		"256 Segs":                    {P: opening(), Segs: owned(256)},
		"257 Segs":                    {P: opening(), Segs: owned(257)},
		"hunt without a flag":         {P: impl.Packet{}, Segs: []impl.Seg{own(1), hunt(2)}},
		"hunt in what follows":        {P: following(), Segs: []impl.Seg{own(1), hunt(2)}},
		"hunt alone in what follows":  {P: following(), Segs: []impl.Seg{hunt(2)}},
		"hunt beside syn and ack":     {P: impl.Packet{Flags: impl.FlSyn | impl.FlAck}, Segs: []impl.Seg{hunt(2)}},
		"hunt in what ends":           {P: impl.Packet{Flags: impl.FlFin}, Segs: []impl.Seg{hunt(2)}},
		"own behind a hunt":           {P: opening(), Segs: []impl.Seg{hunt(1), own(2)}},
		"own between two hunts":       {P: opening(), Segs: []impl.Seg{hunt(1), own(2), hunt(3)}},
		"own far behind a hunt":       {P: opening(), Segs: []impl.Seg{own(0), hunt(1), hunt(2), own(3)}},
		"own behind, not in an opens": {P: following(), Segs: []impl.Seg{hunt(1), own(2)}},
	}
	for why, p := range badPackets() {
		bad["packet: "+why] = impl.Carrier{P: p, Segs: owned(2)}
	}
	for _, at := range []int{math.MinInt, -256, -1, 3, 4, 256, 258, math.MaxInt} {
		bad["At "+strconv.Itoa(at)] = impl.Carrier{P: opening(), Segs: route(3, 2), At: at}
	}
	for _, stamp := range []int{math.MinInt, -1, 100001, 1 << 24, 1<<24 + 5, math.MaxInt} {
		bad["Stamp "+strconv.Itoa(stamp)] = impl.Carrier{P: opening(), Segs: route(3, 2), Stamp: stamp}
	}
	for why, s := range badSegs() {
		for at := range 3 {
			segs := owned(3)
			segs[at] = s
			bad["place "+strconv.Itoa(at)+": "+why] = impl.Carrier{P: opening(), Segs: segs}
		}
	}
	return bad
}

// badSegs are Segs of which one thing alone is wrong.
func badSegs() map[string]impl.Seg {
	bad := map[string]impl.Seg{}
	for _, back := range []int{math.MinInt, -256, -1, impl.MaxBack, impl.MaxBack + 1, 16, 256, 258, math.MaxInt} {
		bad["Back "+strconv.Itoa(back)] = own(back)
	}
	for _, fn := range []int{math.MinInt, -2, -1, 2, 3, 16, 17, 256, 257, math.MaxInt} {
		bad["Fn "+strconv.Itoa(fn)] = impl.Seg{Back: 1, Fn: fn}
	}
	return bad
}

func sameCarrier(a impl.Carrier, b impl.Carrier) bool {
	return samePacket(a.P, b.P) && slices.Equal(a.Segs, b.Segs) && a.At == b.At && a.Stamp == b.Stamp
}

// carrierBytes is CarrierBytes of what has to be a carrier.
func carrierBytes(t *testing.T, c impl.Carrier) []byte {
	t.Helper()
	b, ok := impl.CarrierBytes(c)
	if !ok {
		t.Fatalf("%v has no bytes", c)
	}
	return b
}

// mustBeNoCarrier wants the zero value and false.
func mustBeNoCarrier(t *testing.T, why string, b []byte) {
	t.Helper()
	c, ok := impl.CarrierRead(b)
	if ok || !sameCarrier(c, impl.Carrier{}) {
		t.Fatalf("%s: % x was read as %v, %v", why, b, c, ok)
	}
}

// readExactly wants either no carrier, or one whose bytes are b; it tells which.
func readExactly(t *testing.T, b []byte) bool {
	t.Helper()
	c, ok := impl.CarrierRead(b)
	if !ok {
		mustBeNoCarrier(t, "refused", b)
		return false
	}
	if back := carrierBytes(t, c); !bytes.Equal(back, b) {
		t.Fatalf("% x was read as %v, whose bytes are % x", b, c, back)
	}
	return true
}

func TestConstantsOfRoutes(t *testing.T) {
	if impl.MaxBack != 6 || impl.MaxSegs != 24 || impl.SgOwn != 0 || impl.SgHunt != 1 {
		t.Fatal("a constant is not as the document has it")
	}
}

func TestSegOkAtItsEdges(t *testing.T) {
	for _, back := range []int{-1, 0, 1, impl.MaxBack - 1, impl.MaxBack} {
		for _, fn := range []int{-1, impl.SgOwn, impl.SgHunt, impl.SgHunt + 1} {
			want := back >= 0 && back <= 5 && (fn == 0 || fn == 1)
			if got := impl.SegOk(impl.Seg{Back: back, Fn: fn}); got != want {
				t.Errorf("Back %d, Fn %d: %v", back, fn, got)
			}
		}
	}
	for why, s := range badSegs() {
		if impl.SegOk(s) {
			t.Errorf("%s is accepted", why)
		}
	}
}

func TestCarrierOkWithinItsLimits(t *testing.T) {
	for _, c := range goodCarriers() {
		if !impl.CarrierOk(c) {
			t.Errorf("%v is refused", c)
		}
	}
	for why, c := range badCarriers() {
		if impl.CarrierOk(c) {
			t.Errorf("%s is accepted", why)
		}
	}
}

func TestCarrierOkAtEachNumber(t *testing.T) {
	for n := range impl.MaxSegs + 3 {
		for at := -2; at < n+3; at++ {
			want := n <= 24 && at >= 0 && at < n
			if got := impl.CarrierOk(impl.Carrier{P: following(), Segs: owned(n), At: at}); got != want {
				t.Errorf("%d Segs, At %d: %v", n, at, got)
			}
		}
	}
	for stamp, want := range map[int]bool{-1: false, 0: true, 1: true, 99999: true, 100000: true, 100001: false} {
		if got := impl.CarrierOk(impl.Carrier{P: following(), Segs: owned(1), Stamp: stamp}); got != want {
			t.Errorf("Stamp %d: %v", stamp, got)
		}
	}
}

func TestCarrierOkOfEachOrder(t *testing.T) {
	for mask := range 16 {
		var segs []impl.Seg
		for i := range 4 {
			segs = append(segs, impl.Seg{Back: 1, Fn: mask >> i & 1})
		}
		inOrder := mask == 0 || mask == 8 || mask == 12 || mask == 14 || mask == 15
		if got := impl.CarrierOk(impl.Carrier{P: opening(), Segs: segs}); got != inOrder {
			t.Errorf("%v in what opens: %v", segs, got)
		}
		if got := impl.CarrierOk(impl.Carrier{P: following(), Segs: segs}); got != (mask == 0) {
			t.Errorf("%v in what follows: %v", segs, got)
		}
	}
}

func TestWhatIsCarriedOnComesToEachInOrder(t *testing.T) {
	for _, c := range goodCarriers() {
		c.At = 0
		hunted := impl.HuntPair(c)
		for place, want := range c.Segs {
			s, ok := impl.Here(c)
			if !ok || s != want || c.At != place {
				t.Fatalf("at place %d of %v: %v, %v", place, c, s, ok)
			}
			if got := impl.HuntPair(c); !slices.Equal(got, hunted) {
				t.Fatalf("at place %d of %v: %v, not %v", place, c, got, hunted)
			}
			next, on := impl.Next(c)
			wanted := c
			if place < len(c.Segs)-1 {
				wanted.At++
			}
			if on != (wanted.At != c.At) || !sameCarrier(next, wanted) {
				t.Fatalf("behind place %d of %v: %v, %v", place, c, next, on)
			}
			c = next
		}
	}
}

func TestTheLastStaysTheLast(t *testing.T) {
	for n := 1; n <= impl.MaxSegs; n++ {
		last := impl.Carrier{P: opening(), Segs: route(n, n/2), At: n - 1, Stamp: 100000}
		for range 3 {
			next, ok := impl.Next(last)
			if ok || !sameCarrier(next, last) {
				t.Fatalf("%d Segs: behind the last is %v, %v", n, next, ok)
			}
		}
	}
}

func TestHuntPairIsEachHuntedInOrder(t *testing.T) {
	cases := []struct {
		segs []impl.Seg
		want []int
	}{
		{[]impl.Seg{own(3)}, nil},
		{[]impl.Seg{hunt(3)}, []int{3}},
		{[]impl.Seg{own(5), own(0)}, nil},
		{[]impl.Seg{own(2), hunt(5), hunt(0)}, []int{5, 0}},
		{[]impl.Seg{own(2), hunt(0), hunt(5)}, []int{0, 5}},
		{[]impl.Seg{hunt(4), hunt(4)}, []int{4, 4}},
		{[]impl.Seg{hunt(1), hunt(0), hunt(1), hunt(5)}, []int{1, 0, 1, 5}},
	}
	for _, c := range cases {
		for at := range c.segs {
			if got := impl.HuntPair(impl.Carrier{P: opening(), Segs: c.segs, At: at}); !slices.Equal(got, c.want) {
				t.Errorf("%v at %d: %v, not %v", c.segs, at, got, c.want)
			}
		}
	}
	all := impl.HuntPair(impl.Carrier{P: opening(), Segs: route(impl.MaxSegs, impl.MaxSegs)})
	if len(all) != impl.MaxSegs || all[0] != 2 || all[impl.MaxSegs-1] != 1 {
		t.Errorf("all hunted: %v", all)
	}
}

func TestNoCarrierHasOneFixedAnswer(t *testing.T) {
	for why, c := range badCarriers() {
		if next, ok := impl.Next(c); ok || !sameCarrier(next, impl.Carrier{}) {
			t.Errorf("%s: Next %v, %v", why, next, ok)
		}
		if s, ok := impl.Here(c); ok || s != (impl.Seg{}) {
			t.Errorf("%s: Here %v, %v", why, s, ok)
		}
		if pair := impl.HuntPair(c); len(pair) != 0 {
			t.Errorf("%s: HuntPair %v", why, pair)
		}
		if b, ok := impl.CarrierBytes(c); ok || len(b) != 0 {
			t.Errorf("%s: CarrierBytes % x, %v", why, b, ok)
		}
		if text := impl.CarrierText(c); len(text) != 0 {
			t.Errorf("%s: CarrierText %q", why, text)
		}
	}
}

func TestCarrierBytesOfKnownCarriers(t *testing.T) {
	packet := []byte{1, 2, 0, 80, 0, 7, 1, 3, 0xf9, 0xa1, 1, 2, 3}
	cases := []struct {
		c    impl.Carrier
		want []byte
	}{
		{impl.Carrier{Segs: []impl.Seg{own(0)}}, []byte{1, 0, 0, 0, 0, 0, 0, 0, 0, 0, 0, 0, 0, 0, 255, 255}},
		{impl.Carrier{P: opening(), Segs: []impl.Seg{own(5)}, Stamp: 100000}, append([]byte{1, 0, 1, 0x86, 0xa0, 5}, packet...)},
		{impl.Carrier{P: opening(), Segs: []impl.Seg{own(3), hunt(4), hunt(0)}, At: 2, Stamp: 66051}, append([]byte{3, 2, 1, 2, 3, 3, 20, 16}, packet...)},
		{impl.Carrier{P: opening(), Segs: []impl.Seg{hunt(5), hunt(5)}, At: 1, Stamp: 255}, append([]byte{2, 1, 0, 0, 255, 21, 21}, packet...)},
	}
	for _, c := range cases {
		if got := carrierBytes(t, c.c); !bytes.Equal(got, c.want) {
			t.Errorf("%v: % x, not % x", c.c, got, c.want)
		}
		if back, ok := impl.CarrierRead(c.want); !ok || !sameCarrier(back, c.c) {
			t.Errorf("% x: %v, %v, not %v", c.want, back, ok, c.c)
		}
	}
}

func TestCarriersComeBackFromTheirBytes(t *testing.T) {
	for _, c := range goodCarriers() {
		b := carrierBytes(t, c)
		if len(b) != 5+len(c.Segs)+10+len(c.P.Body) {
			t.Fatalf("%v: % x", c, b)
		}
		if back, ok := impl.CarrierRead(b); !ok || !sameCarrier(c, back) {
			t.Fatalf("%v came back as %v, %v", c, back, ok)
		}
	}
}

func TestBytesOfAnotherLengthAreNoCarrier(t *testing.T) {
	mustBeNoCarrier(t, "no bytes", nil)
	mustBeNoCarrier(t, "no bytes", []byte{})
	for n := range 60 {
		mustBeNoCarrier(t, "noughts", make([]byte, n))
		mustBeNoCarrier(t, "ones", bytes.Repeat([]byte{1}, n))
		mustBeNoCarrier(t, "all set", bytes.Repeat([]byte{255}, n))
	}
	for _, c := range goodCarriers() {
		b := carrierBytes(t, c)
		for n := range b {
			mustBeNoCarrier(t, "cut short", b[:n])
		}
		for _, last := range []byte{0, 1, 255} {
			mustBeNoCarrier(t, "one too many", append(bytes.Clone(b), last))
		}
		mustBeNoCarrier(t, "one too many ahead", append([]byte{1}, b...))
	}
	mustBeNoCarrier(t, "very many", make([]byte, 100000))
	mustBeNoCarrier(t, "very many", bytes.Repeat([]byte{24}, 100000))
}

// A changed byte of the route may make another carrier, but then one with just these bytes.
func TestBytesWithOneChangedAreNotThatCarrier(t *testing.T) {
	for i, c := range goodCarriers() {
		if i%37 != 0 {
			continue
		}
		b := carrierBytes(t, c)
		for at := range b {
			turned := bytes.Clone(b)
			for range 255 {
				turned[at]++
				if readExactly(t, turned) && at >= 5+len(c.Segs) {
					t.Fatalf("% x is read, though its packet is none", turned)
				}
			}
		}
	}
}

func TestBytesThatNoCarrierHas(t *testing.T) {
	packet := bytesOf(t, opening())
	after := bytesOf(t, following())
	with := func(head []byte, packet []byte) []byte { return append(bytes.Clone(head), packet...) }
	if !readExactly(t, with([]byte{2, 1, 1, 0x86, 0xa0, 5, 21}, packet)) {
		t.Fatal("what is right is refused")
	}
	cases := map[string][]byte{
		"no packet":               {2, 1, 0, 0, 0, 5, 21},
		"no Segs":                 with([]byte{0, 0, 0, 0, 0}, packet),
		"more Segs than there":    with([]byte{3, 1, 0, 0, 0, 5, 21}, packet),
		"fewer Segs than there":   with([]byte{1, 0, 0, 0, 0, 5, 21}, packet),
		"a great many Segs":       with([]byte{255, 0, 0, 0, 0, 5, 21}, packet),
		"At behind the last":      with([]byte{2, 2, 0, 0, 0, 5, 21}, packet),
		"At 255":                  with([]byte{2, 255, 0, 0, 0, 5, 21}, packet),
		"Stamp 100001":            with([]byte{2, 1, 1, 0x86, 0xa1, 5, 21}, packet),
		"the greatest Stamp":      with([]byte{2, 1, 255, 255, 255, 5, 21}, packet),
		"Back 6":                  with([]byte{2, 1, 0, 0, 0, 6, 21}, packet),
		"Back 15":                 with([]byte{2, 1, 0, 0, 0, 5, 31}, packet),
		"hunted Back 6":           with([]byte{2, 1, 0, 0, 0, 5, 22}, packet),
		"Fn 2":                    with([]byte{2, 1, 0, 0, 0, 5, 37}, packet),
		"Fn 15":                   with([]byte{2, 1, 0, 0, 0, 5, 245}, packet),
		"own behind hunt":         with([]byte{2, 1, 0, 0, 0, 21, 5}, packet),
		"hunt in what follows":    with([]byte{2, 1, 0, 0, 0, 5, 21}, after),
		"a packet that is cut":    with([]byte{2, 1, 0, 0, 0, 5, 21}, packet[:len(packet)-1]),
		"a packet's other sum":    with([]byte{1, 0, 0, 0, 0, 5}, []byte{255, 255, 0, 0, 0, 0, 0, 0, 255, 255}),
		"a packet with Flags 5":   with([]byte{1, 0, 0, 0, 0, 5}, withSum([]byte{0, 1, 0, 2, 0, 3, 5, 0, 0, 0})),
		"a packet behind another": with([]byte{2, 1, 0, 0, 0, 5, 21}, append(bytes.Clone(packet), packet...)),
		"a packet alone":          packet,
	}
	for why, b := range cases {
		mustBeNoCarrier(t, why, b)
	}
	many := with(append([]byte{impl.MaxSegs, 0, 0, 0, 0}, make([]byte, impl.MaxSegs)...), packet)
	if !readExactly(t, many) {
		t.Error("MaxSegs are refused")
	}
	over := with(append([]byte{impl.MaxSegs + 1, 0, 0, 0, 0}, make([]byte, impl.MaxSegs+1)...), packet)
	mustBeNoCarrier(t, "one Seg too many", over)
}

func TestWhateverIsReadAsACarrierIsJustItsBytes(t *testing.T) {
	state, read := uint32(7), 0
	next := func(below int) byte {
		state = state*1664525 + 1013904223
		return byte(int(state>>20) % below)
	}
	packets := [][]byte{bytesOf(t, opening()), bytesOf(t, following()), bytesOf(t, impl.Packet{})}
	for i := range 30000 {
		n, hunts := int(next(impl.MaxSegs+3)), int(next(4))
		b := []byte{byte(n), next(n + 1), next(2), next(150), next(256)}
		for j := range n {
			s := next(6)
			if j >= n-hunts {
				s += 16
			}
			if next(100) == 0 {
				s = next(256)
			}
			b = append(b, s)
		}
		if readExactly(t, append(b, packets[i%len(packets)]...)) {
			read++
		}
	}
	if read < 5000 || read > 25000 {
		t.Fatalf("of all %d were read", read)
	}
}

func TestCarrierText(t *testing.T) {
	three := []impl.Seg{own(3), hunt(4), hunt(0)}
	cases := []struct {
		c    impl.Carrier
		want string
	}{
		{impl.Carrier{Segs: []impl.Seg{own(0)}}, "0:0  #0 +0 >o0"},
		{impl.Carrier{P: opening(), Segs: []impl.Seg{hunt(5)}, Stamp: 9}, "258:80 s #7 +3 >h5"},
		{impl.Carrier{P: opening(), Segs: three}, "258:80 s #7 +3 >o3 h4 h0"},
		{impl.Carrier{P: opening(), Segs: three, At: 1}, "258:80 s #7 +3 o3 >h4 h0"},
		{impl.Carrier{P: opening(), Segs: three, At: 2}, "258:80 s #7 +3 o3 h4 >h0"},
		{impl.Carrier{P: following(), Segs: []impl.Seg{own(1), own(1)}, At: 1}, "258:80 a #8 +1 o1 >o1"},
		{impl.Carrier{P: following(), Segs: owned(24), At: 23}, "258:80 a #8 +1 o2 o3 o4 o5 o0 o1 o2 o3 o4 o5 o0 o1 o2 o3 o4 o5 o0 o1 o2 o3 o4 o5 o0 >o1"},
	}
	for _, c := range cases {
		if got := string(impl.CarrierText(c.c)); got != c.want {
			t.Errorf("%v: %q, not %q", c.c, got, c.want)
		}
	}
}
