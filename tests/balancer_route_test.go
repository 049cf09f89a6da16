package tests

import (
	"slices"
	"strconv"
	"strings"
	"testing"

	"loop.example/g00607/impl"
)

// segsText has a word for each Seg: o or h, and Back.
func segsText(segs []impl.Seg) string {
	var words []string
	for _, s := range segs {
		words = append(words, string("oh"[s.Fn])+strconv.Itoa(s.Back))
	}
	return strings.Join(words, " ")
}

// routeBy goes table by table, and asks everybody once.
func routeBy(b impl.Bal, p impl.Packet) []impl.Seg {
	var segs []impl.Seg
	ask := func(id int) {
		if !slices.Contains(segs, own(id)) {
			segs = append(segs, own(id))
		}
	}
	if s, is := keptIn(b.Hints)[p.Flow]; is {
		ask(s.Val)
	}
	bucket := impl.BucketOf(b.Pool.Key, p.Flow)
	for _, table := range b.Pool.Ring {
		for _, id := range table[bucket] {
			ask(id)
		}
	}
	if p.Flags&impl.FlSyn != 0 && p.Flags&impl.FlAck == 0 {
		for _, id := range b.Pool.Ring[0][bucket] {
			segs = append(segs, hunt(id))
		}
	}
	return segs
}

// unasked tells how a route breaks its promise; nothing, if it keeps it.
func unasked(b impl.Bal, p impl.Packet, segs []impl.Seg) string {
	bucket := impl.BucketOf(b.Pool.Key, p.Flow)
	var asked, hunted []int
	for _, s := range segs {
		if s.Fn == impl.SgHunt {
			hunted = append(hunted, s.Back)
			continue
		}
		if len(hunted) > 0 || slices.Contains(asked, s.Back) {
			return "somebody is asked behind a hunt, or twice"
		}
		asked = append(asked, s.Back)
	}
	if impl.Opens(p) && !slices.Equal(hunted, b.Pool.Ring[0][bucket]) || !impl.Opens(p) && len(hunted) > 0 {
		return "not the pair of its bucket is hunted"
	}
	others := impl.Candidates(b.Pool, bucket)
	if hint := impl.Hint(b, p.Flow); hint >= 0 {
		if len(asked) == 0 || asked[0] != hint {
			return "the hint is not the first"
		}
		asked = asked[1:]
		others = slices.DeleteFunc(others, func(id int) bool { return id == hint })
	}
	if !slices.Equal(asked, others) {
		return "not the candidates are asked, in their order"
	}
	return ""
}

// mustRoute wants a route to be what the document says of it, and what is sent to have it.
func mustRoute(t *testing.T, b impl.Bal, p impl.Packet) []impl.Seg {
	t.Helper()
	got, want := impl.RouteOf(b, p), routeBy(b, p)
	if !slices.Equal(got, want) {
		t.Fatalf("RouteOf(%v, %v) = %s, not %s", b, p, segsText(got), segsText(want))
	}
	if why := unasked(b, p, got); why != "" {
		t.Fatalf("RouteOf(%v, %v) = %s: %s", b, p, segsText(got), why)
	}
	return got
}

// askedOf are flows that b has a hint for, and others of each bucket.
func askedOf(b impl.Bal) []impl.Flow {
	all := append(impl.FlowsOf(b.Hints), flow(0, 0), flow(65535, 65535), mine)
	for bucket := range impl.Buckets {
		all = append(all, inBucket(b.Pool.Key, bucket))
	}
	return all
}

// inBucket is a flow of a bucket.
func inBucket(key int, bucket int) impl.Flow {
	f := flow(258, 0)
	for impl.BucketOf(key, f) != bucket {
		f.Port++
	}
	return f
}

func TestARouteAsksAllCandidatesEachOnce(t *testing.T) {
	for i, b := range goodBals() {
		for k, f := range askedOf(b) {
			mustRoute(t, b, impl.Packet{Flow: f, Flags: impl.FlSyn, Body: []byte{1}})
			mustRoute(t, b, impl.Packet{Flow: f, Flags: followingFlags[(i+k)%len(followingFlags)]})
		}
	}
}

func TestWhatOpensHuntsAndNothingElse(t *testing.T) {
	for _, b := range someBals() {
		bucket := impl.BucketOf(b.Pool.Key, mine)
		for flags := range 16 {
			p := impl.Packet{Flow: mine, Flags: flags, Seq: 5}
			if !impl.PacketOk(p) {
				continue
			}
			hunted := 0
			for _, s := range mustRoute(t, b, p) {
				hunted += s.Fn
			}
			want := 0
			if flags == impl.FlSyn {
				want = len(b.Pool.Ring[0][bucket])
			}
			if hunted != want {
				t.Fatalf("flags %d: %d are hunted, not %d", flags, hunted, want)
			}
		}
	}
}

func TestRoutesOfKnownBalancers(t *testing.T) {
	// By the key 7 the flow mine is of bucket 0, 258:81 of 6; the tables of 1, of 1 and 2, of 1, 2 and 4, of 1 and 4
	// have [1 1], [2 1], [2 1], [1 4] in bucket 0, and [1 1], [2 1], [2 4], [4 1] in bucket 6.
	four := []impl.PoolCmd{add(1, 1), add(2, 5), add(4, 2), remove(2)}
	for _, c := range []struct {
		why     string
		cmds    []impl.PoolCmd
		port    int
		hint    int
		opens   string
		follows string
	}{
		{"nobody", nil, 80, -1, "", ""},
		{"nobody but a hint", nil, 80, 3, "o3", "o3"},
		{"one", four[:1], 80, -1, "o1 h1 h1", "o1"},
		{"one, who is the hint", four[:1], 80, 1, "o1 h1 h1", "o1"},
		{"one, another is the hint", four[:1], 80, 0, "o0 o1 h1 h1", "o0 o1"},
		{"two", four[:2], 80, -1, "o2 o1 h2 h1", "o2 o1"},
		{"two, the first is the hint", four[:2], 80, 2, "o2 o1 h2 h1", "o2 o1"},
		{"two, the second is the hint", four[:2], 80, 1, "o1 o2 h2 h1", "o1 o2"},
		{"two, another is the hint", four[:2], 80, 5, "o5 o2 o1 h2 h1", "o5 o2 o1"},
		{"three", four[:3], 80, -1, "o2 o1 h2 h1", "o2 o1"},
		{"three, in another bucket", four[:3], 81, -1, "o2 o4 o1 h2 h4", "o2 o4 o1"},
		{"three, the hint is of a table that was", four[:3], 81, 1, "o1 o2 o4 h2 h4", "o1 o2 o4"},
		{"three, the hint is hunted last", four[:3], 81, 4, "o4 o2 o1 h2 h4", "o4 o2 o1"},
		{"one went", four, 80, -1, "o1 o4 o2 h1 h4", "o1 o4 o2"},
		{"one went, in another bucket", four, 81, -1, "o4 o1 o2 h4 h1", "o4 o1 o2"},
		{"one went and is the hint", four, 81, 2, "o2 o4 o1 h4 h1", "o2 o4 o1"},
		{"one drains", []impl.PoolCmd{add(3, 5), drain(3)}, 80, -1, "o3", "o3"},
		{"one drains, another is the hint", []impl.PoolCmd{add(3, 5), drain(3)}, 80, 0, "o0 o3", "o0 o3"},
		{"the one went", []impl.PoolCmd{add(3, 5), remove(3)}, 80, -1, "o3", "o3"},
		{"the one went long ago", []impl.PoolCmd{add(3, 5), remove(3), add(1, 1), remove(1)}, 80, -1, "o1", "o1"},
		{"all drained long ago", []impl.PoolCmd{add(3, 5), drain(3), drain(3), drain(3)}, 80, -1, "", ""},
		{"all drained long ago, but a hint", []impl.PoolCmd{add(3, 5), drain(3), drain(3), drain(3)}, 80, 3, "o3", "o3"},
	} {
		b := balOf(noting(0, c.cmds...), impl.Table{Slots: make([]impl.Slot, 3)})
		f := flow(258, c.port)
		if c.hint >= 0 {
			b, _ = impl.Learn(b, 0, f, c.hint)
		}
		b, _ = impl.Learn(b, 0, flow(7, 7), 5)
		opens := segsText(mustRoute(t, b, impl.Packet{Flow: f, Flags: impl.FlSyn}))
		follows := segsText(mustRoute(t, b, impl.Packet{Flow: f, Flags: impl.FlAck}))
		if opens != c.opens || follows != c.follows {
			t.Errorf("%s: %q and %q, not %q and %q", c.why, opens, follows, c.opens, c.follows)
		}
	}
}

func TestAHintIsAskedUntilItIsGone(t *testing.T) {
	b := balOf(noting(0, add(1, 1)), impl.Table{Slots: make([]impl.Slot, 3)})
	b, _ = impl.Learn(b, 0, mine, 4)
	if late := mustRoute(t, b, following()); segsText(late) != "o4 o1" {
		t.Fatal("what is due but did not go is not asked", late)
	}
	b, _ = impl.BalTick(b, impl.Life)
	if gone := mustRoute(t, b, following()); segsText(gone) != "o1" {
		t.Fatal("what went is asked", gone)
	}
}

func TestBehindACrashAllCandidatesAreAsked(t *testing.T) {
	for _, b := range someBals() {
		got := impl.Crash(b, 100)
		for _, f := range askedOf(b) {
			p := impl.Packet{Flow: f, Flags: impl.FlAck}
			var want []impl.Seg
			for _, id := range impl.Candidates(b.Pool, impl.BucketOf(b.Pool.Key, f)) {
				want = append(want, own(id))
			}
			if segs := mustRoute(t, got, p); !slices.Equal(segs, want) {
				t.Fatalf("behind a crash %v goes to %v, not %v", p, segs, want)
			}
		}
	}
}

func TestWhatIsNoPacketHasNoRoute(t *testing.T) {
	for _, b := range someBals() {
		for why, p := range badPackets() {
			if segs := impl.RouteOf(b, p); len(segs) != 0 {
				t.Errorf("%s: %v", why, segs)
			}
			if c, ok := impl.Send(b, 5, p); ok || !sameCarrier(c, impl.Carrier{}) {
				t.Errorf("%s: sent as %v, %v", why, c, ok)
			}
		}
	}
}

// mustSend wants a packet with its route and nothing else, or nothing where there is none.
func mustSend(t *testing.T, b impl.Bal, now edge, p impl.Packet) {
	t.Helper()
	segs := routeBy(b, p)
	want, can := impl.Carrier{}, now.in && len(segs) > 0
	if can {
		want = impl.Carrier{P: p, Segs: segs, At: 0, Stamp: now.n}
	}
	c, ok := impl.Send(b, now.n, p)
	if ok != can || !sameCarrier(c, want) || impl.CarrierOk(c) != ok {
		t.Fatalf("Send(%v, %d, %v) = %v, %v, not %v, %v", b, now.n, p, c, ok, want, can)
	}
}

func TestWhatIsSentHasItsRoute(t *testing.T) {
	sent, all := 0, someBals()
	for _, b := range all {
		for _, f := range askedOf(b) {
			for _, now := range nowEdges {
				mustSend(t, b, now, impl.Packet{Flow: f, Flags: impl.FlSyn, Seq: 65535, Body: counting(impl.MaxBody, 3)})
				mustSend(t, b, now, impl.Packet{Flow: f, Flags: impl.FlFin | impl.FlAck, Seq: 9})
			}
		}
	}
	for i, p := range goodPackets() {
		mustSend(t, all[i%len(all)], edge{i, true}, p)
		if _, ok := impl.Send(all[i%len(all)], i, p); ok {
			sent++
		}
	}
	if sent == 0 {
		t.Fatal("nothing was sent")
	}
}

func TestNobodyIsSentTo(t *testing.T) {
	nobody, _ := impl.BalNew(7, 2)
	for _, p := range []impl.Packet{opening(), following()} {
		if c, ok := impl.Send(nobody, 0, p); ok || !sameCarrier(c, impl.Carrier{}) {
			t.Fatalf("where nobody serves: %v, %v", c, ok)
		}
		hinted, _ := impl.Learn(nobody, 0, p.Flow, 4)
		c, ok := impl.Send(hinted, 0, p)
		if want := (impl.Carrier{P: p, Segs: []impl.Seg{own(4)}}); !ok || !sameCarrier(c, want) {
			t.Fatalf("where there is but a hint: %v, %v", c, ok)
		}
	}
}
