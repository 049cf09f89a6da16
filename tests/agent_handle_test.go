package tests

import (
	"fmt"
	"maps"
	"testing"

	"loop.example/g00607/impl"
)

// spot is where on a route the agent me stands.
type spot struct {
	segs []impl.Seg
	at   int
}

var (
	ownAlone     = spot{[]impl.Seg{own(me)}, 0}
	ownFirst     = spot{[]impl.Seg{own(me), own(3)}, 0}
	ownBetween   = spot{[]impl.Seg{own(3), own(me), own(me)}, 1}
	ownLast      = spot{[]impl.Seg{own(3), own(me)}, 1}
	ownAhead     = spot{[]impl.Seg{own(me), hunt(me), hunt(3)}, 0}
	huntAlone    = spot{[]impl.Seg{hunt(me)}, 0}
	huntFirst    = spot{[]impl.Seg{hunt(me), hunt(3)}, 0}
	huntBetween  = spot{[]impl.Seg{own(3), hunt(me), hunt(me)}, 1}
	huntLast     = spot{[]impl.Seg{own(me), hunt(3), hunt(me)}, 2}
	otherOwn     = spot{[]impl.Seg{own(3), own(me)}, 0}
	otherOwnLast = spot{[]impl.Seg{own(me), own(3)}, 1}
	otherHunt    = spot{[]impl.Seg{hunt(3), hunt(me)}, 0}
	otherLast    = spot{[]impl.Seg{hunt(me), hunt(3)}, 1}
)

var ownSpots = []spot{ownAlone, ownFirst, ownBetween, ownLast, otherOwn, otherOwnLast}

var huntSpots = []spot{ownAhead, huntAlone, huntFirst, huntBetween, huntLast, otherHunt, otherLast}

// at is a packet that has come to a spot, of time 0.
func at(s spot, p impl.Packet) impl.Carrier { return impl.Carrier{P: p, Segs: s.segs, At: s.at} }

func stamped(c impl.Carrier, stamp int) impl.Carrier {
	c.Stamp = stamp
	return c
}

// flagged is a packet of the flow mine that does not open it.
func flagged(flags int) impl.Packet { return impl.Packet{Flow: mine, Flags: flags, Seq: 777} }

var followingFlags = []int{0, impl.FlAck, impl.FlSyn | impl.FlAck, impl.FlFin, impl.FlRst, impl.FlFin | impl.FlAck, impl.FlFin | impl.FlRst, impl.FlAck | impl.FlFin | impl.FlRst}

// manyCarriers are what opens and what follows, at each spot, as old as the Window, older and younger.
func manyCarriers(now int) []impl.Carrier {
	var all []impl.Carrier
	for _, age := range []int{0, 1, impl.Window, impl.Window + 1, now} {
		for _, s := range append(huntSpots, ownSpots...) {
			all = append(all, stamped(at(s, opening()), now-age))
		}
		for i, s := range ownSpots {
			all = append(all, stamped(at(s, flagged(followingFlags[(age+i)%8])), now-age), stamped(at(s, flagged(followingFlags[(age+i+3)%8])), now-age))
		}
	}
	return all
}

// judged is what the document says of a carrier that may come to an agent, all of which is right.
func judged(a impl.Agent, now int, c impl.Carrier) (impl.Agent, int) {
	f, here, last := c.P.Flow, c.Segs[c.At], c.At == len(c.Segs)-1
	count, shuns := len(keptIn(a.Conns)), keptIn(a.Tombs)[f].Used
	noRoom := a.Drain || count == len(a.Conns.Slots)
	conns, _ := impl.Put(a.Conns, f, c.P.Seq, now+50)
	tombs, buried := impl.Put(a.Tombs, f, 0, now+21)
	switch {
	case here.Back != a.Id:
		return a, impl.VdLost
	case c.P.Flags&3 == 1 && c.Stamp < now-10:
		return a, impl.VdOld
	case keptIn(a.Conns)[f].Used:
		if c.P.Flags < 4 {
			a.Conns = conns
			return a, impl.VdTake
		}
		a.Tombs = tombs
		a.Conns, _ = impl.Drop(a.Conns, f)
		return a, impl.VdTake
	case here.Fn == impl.SgOwn && last, last && (shuns || noRoom):
		return a, impl.VdRst
	case here.Fn == impl.SgOwn:
		return a, impl.VdPass
	case last || !shuns && !noRoom && count < a.Limit:
		a.Conns = conns
		return a, impl.VdMake
	case !buried:
		return a, impl.VdFull
	}
	a.Tombs = tombs
	return a, impl.VdPass
}

// keptOfOthers is what is kept of each flow but f.
func keptOfOthers(x impl.Table, f impl.Flow) map[impl.Flow]impl.Slot {
	kept := keptIn(x)
	delete(kept, f)
	return kept
}

// mustHandle wants what promise 6 says of an agent behind a verdict, and just the verdict of judged.
func mustHandle(t *testing.T, a impl.Agent, now int, c impl.Carrier) (impl.Agent, int) {
	t.Helper()
	b, vd := impl.Handle(a, now, c)
	want, wanted := judged(a, now, c)
	if vd != wanted || !sameAgent(b, want) {
		t.Fatalf("Handle(%v, %d, %v) = %v, %d, not %v, %d", a, now, c, b, vd, want, wanted)
	}
	if why := brokenBy(a, b, c, vd); why != "" {
		t.Fatalf("Handle(%v, %d, %v) = %v, %d: %s", a, now, c, b, vd, why)
	}
	return b, vd
}

// brokenBy tells what of promise 6 a verdict breaks.
func brokenBy(a impl.Agent, b impl.Agent, c impl.Carrier, vd int) string {
	f := c.P.Flow
	hunted := c.Segs[c.At].Fn == impl.SgHunt
	had, has := impl.Holds(a, f), impl.Holds(b, f)
	switch {
	case !impl.AgentOk(b):
		return "it is not AgentOk"
	case had && vd != impl.VdTake && vd != impl.VdLost && vd != impl.VdOld:
		return "who has it does not take it"
	case !had && vd == impl.VdTake:
		return "who has it not takes it"
	case vd == impl.VdPass && hunted && !impl.Shuns(b, f):
		return "who is passed by a hunt does not shun it"
	case !had && has && (vd != impl.VdMake || !hunted || !impl.Opens(c.P)):
		return "it is made by who is not hunted"
	case vd == impl.VdMake && (had || !has):
		return "it is not made"
	case !maps.Equal(keptOfOthers(a.Conns, f), keptOfOthers(b.Conns, f)):
		return "another flow of Conns is not as it was"
	case !maps.Equal(keptOfOthers(a.Tombs, f), keptOfOthers(b.Tombs, f)):
		return "another flow of Tombs is not as it was"
	case a.Id != b.Id || a.Limit != b.Limit || a.Drain != b.Drain:
		return "it is somebody else"
	}
	return ""
}

func TestEachVerdictOfEachAgent(t *testing.T) {
	seen := map[int]int{}
	for _, a := range goodAgents() {
		for _, now := range []int{25, 100000} {
			for _, c := range manyCarriers(now) {
				_, vd := mustHandle(t, a, now, c)
				seen[vd]++
			}
		}
	}
	for vd := range 7 {
		if seen[vd] < 100 {
			t.Errorf("verdict %d was seen %d times", vd, seen[vd])
		}
	}
}

// Agents of which one thing alone is to be seen; each has a stranger, and room for one more.
func hasIt() impl.Agent   { return who(keeping(3, 60, strangers(1)[0], mine), keeping(3, 20)) }
func hasNot() impl.Agent  { return who(keeping(3, 60, strangers(1)...), keeping(3, 20)) }
func shunsIt() impl.Agent { return who(keeping(3, 60, strangers(1)...), keeping(3, 20, mine)) }
func isFull() impl.Agent  { return who(keeping(3, 60, strangers(3)...), keeping(3, 20)) }

func burying(a impl.Agent, tombs ...impl.Flow) impl.Agent {
	a.Tombs = keeping(2, 20, tombs...)
	return a
}

// asked is what an agent is asked, and what it has to answer.
type asked struct {
	why  string
	a    impl.Agent
	now  int
	c    impl.Carrier
	want int
}

// mustAnswer also wants that those verdicts that change nothing do not.
func mustAnswer(t *testing.T, all []asked) {
	t.Helper()
	for _, q := range all {
		b, vd := impl.Handle(q.a, q.now, q.c)
		if vd != q.want {
			t.Errorf("%s: %d, not %d", q.why, vd, q.want)
		}
		if changes := vd == impl.VdTake || vd == impl.VdMake || vd == impl.VdPass; !changes && !sameAgent(q.a, b) {
			t.Errorf("%s: %v became %v", q.why, q.a, b)
		}
	}
}

func TestWhoIsNotHereIsLostFirst(t *testing.T) {
	for i, s := range []spot{otherOwn, otherOwnLast, otherHunt, otherLast} {
		name := fmt.Sprint("somebody else ", i)
		mustAnswer(t, []asked{
			{name, hasNot(), 5, at(s, opening()), impl.VdLost},
			{name + ", too old", hasNot(), 50, at(s, opening()), impl.VdLost},
			{name + ", has it", hasIt(), 5, at(s, opening()), impl.VdLost},
			{name + ", has it, too old", hasIt(), 50, at(s, opening()), impl.VdLost},
			{name + ", shuns it", shunsIt(), 5, at(s, opening()), impl.VdLost},
			{name + ", full", isFull(), 5, at(s, opening()), impl.VdLost},
			{name + ", drains", draining(hasNot()), 5, at(s, opening()), impl.VdLost},
			{name + ", Limit 0", limited(hasNot(), 0), 5, at(s, opening()), impl.VdLost},
			{name + ", full tombs", burying(limited(hasNot(), 0), strangers(2)...), 5, at(s, opening()), impl.VdLost},
		})
	}
	for id := range impl.MaxBack {
		a := hasNot()
		a.Id = id
		for back := range impl.MaxBack {
			_, vd := impl.Handle(a, 5, impl.Carrier{P: opening(), Segs: []impl.Seg{own(id), hunt(back)}, At: 1})
			if (vd == impl.VdLost) != (id != back) {
				t.Errorf("%d of %d: %d", back, id, vd)
			}
		}
	}
}

func TestWhatOpensIsTooOldBehindTheWindow(t *testing.T) {
	for i, s := range []spot{ownAlone, ownFirst, ownAhead, ownLast, huntAlone, huntFirst, huntBetween, huntLast} {
		name := fmt.Sprint("spot ", i)
		c := stamped(at(s, opening()), 100)
		mustAnswer(t, []asked{
			{name + ", one more than Window ago", hasNot(), 111, c, impl.VdOld},
			{name + ", long ago", hasNot(), 100000, c, impl.VdOld},
			{name + ", too old, has it", hasIt(), 111, c, impl.VdOld},
			{name + ", too old, shuns it", shunsIt(), 111, c, impl.VdOld},
			{name + ", too old, full", isFull(), 111, c, impl.VdOld},
			{name + ", too old, drains", draining(hasNot()), 111, c, impl.VdOld},
			{name + ", too old, Limit 0", limited(hasNot(), 0), 111, c, impl.VdOld},
			{name + ", too old, full tombs", burying(limited(hasNot(), 0), strangers(2)...), 111, c, impl.VdOld},
			{name + ", Window ago, has it", hasIt(), 110, c, impl.VdTake},
			{name + ", now, has it", hasIt(), 100, c, impl.VdTake},
		})
		for _, now := range []int{100, 101, 109, 110} {
			if _, vd := impl.Handle(hasNot(), now, c); vd == impl.VdOld || vd < 0 {
				t.Errorf("%s: at %d %d", name, now, vd)
			}
		}
	}
}

func TestWhatDoesNotOpenIsNeverTooOld(t *testing.T) {
	for _, flags := range followingFlags {
		for _, now := range []int{100, 110, 111, 100000} {
			mustAnswer(t, []asked{
				{"has it", hasIt(), now, stamped(at(ownFirst, flagged(flags)), 100), impl.VdTake},
				{"has it, last", hasIt(), now, stamped(at(ownLast, flagged(flags)), 100), impl.VdTake},
				{"has it not", hasNot(), now, stamped(at(ownFirst, flagged(flags)), 100), impl.VdPass},
				{"has it not, last", hasNot(), now, stamped(at(ownLast, flagged(flags)), 100), impl.VdRst},
			})
		}
	}
}

func TestWhoHasItTakesItWhereverItStands(t *testing.T) {
	for i, s := range []spot{ownAlone, ownFirst, ownBetween, ownAhead, ownLast, huntAlone, huntFirst, huntBetween, huntLast} {
		name := fmt.Sprint("spot ", i)
		c := at(s, opening())
		both := hasIt()
		both.Tombs = shunsIt().Tombs
		full := who(keeping(2, 60, strangers(1)[0], mine), keeping(3, 20))
		mustAnswer(t, []asked{
			{name, hasIt(), 5, c, impl.VdTake},
			{name + ", drains", draining(hasIt()), 5, c, impl.VdTake},
			{name + ", shuns it", both, 5, c, impl.VdTake},
			{name + ", full", full, 5, c, impl.VdTake},
			{name + ", Limit met", limited(hasIt(), 2), 5, c, impl.VdTake},
			{name + ", Limit 0", limited(hasIt(), 0), 5, c, impl.VdTake},
			{name + ", full tombs", burying(hasIt(), strangers(2)...), 5, c, impl.VdTake},
			{name + ", all of it", draining(limited(burying(full, strangers(1)[0], mine), 0)), 5, c, impl.VdTake},
		})
	}
}

func TestWhatIsTakenIsKeptAnew(t *testing.T) {
	for _, flags := range []int{0, impl.FlAck, impl.FlSyn | impl.FlAck, impl.FlSyn} {
		for _, now := range []int{0, 1, 77, 100000} {
			for _, seq := range []int{0, 777, 65535} {
				for _, a := range []impl.Agent{hasIt(), draining(hasIt()), burying(hasIt(), mine), burying(hasIt(), strangers(2)...)} {
					p := flagged(flags)
					p.Seq = seq
					b, vd := mustHandle(t, a, now, stamped(at(ownFirst, p), now))
					want := impl.Slot{Used: true, Flow: mine, Val: seq, Until: now + 50}
					if s, _ := impl.Get(b.Conns, mine); vd != impl.VdTake || s != want || !sameSlots(a.Tombs, b.Tombs) {
						t.Fatalf("flags %d, Seq %d, at %d: %d, %v", flags, seq, now, vd, b)
					}
				}
			}
		}
	}
}

func TestWhatEndsIsDroppedAndShunned(t *testing.T) {
	ends := []int{impl.FlFin, impl.FlRst, impl.FlFin | impl.FlRst, impl.FlAck | impl.FlFin, impl.FlAck | impl.FlRst, impl.FlAck | impl.FlFin | impl.FlRst}
	for _, flags := range ends {
		for _, now := range []int{0, 1, 77, 100000} {
			for _, s := range []spot{ownAlone, ownFirst, ownLast} {
				c := stamped(at(s, flagged(flags)), now)
				want := impl.Slot{Used: true, Flow: mine, Until: now + 21}
				for _, a := range []impl.Agent{hasIt(), draining(hasIt()), burying(hasIt(), strangers(1)...), burying(hasIt(), mine), burying(hasIt(), strangers(1)[0], mine)} {
					b, vd := mustHandle(t, a, now, c)
					if s, _ := impl.Get(b.Tombs, mine); vd != impl.VdTake || impl.Holds(b, mine) || s != want {
						t.Fatalf("flags %d, at %d: %d, %v", flags, now, vd, b)
					}
				}
				noRoom := burying(hasIt(), strangers(2)...)
				if b, vd := mustHandle(t, noRoom, now, c); vd != impl.VdTake || impl.Holds(b, mine) || impl.Shuns(b, mine) || !sameSlots(b.Tombs, noRoom.Tombs) {
					t.Fatalf("flags %d, at %d, no room: %d, %v", flags, now, vd, b)
				}
			}
		}
	}
}

func TestWhoIsAskedAsOwnerMakesNothing(t *testing.T) {
	packets := []impl.Packet{opening()}
	for _, flags := range followingFlags {
		packets = append(packets, flagged(flags))
	}
	spots := map[int][]spot{impl.VdRst: {ownAlone, ownLast}, impl.VdPass: {ownFirst, ownBetween}}
	agents := []impl.Agent{hasNot(), shunsIt(), isFull(), draining(hasNot()), limited(hasNot(), 0), burying(hasNot(), strangers(2)...)}
	for want, all := range spots {
		for _, s := range all {
			for _, p := range packets {
				for _, a := range agents {
					if b, vd := mustHandle(t, a, 5, at(s, p)); vd != want || !sameAgent(a, b) {
						t.Fatalf("%v at %v: %d, %v", p, s, vd, b)
					}
				}
			}
		}
	}
	for _, a := range agents {
		if b, vd := mustHandle(t, a, 5, at(ownAhead, opening())); vd != impl.VdPass || !sameAgent(a, b) {
			t.Fatalf("ahead of the hunted: %d, %v", vd, b)
		}
	}
}

func TestTheLastThatIsHunted(t *testing.T) {
	for _, s := range []spot{huntAlone, huntLast} {
		c := at(s, opening())
		mustAnswer(t, []asked{
			{"has room", hasNot(), 5, c, impl.VdMake},
			{"room for one", who(keeping(3, 60, strangers(2)...), keeping(3, 20)), 5, c, impl.VdMake},
			{"nobody there", who(keeping(1, 60), keeping(1, 20)), 5, c, impl.VdMake},
			{"shuns it", shunsIt(), 5, c, impl.VdRst},
			{"full", isFull(), 5, c, impl.VdRst},
			{"drains", draining(hasNot()), 5, c, impl.VdRst},
			{"shuns it, full and drains", draining(burying(isFull(), mine)), 5, c, impl.VdRst},
			{"Limit met", limited(hasNot(), 1), 5, c, impl.VdMake},
			{"one more than Limit", limited(who(keeping(3, 60, strangers(2)...), keeping(3, 20)), 1), 5, c, impl.VdMake},
			{"Limit 0", limited(hasNot(), 0), 5, c, impl.VdMake},
			{"Limit 0, nobody there", limited(who(keeping(1, 60), keeping(1, 20)), 0), 5, c, impl.VdMake},
			{"Limit 0, shuns it", limited(shunsIt(), 0), 5, c, impl.VdRst},
			{"full tombs", burying(hasNot(), strangers(2)...), 5, c, impl.VdMake},
			{"full tombs, Limit 0", limited(burying(hasNot(), strangers(2)...), 0), 5, c, impl.VdMake},
			{"full tombs, shuns it", burying(hasNot(), strangers(1)[0], mine), 5, c, impl.VdRst},
			{"full tombs, full", burying(isFull(), strangers(2)...), 5, c, impl.VdRst},
			{"full tombs, drains", draining(burying(hasNot(), strangers(2)...)), 5, c, impl.VdRst},
		})
	}
}

func TestAnotherThatIsHunted(t *testing.T) {
	two := who(keeping(3, 60, strangers(2)...), keeping(3, 20))
	for _, s := range []spot{huntFirst, huntBetween} {
		c := at(s, opening())
		mustAnswer(t, []asked{
			{"has room", hasNot(), 5, c, impl.VdMake},
			{"shuns it", shunsIt(), 5, c, impl.VdPass},
			{"full", isFull(), 5, c, impl.VdPass},
			{"drains", draining(hasNot()), 5, c, impl.VdPass},
			{"as many as Limit", limited(two, 2), 5, c, impl.VdPass},
			{"one fewer than Limit", limited(two, 3), 5, c, impl.VdMake},
			{"one more than Limit", limited(two, 1), 5, c, impl.VdPass},
			{"Limit 0", limited(two, 0), 5, c, impl.VdPass},
			{"Limit 0, nobody there", limited(who(keeping(1, 60), keeping(1, 20)), 0), 5, c, impl.VdPass},
			{"Limit 1, nobody there", limited(who(keeping(1, 60), keeping(1, 20)), 1), 5, c, impl.VdMake},
			{"all of it", draining(limited(burying(isFull(), mine), 0)), 5, c, impl.VdPass},
			{"full tombs, has room", burying(hasNot(), strangers(2)...), 5, c, impl.VdMake},
			{"full tombs, shuns it", burying(hasNot(), strangers(1)[0], mine), 5, c, impl.VdPass},
			{"full tombs, shuns it, full", burying(isFull(), strangers(1)[0], mine), 5, c, impl.VdPass},
			{"full tombs, full", burying(isFull(), strangers(2)...), 5, c, impl.VdFull},
			{"full tombs, drains", draining(burying(hasNot(), strangers(2)...)), 5, c, impl.VdFull},
			{"full tombs, as many as Limit", limited(burying(hasNot(), strangers(2)...), 1), 5, c, impl.VdFull},
			{"full tombs, one fewer than Limit", limited(burying(hasNot(), strangers(2)...), 2), 5, c, impl.VdMake},
			{"full tombs, Limit 0", limited(burying(hasNot(), strangers(2)...), 0), 5, c, impl.VdFull},
		})
	}
}

func TestWhatIsMadeIsKept(t *testing.T) {
	for _, s := range []spot{huntAlone, huntFirst, huntBetween, huntLast} {
		for _, now := range []int{0, 1, 77, 100000} {
			for _, seq := range []int{0, 777, 65535} {
				p := opening()
				p.Seq = seq
				b, vd := mustHandle(t, hasNot(), now, stamped(at(s, p), max(0, now-10)))
				want := impl.Slot{Used: true, Flow: mine, Val: seq, Until: now + 50}
				if s, _ := impl.Get(b.Conns, mine); vd != impl.VdMake || s != want || !sameSlots(b.Tombs, hasNot().Tombs) {
					t.Fatalf("Seq %d, at %d: %d, %v", seq, now, vd, b)
				}
			}
		}
	}
}

func TestWhoIsPassedByAHuntShunsIt(t *testing.T) {
	agents := []impl.Agent{shunsIt(), isFull(), draining(hasNot()), limited(hasNot(), 1), limited(hasNot(), 0), burying(isFull(), strangers(1)[0], mine), burying(isFull(), strangers(1)...)}
	for _, s := range []spot{huntFirst, huntBetween} {
		for _, now := range []int{0, 1, 77, 100000} {
			for _, a := range agents {
				b, vd := mustHandle(t, a, now, stamped(at(s, opening()), max(0, now-10)))
				want := impl.Slot{Used: true, Flow: mine, Until: now + 21}
				if s, _ := impl.Get(b.Tombs, mine); vd != impl.VdPass || s != want || !sameSlots(a.Conns, b.Conns) {
					t.Fatalf("at %d: %d, %v", now, vd, b)
				}
			}
		}
	}
}

func TestWhatIsDueStaysUntilATick(t *testing.T) {
	due := who(keeping(3, 60, strangers(1)...), keeping(3, 3, mine))
	b, vd := mustHandle(t, due, 90, stamped(at(huntLast, opening()), 90))
	if vd != impl.VdRst || !impl.Shuns(b, mine) {
		t.Fatalf("what is shunned and due: %d, %v", vd, b)
	}
	if b, vd = mustHandle(t, due, 90, stamped(at(huntFirst, opening()), 90)); vd != impl.VdPass || !impl.Shuns(b, mine) {
		t.Fatalf("what is shunned and due, ahead of the last: %d, %v", vd, b)
	}
	ticked, _ := impl.AgentTick(due, 3)
	if _, vd = mustHandle(t, ticked, 90, stamped(at(huntLast, opening()), 90)); vd != impl.VdMake {
		t.Fatalf("behind a tick: %d", vd)
	}
	had := who(keeping(1, 3, mine), keeping(3, 20))
	if _, vd = mustHandle(t, had, 90, at(ownLast, following())); vd != impl.VdTake {
		t.Fatalf("what it has and is due: %d", vd)
	}
	full := who(keeping(1, 3, strangers(1)...), keeping(3, 20))
	if _, vd = mustHandle(t, full, 90, stamped(at(huntLast, opening()), 90)); vd != impl.VdRst {
		t.Fatalf("full of what is due: %d", vd)
	}
}

func TestHandleAtEachTime(t *testing.T) {
	for _, now := range nowEdges {
		for _, s := range []spot{ownLast, huntFirst, huntLast, otherLast} {
			for _, a := range []impl.Agent{hasIt(), hasNot(), isFull()} {
				b, vd := impl.Handle(a, now.n, at(s, opening()))
				if !now.in && (vd != -1 || !sameAgent(b, impl.Agent{})) || now.in && (vd < 0 || !impl.AgentOk(b)) {
					t.Errorf("at %d: %d, %v", now.n, vd, b)
				}
			}
		}
	}
}

func TestNothingComesFromLaterThanNow(t *testing.T) {
	for _, now := range []int{0, 1, 50, 99999, 100000} {
		for _, ahead := range []int{-1, 0, 1, 2, 100000} {
			for _, c := range []impl.Carrier{at(ownLast, following()), at(huntLast, opening()), at(otherOwn, opening())} {
				c = stamped(c, now+ahead)
				b, vd := impl.Handle(hasNot(), now, c)
				if fine := ahead <= 0 && impl.CarrierOk(c); fine != (vd >= 0) || !fine && (vd != -1 || !sameAgent(b, impl.Agent{})) {
					t.Errorf("of %d, at %d: %d, %v", now+ahead, now, vd, b)
				}
			}
		}
	}
}

func TestWhatIsNoCarrierIsRefused(t *testing.T) {
	for why, c := range badCarriers() {
		for _, a := range []impl.Agent{hasIt(), hasNot(), shunsIt()} {
			for _, now := range []int{0, 100000} {
				if b, vd := impl.Handle(a, now, c); vd != -1 || !sameAgent(b, impl.Agent{}) {
					t.Errorf("%s: %d, %v", why, vd, b)
				}
			}
		}
	}
}

func TestHandleOfEachGoodCarrier(t *testing.T) {
	for i, c := range goodCarriers() {
		a := []impl.Agent{hasIt(), hasNot(), shunsIt(), isFull()}[i%4]
		a.Id = c.Segs[c.At].Back
		mustHandle(t, a, c.Stamp, c)
	}
}

func TestAFlowFromItsFirstToItsLast(t *testing.T) {
	a, _ := impl.AgentNew(me, 1)
	ask := func(now int, c impl.Carrier, want int) {
		t.Helper()
		b, vd := mustHandle(t, a, now, stamped(c, now))
		if vd != want {
			t.Fatalf("at %d: %d, not %d", now, vd, want)
		}
		a = b
	}
	ask(0, at(ownAhead, opening()), impl.VdPass)
	ask(0, at(huntFirst, opening()), impl.VdMake)
	ask(1, at(huntLast, opening()), impl.VdTake)
	ask(2, at(ownLast, following()), impl.VdTake)
	a = mustTick(t, a, 51)
	ask(51, at(ownLast, flagged(impl.FlFin)), impl.VdTake)
	ask(51, at(ownLast, flagged(impl.FlFin)), impl.VdRst)
	ask(52, at(huntLast, opening()), impl.VdRst)
	a = mustTick(t, a, 71)
	ask(71, at(huntFirst, opening()), impl.VdPass)
	a = mustTick(t, a, 91)
	ask(91, at(huntLast, opening()), impl.VdRst)
	a = mustTick(t, a, 92)
	ask(92, at(huntFirst, opening()), impl.VdMake)
	a = mustTick(t, a, 142)
	ask(142, at(ownLast, following()), impl.VdRst)
}

// drawnCarrier draws one of so few flows that many a one comes again, of a time not long ago.
func drawnCarrier(draws *lot, now int) impl.Carrier {
	p := impl.Packet{Flow: strangers(9)[draws.below(9)], Flags: impl.FlSyn, Seq: draws.below(65536)}
	s := huntSpots[draws.below(len(huntSpots))]
	if draws.below(3) == 0 {
		p.Flags = followingFlags[draws.below(len(followingFlags))]
		s = ownSpots[draws.below(len(ownSpots))]
	}
	return stamped(at(s, p), max(0, now-draws.below(14)))
}

func TestALongLife(t *testing.T) {
	for size := 1; size <= 8; size++ {
		a, now, draws := who(keeping(size, 1), keeping(9-size, 1)), 0, lot(size)
		seen := map[int]int{}
		for range 4000 {
			switch draws.below(24) {
			case 0, 1, 2:
				now += draws.below(8)
				a = mustTick(t, a, now)
			case 3:
				a, _ = impl.Load(a, draws.below(size+2))
			case 4:
				a.Drain = draws.below(4) == 0
			default:
				b, vd := mustHandle(t, a, now, drawnCarrier(&draws, now))
				a = b
				seen[vd]++
			}
		}
		for vd := range 7 {
			if seen[vd] == 0 {
				t.Errorf("of %d slots, verdict %d was never seen: %v", size, vd, seen)
			}
		}
	}
}
