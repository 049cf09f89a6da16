package tests

import (
	"slices"
	"testing"

	"loop.example/g00607/impl"
)

func roomyBal(b impl.Bal) impl.Bal {
	return impl.Bal{Journal: roomyJournal(b.Journal), Pool: roomyPool(b.Pool), Hints: roomySlots(b.Hints)}
}

// sharingBal is a good balancer all of whose pool's lists are one.
func sharingBal() impl.Bal {
	return impl.Bal{Journal: noting(1, add(2, 5), weigh(2, 5), weigh(2, 5)), Pool: sharingPool(), Hints: hinting(2, 9, mine)}
}

// hollowBal is a good balancer whose empty lists have memory behind them.
func hollowBal() impl.Bal {
	j := noting(0, add(1, 1))
	j.L = j.L[:0]
	return impl.Bal{Journal: j, Pool: emptyWithRoom(), Hints: roomySlots(hinting(2, 9, mine))}
}

// balsForMemory are good ones, ones whose lists share memory or have none, and ones that are none.
func balsForMemory() []impl.Bal {
	all := someBals()
	for _, x := range goodHints()[:60] {
		all = append(all, balOf(noting(1, add(1, 5), add(2, 5)), x))
	}
	for _, bad := range badBals() {
		all = append(all, bad)
	}
	for i := range all {
		all[i] = roomyBal(all[i])
	}
	return append(all, sharingBal(), hollowBal())
}

// packetsForMemory are of one that has a hint, of others, and one that is none, with spare room behind their bodies.
func packetsForMemory() []impl.Packet {
	all := []impl.Packet{opening(), following(), {Flow: strangers(1)[0], Flags: impl.FlSyn, Body: counting(impl.MaxBody, 1)}, {Flags: -1, Body: []byte{1}}}
	for i := range all {
		all[i].Body, _ = roomy(all[i].Body)
	}
	return all
}

var flowsToLearn = []impl.Flow{mine, strangers(1)[0], flow(60000, 0), flow(65535, 65535), flow(-1, 0)}

func TestTheBalancersOfTheMemoryTests(t *testing.T) {
	if !impl.BalOk(sharingBal()) || !impl.BalOk(hollowBal()) || !impl.BalOk(roomyBal(fourServe())) {
		t.Fatal("one that should be good is not")
	}
}

func TestNoBalancerIsWrittenIntoNorItsSpareRoom(t *testing.T) {
	for _, b := range balsForMemory() {
		mustBeUntouched(t, "a balancer", b, func() {
			impl.BalOk(b)
			for _, c := range []impl.PoolCmd{add(0, 9), add(5, 9), weigh(2, 9), drain(2), remove(2), {Kind: 4}} {
				impl.BalCmd(b, c)
			}
			for _, p := range packetsForMemory() {
				impl.RouteOf(b, p)
				impl.Send(b, 5, p)
				impl.Send(b, -1, p)
			}
			for _, f := range flowsToLearn {
				impl.Learn(b, 5, f, 3)
				impl.Learn(b, 5, f, -1)
				impl.Hint(b, f)
			}
			for _, n := range []int{-1, 0, 1, 15, 100000} {
				impl.BalTick(b, n)
				impl.Crash(b, n)
			}
		})
	}
}

func TestNoPacketThatIsSentIsWrittenInto(t *testing.T) {
	for _, p := range packetsForMemory() {
		mustBeUntouched(t, "a packet", p, func() {
			for _, b := range []impl.Bal{fourServe(), sharingBal(), {}} {
				c, _ := impl.Send(b, 5, p)
				scribbleCarrier(c)
				scribbleCarrier(impl.Carrier{Segs: impl.RouteOf(b, p)})
			}
		})
	}
}

func TestWhatIsToldOfBalancersIsNewMemory(t *testing.T) {
	for _, b := range balsForMemory() {
		for _, c := range []impl.PoolCmd{add(0, 9), add(5, 9), weigh(2, 9), drain(2), remove(2)} {
			got, _ := impl.BalCmd(b, c)
			again, _ := impl.BalCmd(b, c)
			mustBeApart(t, "BalCmd", got, again, b)
		}
		for _, p := range packetsForMemory() {
			mustBeApart(t, "RouteOf", impl.RouteOf(b, p), impl.RouteOf(b, p), b, p)
			got, _ := impl.Send(b, 5, p)
			again, _ := impl.Send(b, 5, p)
			mustBeApart(t, "Send", got, again, b, p)
		}
		for _, f := range flowsToLearn {
			got, _ := impl.Learn(b, 5, f, 3)
			again, _ := impl.Learn(b, 5, f, 3)
			mustBeApart(t, "Learn", got, again, b)
		}
		for _, n := range []int{0, 1, 15, 100000} {
			got, _ := impl.BalTick(b, n)
			again, _ := impl.BalTick(b, n)
			mustBeApart(t, "BalTick", got, again, b)
			mustBeApart(t, "Crash", impl.Crash(b, n), impl.Crash(b, n), b)
		}
	}
	for size := 1; size <= impl.MaxTable; size++ {
		b, _ := impl.BalNew(7, size)
		again, _ := impl.BalNew(7, size)
		mustBeApart(t, "BalNew", b, again)
	}
}

func TestAnAnswerThatIsTheBalancerAsItWasIsNewMemory(t *testing.T) {
	full := balOf(longJournal(mostNoted), asHints(fullTable(4, 1)))
	safe := balOf(longJournal(9), impl.Table{Slots: make([]impl.Slot, 4)})
	for _, was := range []impl.Bal{fourServe(), full, sharingBal(), safe} {
		b := roomyBal(was)
		there, is := impl.BalCmd(b, add(2, 9))
		away, fits := impl.BalCmd(b, remove(3))
		ticked, n := impl.BalTick(b, 0)
		answers := []impl.Bal{ticked}
		if !is {
			answers = append(answers, there)
		}
		if !fits {
			answers = append(answers, away)
		}
		if b.Journal.Safe == len(b.Journal.L) && impl.CountOf(b.Hints) == 0 {
			answers = append(answers, impl.Crash(b, 0))
		}
		if n != 0 || len(answers) < 2 {
			t.Fatalf("%v: too little is as it was", b)
		}
		for _, got := range answers {
			if !sameBal(got, was) {
				t.Fatalf("%v is not %v", got, was)
			}
			mustBeApart(t, "as it was", got, b)
		}
	}
}

func TestBalancersAreNotReadFromSpareRoom(t *testing.T) {
	for _, b := range someBals() {
		room := roomyBal(b)
		if !impl.BalOk(room) || impl.Hint(room, flow(60000, 0)) != -1 {
			t.Fatalf("%v: spare room is seen", b)
		}
		for _, p := range packetsForMemory() {
			if !slices.Equal(impl.RouteOf(room, p), impl.RouteOf(b, p)) {
				t.Fatalf("a route of %v by %v: spare room is seen", p, b)
			}
		}
		for _, f := range flowsToLearn {
			want, can := impl.Learn(b, 5, f, 3)
			if got, ok := impl.Learn(room, 5, f, 3); ok != can || !sameBal(got, want) {
				t.Fatalf("%v learnt by %v: spare room is seen", f, b)
			}
		}
		for _, c := range cmdsForMemory() {
			want, can := impl.BalCmd(b, c)
			if got, ok := impl.BalCmd(room, c); ok != can || !sameBal(got, want) {
				t.Fatalf("%v done to %v: spare room is seen", c, b)
			}
		}
		for _, n := range []int{0, 1, 15, 100000} {
			want, went := impl.BalTick(b, n)
			if got, m := impl.BalTick(room, n); m != went || !sameBal(got, want) || !sameBal(impl.Crash(room, n), impl.Crash(b, n)) {
				t.Fatalf("%v at %d: spare room is seen", b, n)
			}
		}
	}
}

func TestNothingOfABalancerIsKept(t *testing.T) {
	b := fourServe()
	segs := impl.RouteOf(b, opening())
	learnt, _ := impl.Learn(b, 5, mine, 3)
	done, _ := impl.BalCmd(b, add(0, 9))
	crashed := impl.Crash(b, 1)
	for _, other := range goodBals() {
		impl.RouteOf(other, opening())
		impl.Learn(other, 9, mine, 1)
		impl.BalCmd(other, add(0, 8))
		impl.BalTick(other, 100000)
		impl.Crash(other, 0)
	}
	again, _ := impl.Learn(b, 5, mine, 3)
	next, _ := impl.BalCmd(b, add(0, 9))
	if !slices.Equal(impl.RouteOf(b, opening()), segs) || !sameBal(again, learnt) || !sameBal(next, done) || !sameBal(impl.Crash(b, 1), crashed) || impl.Hint(b, mine) != -1 {
		t.Fatal("the same call answers something else")
	}
}
