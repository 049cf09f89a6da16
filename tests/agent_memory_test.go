package tests

import (
	"bytes"
	"testing"

	"loop.example/g00607/impl"
)

func roomyAgent(a impl.Agent) impl.Agent {
	a.Conns, a.Tombs = roomySlots(a.Conns), roomySlots(a.Tombs)
	return a
}

// sharingAgent has one table as both.
func sharingAgent() impl.Agent {
	x := roomySlots(keeping(4, 9, strangers(1)[0], mine))
	return who(x, x)
}

// neighbours are an agent's tables that lie one behind the other, each in the spare room of the other.
func neighbours() impl.Agent {
	whole := append(keeping(3, 9, strangers(2)...).Slots, keeping(3, 9, mine).Slots...)
	return who(impl.Table{Slots: whole[:3]}, impl.Table{Slots: whole[3:]})
}

// agentsForMemory are good ones, ones whose tables share memory, and ones that are none.
func agentsForMemory() []impl.Agent {
	all := goodAgents()
	for _, bad := range badAgents() {
		all = append(all, bad)
	}
	for i := range all {
		all[i] = roomyAgent(all[i])
	}
	return append(all, sharingAgent(), neighbours())
}

// visitsForMemory are one for each verdict, some with spare room, and one that is none.
func visitsForMemory() []impl.Carrier {
	all := []impl.Carrier{{}, at(otherLast, opening()), stamped(at(huntLast, opening()), 0)}
	for _, c := range []impl.Carrier{at(ownLast, opening()), at(ownFirst, following()), at(ownLast, flagged(impl.FlFin)), at(huntFirst, opening()), at(huntLast, opening())} {
		all = append(all, stamped(c, 25))
	}
	for i := range all {
		all[i] = spreadOut(all[i]).c
	}
	return all
}

func TestNoAgentIsWrittenIntoNorItsSpareRoom(t *testing.T) {
	for _, a := range agentsForMemory() {
		mustBeUntouched(t, "an agent", a, func() {
			impl.AgentOk(a)
			impl.Load(a, 3)
			impl.Load(a, -1)
			impl.DrainIt(a)
			impl.Holds(a, mine)
			impl.Shuns(a, mine)
			impl.AgentText(a)
			for _, now := range []int{-1, 0, 25, 100000} {
				impl.AgentTick(a, now)
			}
			for _, c := range visitsForMemory() {
				impl.Handle(a, 25, c)
			}
		})
	}
}

func TestNoVisitIsWrittenIntoNorItsSpareRoom(t *testing.T) {
	for _, c := range visitsForMemory() {
		mustBeUntouched(t, "a carrier", c, func() {
			for _, a := range []impl.Agent{hasIt(), hasNot(), shunsIt(), isFull(), {}} {
				impl.Handle(a, 25, c)
				impl.Handle(a, -1, c)
			}
		})
	}
}

func TestWhatIsToldOfAgentsIsNewMemory(t *testing.T) {
	for _, a := range agentsForMemory() {
		for _, c := range visitsForMemory() {
			got, _ := impl.Handle(a, 25, c)
			again, _ := impl.Handle(a, 25, c)
			mustBeApart(t, "Handle", got, again, a, c)
		}
		for _, now := range []int{0, 25, 100000} {
			got, _ := impl.AgentTick(a, now)
			again, _ := impl.AgentTick(a, now)
			mustBeApart(t, "AgentTick", got, again, a)
		}
		loaded, _ := impl.Load(a, 3)
		more, _ := impl.Load(a, 3)
		mustBeApart(t, "Load", loaded, more, a)
		drains, _ := impl.DrainIt(a)
		still, _ := impl.DrainIt(a)
		mustBeApart(t, "DrainIt", drains, still, a)
		mustBeApart(t, "AgentText", impl.AgentText(a), impl.AgentText(a), a)
	}
	for id := range impl.MaxBack {
		a, _ := impl.AgentNew(id, 3)
		again, _ := impl.AgentNew(id, 3)
		mustBeApart(t, "AgentNew", a, again)
	}
}

func TestAnAnswerThatIsTheAgentAsItWasIsNewMemory(t *testing.T) {
	a := burying(isFull(), strangers(2)...)
	old, vd := impl.Handle(a, 25, at(huntFirst, opening()))
	lost, vl := impl.Handle(a, 5, at(otherLast, opening()))
	refused, vr := impl.Handle(a, 5, at(huntLast, opening()))
	passed, vp := impl.Handle(a, 5, at(ownFirst, opening()))
	full, vf := impl.Handle(a, 5, at(huntFirst, opening()))
	if vd != impl.VdOld || vl != impl.VdLost || vr != impl.VdRst || vp != impl.VdPass || vf != impl.VdFull {
		t.Fatal(vd, vl, vr, vp, vf)
	}
	ticked, n := impl.AgentTick(a, 0)
	loaded, ok := impl.Load(a, a.Limit)
	drains, is := impl.DrainIt(draining(a))
	if n != 0 || !ok || !is {
		t.Fatal("something is not as it was")
	}
	drains.Drain = false
	for _, b := range []impl.Agent{old, lost, refused, passed, full, ticked, loaded, drains} {
		if !sameAgent(b, a) {
			t.Fatalf("%v is not %v", b, a)
		}
		mustBeApart(t, "as it was", b, a)
		b.Conns.Slots[0], b.Tombs.Slots[0] = impl.Slot{}, impl.Slot{}
		if !sameAgent(a, burying(isFull(), strangers(2)...)) {
			t.Fatal("what is told shares memory with the agent")
		}
	}
}

func TestAgentsAreNotReadFromSpareRoom(t *testing.T) {
	for _, a := range goodAgents() {
		room := roomyAgent(a)
		if !impl.AgentOk(room) || impl.Holds(room, flow(60000, 0)) || impl.Shuns(room, flow(60000, 0)) || !bytes.Equal(impl.AgentText(room), impl.AgentText(a)) {
			t.Fatalf("%v: spare room is seen", a)
		}
		for _, c := range visitsForMemory() {
			want, wanted := impl.Handle(a, 25, c)
			if got, vd := impl.Handle(room, 25, c); vd != wanted || !sameAgent(got, want) {
				t.Fatalf("%v handles %v: spare room is seen", a, c)
			}
		}
		want, went := impl.AgentTick(a, 25)
		if got, n := impl.AgentTick(room, 25); n != went || !sameAgent(got, want) {
			t.Fatalf("%v ticks: spare room is seen", a)
		}
	}
}

func TestNothingOfAnAgentIsKept(t *testing.T) {
	a := hasNot()
	made, _ := impl.Handle(a, 5, at(huntFirst, opening()))
	ticked, n := impl.AgentTick(a, 60)
	text := string(impl.AgentText(a))
	for _, other := range goodAgents() {
		for _, c := range visitsForMemory() {
			impl.Handle(other, 25, c)
		}
		impl.AgentTick(other, 100000)
		impl.Load(other, 0)
		impl.DrainIt(other)
	}
	again, _ := impl.Handle(a, 5, at(huntFirst, opening()))
	behind, m := impl.AgentTick(a, 60)
	if !sameAgent(made, again) || !sameAgent(ticked, behind) || n != m || text != string(impl.AgentText(a)) {
		t.Fatal("the same call answers something else")
	}
}
