package tests

import (
	"maps"
	"math"
	"strconv"
	"testing"

	"loop.example/g00607/impl"
)

var limitEdges = []edge{{math.MinInt, false}, {-1, false}, {0, true}, {1, true}, {impl.MaxTable - 1, true}, {impl.MaxTable, true}, {impl.MaxTable + 1, false}, {math.MaxInt, false}}

var nowEdges = []edge{{math.MinInt, false}, {-1, false}, {0, true}, {1, true}, {99999, true}, {100000, true}, {100001, false}, {200000, false}, {math.MaxInt, false}}

// me is the agent that is asked, mine the flow of opening and following, which it is asked about.
const me = 2

var mine = flow(258, 80)

// strangers are other flows; some of them have one home.
func strangers(n int) []impl.Flow {
	var all []impl.Flow
	for i := range n {
		all = append(all, flow(1000+i/2, 3*i))
	}
	return all
}

// keeping is a table of so many slots with flows, each until a time of its own from one on.
func keeping(size int, until int, flows ...impl.Flow) impl.Table {
	x, _ := impl.TableNew(size)
	for i, f := range flows {
		x, _ = impl.Put(x, f, 40+i, until+i)
	}
	return x
}

// who is an agent with a Limit that is never met by fewer than the slots.
func who(conns impl.Table, tombs impl.Table) impl.Agent {
	return impl.Agent{Id: me, Limit: impl.MaxTable, Conns: conns, Tombs: tombs}
}

func limited(a impl.Agent, limit int) impl.Agent {
	a.Limit = limit
	return a
}

func draining(a impl.Agent) impl.Agent {
	a.Drain = true
	return a
}

func sameAgent(a impl.Agent, b impl.Agent) bool {
	return a.Id == b.Id && a.Limit == b.Limit && a.Drain == b.Drain && sameSlots(a.Conns, b.Conns) && sameSlots(a.Tombs, b.Tombs)
}

// tablesOfAgents are empty, with some, and full; each without and with the flow that is mine.
func tablesOfAgents(size int, until int) []impl.Table {
	var all []impl.Table
	for _, n := range []int{0, 1, size / 2, size - 1} {
		all = append(all, keeping(size, until, strangers(n)...), keeping(size, until, append(strangers(n), mine)...))
	}
	return append(all, keeping(size, until, strangers(size)...))
}

// goodAgents have all of these tables, and Limits about as many as they have.
func goodAgents() []impl.Agent {
	var all []impl.Agent
	for i, conns := range append(tablesOfAgents(4, 60), tablesOfAgents(1, 5)...) {
		for j, tombs := range append(tablesOfAgents(3, 10), tablesOfAgents(1, 1000)...) {
			n := impl.CountOf(conns)
			for k, limit := range []int{0, max(0, n-1), n, n + 1, impl.MaxTable} {
				a := limited(who(conns, tombs), limit)
				a.Drain = (i+j+k)%3 == 0
				all = append(all, a)
			}
		}
	}
	full := fullTable(impl.MaxTable, 1)
	return append(all, who(full, full), who(full, keeping(1, 1)), draining(who(keeping(1, 1), full)))
}

// badAgents are agents of which one thing alone is wrong.
func badAgents() map[string]impl.Agent {
	bad := map[string]impl.Agent{"the zero value": {}}
	for _, id := range idEdges {
		if !id.in {
			a := who(keeping(4, 9, mine), keeping(4, 9, mine))
			a.Id = id.n
			bad["Id "+strconv.Itoa(id.n)] = a
		}
	}
	for _, limit := range limitEdges {
		if !limit.in {
			bad["Limit "+strconv.Itoa(limit.n)] = limited(who(keeping(4, 9, mine), keeping(4, 9, mine)), limit.n)
		}
	}
	for why, x := range badTables() {
		bad["Conns: "+why] = who(x, keeping(4, 9, mine))
		bad["Tombs: "+why] = who(keeping(4, 9, mine), x)
	}
	return bad
}

func TestConstantsOfAgents(t *testing.T) {
	if impl.Window != 10 || impl.Life != 50 {
		t.Fatal("a time is not as the document has it")
	}
	for want, vd := range []int{impl.VdTake, impl.VdMake, impl.VdPass, impl.VdRst, impl.VdOld, impl.VdFull, impl.VdLost} {
		if vd != want {
			t.Fatalf("verdict %d is %d", want, vd)
		}
	}
}

func TestAgentOkWithinItsLimits(t *testing.T) {
	for _, a := range goodAgents() {
		if !impl.AgentOk(a) {
			t.Errorf("%v is refused", a)
		}
	}
	for why, a := range badAgents() {
		if impl.AgentOk(a) {
			t.Errorf("%s is accepted", why)
		}
	}
	for _, id := range idEdges {
		for _, limit := range limitEdges {
			for _, drain := range []bool{false, true} {
				a := impl.Agent{Id: id.n, Limit: limit.n, Drain: drain, Conns: keeping(2, 1), Tombs: keeping(3, 1)}
				if got := impl.AgentOk(a); got != (id.in && limit.in) {
					t.Errorf("Id %d, Limit %d: %v", id.n, limit.n, got)
				}
			}
		}
	}
	for _, x := range goodTables() {
		if !impl.AgentOk(who(x, keeping(1, 1))) || !impl.AgentOk(who(keeping(1, 1), x)) {
			t.Errorf("one with %v is refused", x)
		}
	}
}

func TestAgentNewAtItsEdges(t *testing.T) {
	free := impl.Table{Slots: make([]impl.Slot, impl.MaxTable)}
	for _, id := range idEdges {
		for _, limit := range limitEdges {
			want := impl.Agent{}
			if id.in && limit.in {
				want = impl.Agent{Id: id.n, Limit: limit.n, Conns: free, Tombs: free}
			}
			a, ok := impl.AgentNew(id.n, limit.n)
			if ok != (id.in && limit.in) || !sameAgent(a, want) || impl.AgentOk(a) != ok {
				t.Errorf("AgentNew(%d, %d) = %v, %v", id.n, limit.n, a, ok)
			}
		}
	}
}

func TestLoadSetsTheLimitAlone(t *testing.T) {
	for _, a := range goodAgents() {
		for _, limit := range limitEdges {
			want := impl.Agent{}
			if limit.in {
				want = limited(a, limit.n)
			}
			b, ok := impl.Load(a, limit.n)
			if ok != limit.in || !sameAgent(b, want) || impl.AgentOk(b) != ok {
				t.Fatalf("Load(%v, %d) = %v, %v", a, limit.n, b, ok)
			}
		}
	}
}

func TestDrainItDrainsAlone(t *testing.T) {
	for _, a := range goodAgents() {
		b, ok := impl.DrainIt(a)
		again, still := impl.DrainIt(b)
		if !ok || !still || !sameAgent(b, draining(a)) || !sameAgent(again, b) || !impl.AgentOk(b) {
			t.Fatalf("DrainIt(%v) = %v, %v", a, b, ok)
		}
	}
}

func TestNobodysAgentHasOneFixedAnswer(t *testing.T) {
	for why, a := range badAgents() {
		for _, c := range []impl.Carrier{at(ownLast, opening()), at(huntLast, opening()), at(huntFirst, opening()), {}} {
			if b, vd := impl.Handle(a, 5, c); vd != -1 || !sameAgent(b, impl.Agent{}) {
				t.Errorf("%s: Handle %v, %d", why, b, vd)
			}
		}
		for _, limit := range []int{-1, 0, impl.MaxTable} {
			if b, ok := impl.Load(a, limit); ok || !sameAgent(b, impl.Agent{}) {
				t.Errorf("%s: Load %v, %v", why, b, ok)
			}
		}
		if b, ok := impl.DrainIt(a); ok || !sameAgent(b, impl.Agent{}) {
			t.Errorf("%s: DrainIt %v, %v", why, b, ok)
		}
		for _, now := range []int{-1, 0, 9, 100000} {
			if b, n := impl.AgentTick(a, now); n != -1 || !sameAgent(b, impl.Agent{}) {
				t.Errorf("%s: AgentTick %v, %d", why, b, n)
			}
		}
		for _, f := range []impl.Flow{mine, flow(0, 0), flow(3, 3), flow(-1, 3)} {
			if impl.Holds(a, f) || impl.Shuns(a, f) {
				t.Errorf("%s: has or shuns %v", why, f)
			}
		}
		if text := impl.AgentText(a); len(text) != 0 {
			t.Errorf("%s: AgentText %q", why, text)
		}
	}
}

func TestHoldsAndShunsWhatIsInTheirTables(t *testing.T) {
	for _, a := range goodAgents() {
		conns, tombs := keptIn(a.Conns), keptIn(a.Tombs)
		for _, f := range append(strangers(6), mine, flow(0, 0), flow(80, 258), flow(65535, 65535)) {
			if impl.Holds(a, f) != conns[f].Used || impl.Shuns(a, f) != tombs[f].Used {
				t.Fatalf("of %v: %v, has %v, shuns %v", f, a, impl.Holds(a, f), impl.Shuns(a, f))
			}
		}
		for _, f := range badFlows() {
			if impl.Holds(a, f) || impl.Shuns(a, f) {
				t.Fatalf("%v has or shuns %v", a, f)
			}
		}
	}
}

func TestWhatIsInOneTableIsNotInTheOther(t *testing.T) {
	f, g := flow(0, 0), flow(65535, 65535)
	a := who(keeping(4, 9, f), keeping(4, 9, g))
	if !impl.Holds(a, f) || impl.Shuns(a, f) || impl.Holds(a, g) || !impl.Shuns(a, g) {
		t.Fatalf("%v: %v %v, %v %v", a, impl.Holds(a, f), impl.Shuns(a, f), impl.Holds(a, g), impl.Shuns(a, g))
	}
	both := who(keeping(4, 9, f, g), keeping(1, 9, g))
	if !impl.Holds(both, g) || !impl.Shuns(both, g) || impl.Shuns(both, f) {
		t.Fatalf("%v: what is in both", both)
	}
}

// notDue is what is kept behind a tick.
func notDue(x impl.Table, now int) map[impl.Flow]impl.Slot {
	kept := keptIn(x)
	maps.DeleteFunc(kept, func(f impl.Flow, s impl.Slot) bool { return s.Until <= now })
	return kept
}

// mustTick wants an agent to have and to shun just what is not due.
func mustTick(t *testing.T, a impl.Agent, now int) impl.Agent {
	t.Helper()
	b, n := impl.AgentTick(a, now)
	conns, had := expireOf(a.Conns, now)
	tombs, shunned := expireOf(a.Tombs, now)
	want := impl.Agent{Id: a.Id, Limit: a.Limit, Drain: a.Drain, Conns: conns, Tombs: tombs}
	if n != had+shunned || !sameAgent(b, want) || !impl.AgentOk(b) {
		t.Fatalf("AgentTick(%v, %d) = %v, %d, not %v, %d", a, now, b, n, want, had+shunned)
	}
	mustKeepJust(t, "Conns behind a tick", b.Conns, len(a.Conns.Slots), notDue(a.Conns, now))
	mustKeepJust(t, "Tombs behind a tick", b.Tombs, len(a.Tombs.Slots), notDue(a.Tombs, now))
	if went := len(keptIn(a.Conns)) + len(keptIn(a.Tombs)) - len(keptIn(b.Conns)) - len(keptIn(b.Tombs)); n != went {
		t.Fatalf("AgentTick(%v, %d): %d told, %d went", a, now, n, went)
	}
	return b
}

func TestAgentTickDropsJustWhatIsDue(t *testing.T) {
	for _, a := range goodAgents() {
		nows := map[int]bool{0: true, 1: true, 99999: true, 100000: true}
		for _, x := range []impl.Table{a.Conns, a.Tombs} {
			for _, s := range keptIn(x) {
				nows[s.Until-1], nows[s.Until], nows[s.Until+1] = true, true, true
			}
		}
		for now := range nows {
			mustTick(t, a, now)
		}
	}
}

func TestAgentTickAtWhatIsDueInEachTable(t *testing.T) {
	a := who(keeping(4, 30, strangers(1)...), keeping(4, 20, mine))
	for _, c := range []struct {
		now   int
		has   bool
		shuns bool
		n     int
	}{
		{0, true, true, 0}, {19, true, true, 0}, {20, true, false, 1}, {21, true, false, 1},
		{29, true, false, 1}, {30, false, false, 2}, {31, false, false, 2}, {100000, false, false, 2},
	} {
		b, n := impl.AgentTick(a, c.now)
		if n != c.n || impl.Holds(b, strangers(1)[0]) != c.has || impl.Shuns(b, mine) != c.shuns {
			t.Errorf("at %d: %v, %d", c.now, b, n)
		}
	}
	late := who(keeping(4, 100000, mine), keeping(4, 100001, mine))
	if b, n := impl.AgentTick(late, 100000); n != 1 || impl.Holds(b, mine) || !impl.Shuns(b, mine) {
		t.Errorf("at the last time: %v, %d", b, n)
	}
}

func TestAgentTickOfOneFlowInBothTables(t *testing.T) {
	a := who(keeping(2, 30, mine), keeping(2, 30, mine))
	if b, n := impl.AgentTick(a, 30); n != 2 || impl.Holds(b, mine) || impl.Shuns(b, mine) {
		t.Errorf("both are due: %v, %d", b, n)
	}
	if b, n := impl.AgentTick(a, 29); n != 0 || !sameAgent(a, b) {
		t.Errorf("none is due: %v, %d", b, n)
	}
}

func TestAgentTickAtEachTime(t *testing.T) {
	a := who(keeping(4, 0, mine), keeping(4, 0, mine))
	for _, now := range nowEdges {
		b, n := impl.AgentTick(a, now.n)
		if now.in && (n != 2 || !impl.AgentOk(b)) || !now.in && (n != -1 || !sameAgent(b, impl.Agent{})) {
			t.Errorf("AgentTick at %d: %v, %d", now.n, b, n)
		}
	}
}

func TestAgentText(t *testing.T) {
	several := keeping(4, 9, flow(9, 1), flow(65535, 65535), flow(0, 0), flow(9, 0))
	for _, c := range []struct {
		a    impl.Agent
		want string
	}{
		{who(keeping(4, 9), keeping(4, 9)), "agent 2 limit 16\n"},
		{impl.Agent{Conns: keeping(1, 9), Tombs: keeping(1, 9)}, "agent 0 limit 0\n"},
		{draining(who(keeping(4, 9), keeping(4, 9))), "agent 2 limit 16 drains\n"},
		{who(keeping(4, 9, mine), keeping(4, 9)), "agent 2 limit 16 258:80\n"},
		{draining(who(keeping(4, 9, mine), keeping(4, 9))), "agent 2 limit 16 drains 258:80\n"},
		{limited(who(several, keeping(4, 9, mine)), 3), "agent 2 limit 3 0:0 9:0 9:1 65535:65535\n"},
		{draining(limited(who(several, several), 0)), "agent 2 limit 0 drains 0:0 9:0 9:1 65535:65535\n"},
		{who(keeping(4, 9), several), "agent 2 limit 16\n"},
		{impl.Agent{Id: 5, Limit: 10, Conns: keeping(2, 9, flow(1, 2), flow(1, 1)), Tombs: keeping(1, 9)}, "agent 5 limit 10 1:1 1:2\n"},
	} {
		if got := string(impl.AgentText(c.a)); got != c.want {
			t.Errorf("%v: %q, not %q", c.a, got, c.want)
		}
	}
}
