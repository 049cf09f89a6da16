package tests

import (
	"slices"
	"testing"

	"loop.example/g00607/impl"
)

// fate is a verdict, and whose it is.
type fate struct {
	vd int
	id int
}

func fateOf(c impl.Cluster, p impl.Packet) fate {
	vd, id := impl.Fate(c, p)
	return fate{vd, id}
}

// fateBy is what the document says of it, by the functions of the chapters ahead.
func fateBy(c impl.Cluster, p impl.Packet) fate {
	sent, ok := impl.Send(c.Bal, c.Now, p)
	if !ok {
		return fate{-1, -1}
	}
	agents := slices.Clone(c.Agents)
	for {
		here, _ := impl.Here(sent)
		a, vd := impl.Handle(agents[here.Back], c.Now, sent)
		if vd != impl.VdPass {
			return fate{vd, here.Back}
		}
		agents[here.Back] = a
		sent, _ = impl.Next(sent)
	}
}

// fateByDeeds is what becomes of p if it is said and delivered ahead of all else.
func fateByDeeds(t *testing.T, c impl.Cluster, p impl.Packet) fate {
	t.Helper()
	c.Bag, c.Got, c.Rst, c.Gone = nil, nil, 0, 0
	c, told := mustDo(t, c, saying(p))
	if told != yes {
		return fate{-1, -1}
	}
	for {
		here, _ := impl.Here(c.Bag[0].C)
		d, vd := mustDo(t, c, delivering(0))
		if vd != impl.VdPass {
			return fate{vd, here.Back}
		}
		c = d
	}
}

// packetsOf are packets of f that open, and that do not.
func packetsOf(f impl.Flow) []impl.Packet {
	all := []impl.Packet{{Flow: f, Flags: impl.FlSyn, Seq: 4, Body: []byte{1}}}
	for _, flags := range followingFlags {
		all = append(all, impl.Packet{Flow: f, Flags: flags, Seq: 5})
	}
	return all
}

func TestFateOfEachPacketInEachCluster(t *testing.T) {
	seen := map[int]int{}
	for _, c := range goodClusters() {
		for i, f := range flowsOf(c) {
			for k, p := range packetsOf(f) {
				if k > 0 && (i+k)%4 > 0 {
					continue
				}
				told := fateOf(c, p)
				if want := fateBy(c, p); told != want {
					t.Fatalf("Fate(%v, %v) = %v, not %v", c, p, told, want)
				}
				seen[told.vd]++
			}
		}
	}
	for _, vd := range []int{-1, impl.VdTake, impl.VdMake, impl.VdRst, impl.VdFull} {
		if seen[vd] < 10 {
			t.Errorf("%d was told %d times: %v", vd, seen[vd], seen)
		}
	}
	if len(seen) != 5 {
		t.Errorf("what is sent now came to %v", seen)
	}
}

func TestFateIsWhatBecomesOfIt(t *testing.T) {
	for _, c := range edgyClusters() {
		for _, f := range flowsOf(c) {
			for _, p := range packetsOf(f)[:4] {
				if told, want := fateOf(c, p), fateByDeeds(t, c, p); told != want {
					t.Fatalf("Fate(%v, %v) = %v, but it came to %v", c, p, told, want)
				}
			}
		}
	}
}

func TestFateOfWhatIsNoPacket(t *testing.T) {
	for _, c := range edgyClusters() {
		for why, p := range badPackets() {
			if told := fateOf(c, p); told != (fate{-1, -1}) {
				t.Fatalf("%s: %v", why, told)
			}
		}
	}
}

func TestFateOfEachGoodPacket(t *testing.T) {
	clusters := edgyClusters()
	for i, p := range goodPackets() {
		c := clusters[i%len(clusters)]
		if told, want := fateOf(c, p), fateBy(c, p); told != want {
			t.Fatalf("Fate(%v, %v) = %v, not %v", c, p, told, want)
		}
	}
}

func TestFateWithoutARoute(t *testing.T) {
	for _, c := range []impl.Cluster{newCluster(t, 7, 4, 3), newCluster(t, 7, 4, 3, add(2, 5), drain(2), weigh(2, 5), weigh(2, 6)), hintedTo(newCluster(t, 7, 4, 3), flow(258, 81), 2)} {
		for _, f := range []impl.Flow{mine, flow(0, 0)} {
			for _, p := range packetsOf(f) {
				if told := fateOf(hadBy(c, mine, 0, 1, 2, 3, 4, 5), p); told != (fate{-1, -1}) {
					t.Errorf("%v: %v", p, told)
				}
			}
		}
	}
}

// pairServes is a cluster in which two serve, changed by who is the first of the pair of mine and who the second.
func pairServes(t *testing.T, change func(c *impl.Cluster, first int, second int)) (impl.Cluster, int, int) {
	t.Helper()
	c := newCluster(t, 7, 4, 3, add(1, 5), add(2, 5))
	c.Now = 25
	first, second := pairIn(c)
	change(&c, first, second)
	return c, first, second
}

func TestFateOfEachVerdict(t *testing.T) {
	const one, two = 0, 1
	for _, s := range []struct {
		why  string
		set  func(c *impl.Cluster, first int, second int)
		p    impl.Packet
		vd   int
		whom int
	}{
		{"the first has it", func(c *impl.Cluster, first int, second int) { *c = hadBy(*c, mine, first) }, following(), impl.VdTake, one},
		{"the first has what opens", func(c *impl.Cluster, first int, second int) { *c = hadBy(*c, mine, first) }, opening(), impl.VdTake, one},
		{"the second has it", func(c *impl.Cluster, first int, second int) { *c = hadBy(*c, mine, second) }, following(), impl.VdTake, two},
		{"the second has what opens", func(c *impl.Cluster, first int, second int) { *c = hadBy(*c, mine, second) }, opening(), impl.VdTake, two},
		{"the second has what ends", func(c *impl.Cluster, first int, second int) { *c = hadBy(*c, mine, second) }, flagged(impl.FlFin), impl.VdTake, two},
		{"both have it", func(c *impl.Cluster, first int, second int) { *c = hadBy(*c, mine, first, second) }, following(), impl.VdTake, one},
		{"both have it, and the second is the hint", func(c *impl.Cluster, first int, second int) {
			*c = hintedTo(hadBy(*c, mine, first, second), mine, second)
		}, following(), impl.VdTake, two},
		{"nobody has what follows", func(c *impl.Cluster, first int, second int) {}, following(), impl.VdRst, two},
		{"nobody has what follows, and the second is the hint", func(c *impl.Cluster, first int, second int) { *c = hintedTo(*c, mine, second) }, following(), impl.VdRst, one},
		{"another has it", func(c *impl.Cluster, first int, second int) { *c = hadBy(*c, mine, 0, 3, 4, 5) }, following(), impl.VdRst, two},
		{"the first makes it", func(c *impl.Cluster, first int, second int) {}, opening(), impl.VdMake, one},
		{"the first makes what another has", func(c *impl.Cluster, first int, second int) { *c = hadBy(*c, mine, 0, 3, 4, 5) }, opening(), impl.VdMake, one},
		{"the first takes nothing gladly", func(c *impl.Cluster, first int, second int) { c.Agents[first].Limit = 0 }, opening(), impl.VdMake, two},
		{"neither takes anything gladly", func(c *impl.Cluster, first int, second int) { c.Agents[first].Limit, c.Agents[second].Limit = 0, 0 }, opening(), impl.VdMake, two},
		{"the first shuns it", func(c *impl.Cluster, first int, second int) { c.Agents[first].Tombs = keeping(3, 90, mine) }, opening(), impl.VdMake, two},
		{"the first drains", func(c *impl.Cluster, first int, second int) { c.Agents[first].Drain = true }, opening(), impl.VdMake, two},
		{"the first is full", func(c *impl.Cluster, first int, second int) { c.Agents[first].Conns = keeping(3, 90, strangers(3)...) }, opening(), impl.VdMake, two},
		{"the second alone shuns it", func(c *impl.Cluster, first int, second int) { c.Agents[second].Tombs = keeping(3, 90, mine) }, opening(), impl.VdMake, one},
		{"both shun it", func(c *impl.Cluster, first int, second int) {
			c.Agents[first].Tombs, c.Agents[second].Tombs = keeping(3, 90, mine), keeping(3, 90, mine)
		}, opening(), impl.VdRst, two},
		{"both drain", func(c *impl.Cluster, first int, second int) {
			c.Agents[first].Drain, c.Agents[second].Drain = true, true
		}, opening(), impl.VdRst, two},
		{"the second, which has to, is full", func(c *impl.Cluster, first int, second int) {
			c.Agents[first].Limit, c.Agents[second].Conns = 0, keeping(3, 90, strangers(3)...)
		}, opening(), impl.VdRst, two},
		{"the first has no room to shun it", func(c *impl.Cluster, first int, second int) {
			c.Agents[first].Limit, c.Agents[first].Tombs = 0, keeping(2, 90, strangers(2)...)
		}, opening(), impl.VdFull, one},
		{"the first has no room to shun another, but shuns it", func(c *impl.Cluster, first int, second int) {
			c.Agents[first].Limit, c.Agents[first].Tombs = 0, keeping(2, 90, strangers(1)[0], mine)
		}, opening(), impl.VdMake, two},
		{"the second has no room to shun it, and need not", func(c *impl.Cluster, first int, second int) {
			c.Agents[first].Limit, c.Agents[second].Tombs = 0, keeping(2, 90, strangers(2)...)
		}, opening(), impl.VdMake, two},
	} {
		c, first, second := pairServes(t, s.set)
		want := fate{s.vd, []int{first, second}[s.whom]}
		if told := fateOf(c, s.p); told != want || fateBy(c, s.p) != want {
			t.Errorf("%s: %v, not %v", s.why, told, want)
		}
	}
}

func TestFateAtEachPlaceOfARoute(t *testing.T) {
	c := with(func(c *impl.Cluster) {
		c.Bal = fourServe()
		c.Agents = placed(slices.Repeat([]impl.Agent{hasNot()}, 6)...)
	})
	route := impl.Listed(c, mine)
	if len(route) < 3 {
		t.Fatalf("the route is %v", route)
	}
	for _, id := range route {
		for _, p := range packetsOf(mine) {
			if told := fateOf(hadBy(c, mine, id), p); told != (fate{impl.VdTake, id}) {
				t.Errorf("%d of %v has it, and of %v comes %v", id, route, p, told)
			}
		}
	}
	last := route[len(route)-1]
	if told := fateOf(c, following()); told != (fate{impl.VdRst, last}) {
		t.Errorf("nobody has it: %v", told)
	}
	for _, ids := range eachSet() {
		at := slices.IndexFunc(route, func(id int) bool { return slices.Contains(ids, id) })
		if at >= 0 && fateOf(hadBy(c, mine, ids...), following()) != (fate{impl.VdTake, route[at]}) {
			t.Errorf("%v have it, the first of %v who does does not take it", ids, route)
		}
	}
}

func TestFateWhereTheHintIsAlone(t *testing.T) {
	for id := range impl.MaxBack {
		c := hintedTo(newCluster(t, 7, 4, 3), mine, id)
		for _, p := range packetsOf(mine) {
			if told := fateOf(c, p); told != (fate{impl.VdRst, id}) {
				t.Errorf("%v: %v", p, told)
			}
			if told := fateOf(hadBy(c, mine, id), p); told != (fate{impl.VdTake, id}) {
				t.Errorf("%v, which it has: %v", p, told)
			}
		}
	}
}

// Who serves alone is both of a pair: what it passed as the first it shuns as the second.
func TestWhoIsPassedByShunsItOnTheWay(t *testing.T) {
	for id := range impl.MaxBack {
		c := newCluster(t, 7, 4, 0, add(id, 5))
		was := roomyCluster(c)
		for range 3 {
			if told := fateOf(was, opening()); told != (fate{impl.VdRst, id}) {
				t.Errorf("%v", told)
			}
		}
		if impl.Shuns(was.Agents[id], mine) || !sameCluster(was, c) {
			t.Errorf("%v is not as it was", was)
		}
		said, _ := impl.Client(c, opening())
		said, _ = impl.Flush(said, 1000)
		if !impl.Shuns(said.Agents[id], mine) || said.Rst != 1 {
			t.Errorf("what is said came to %v", said)
		}
		glad, _ := impl.SetLimit(c, id, 1)
		if told := fateOf(glad, opening()); told != (fate{impl.VdMake, id}) {
			t.Errorf("who takes it gladly: %v", told)
		}
	}
}

func TestWhatIsAskedIsNotDone(t *testing.T) {
	for _, was := range edgyClusters() {
		c := roomyCluster(was)
		for _, f := range flowsOf(c) {
			for _, p := range packetsOf(f)[:5] {
				first := fateOf(c, p)
				if again := fateOf(c, p); again != first || !sameCluster(c, was) {
					t.Fatalf("%v: first %v, then %v", p, first, again)
				}
			}
		}
	}
}

// hintsFor are c with each agent in turn as the hint of f, and with none.
func hintsFor(c impl.Cluster, f impl.Flow) []impl.Cluster {
	all := []impl.Cluster{hintedTo(c, f, -1)}
	for id := range impl.MaxBack {
		all = append(all, hintedTo(c, f, id))
	}
	return all
}

// mustBeTaken wants promise 11 for a flow, and tells how many have it, or -1 where the promise says nothing of it.
func mustBeTaken(t *testing.T, c impl.Cluster, f impl.Flow) int {
	t.Helper()
	owners, bucket := impl.Owners(c, f), impl.BucketOf(c.Bal.Pool.Key, f)
	candidates := impl.Candidates(c.Bal.Pool, bucket)
	restarted, _ := impl.Restart(c, 0)
	still := impl.Candidates(restarted.Bal.Pool, bucket)
	switch {
	case len(owners) == 1 && slices.Contains(candidates, owners[0]):
		mustTakeAll(t, hintsFor(c, f), f, owners[0])
		if slices.Contains(still, owners[0]) {
			mustTakeAll(t, append(hintsFor(restarted, f), restarted), f, owners[0])
		}
	case len(owners) == 0 && len(candidates) > 0:
		mustBeAlike(t, hintsFor(c, f), f)
		if len(still) > 0 {
			mustBeAlike(t, hintsFor(restarted, f), f)
		}
	default:
		return -1
	}
	return len(owners)
}

func mustTakeAll(t *testing.T, clusters []impl.Cluster, f impl.Flow, id int) {
	t.Helper()
	for _, c := range clusters {
		for _, p := range packetsOf(f) {
			if told := fateOf(c, p); told != (fate{impl.VdTake, id}) {
				t.Fatalf("%d alone has %v, with the hint %d; %v comes to %v", id, f, impl.Hint(c.Bal, f), p, told)
			}
		}
	}
}

func mustBeAlike(t *testing.T, clusters []impl.Cluster, f impl.Flow) {
	t.Helper()
	for _, p := range packetsOf(f) {
		vd, _ := impl.Fate(clusters[0], p)
		if vd != impl.VdRst && !impl.Opens(p) {
			t.Fatalf("nobody has %v; %v comes to %d", f, p, vd)
		}
		for _, c := range clusters {
			if told, _ := impl.Fate(c, p); told != vd {
				t.Fatalf("nobody has %v; %v comes to %d without a hint, to %d with %d", f, p, vd, told, impl.Hint(c.Bal, f))
			}
		}
	}
}

func TestTheOneWhoHasItTakesItWhateverTheHint(t *testing.T) {
	seen := map[int]int{}
	for i, b := range someBals() {
		c := with(func(c *impl.Cluster) {
			c.Bal, c.Bag = b, nil
			c.Agents = placed(slices.Repeat([]impl.Agent{hasNot()}, 6)...)
		})
		for k, f := range []impl.Flow{mine, inBucket(b.Pool.Key, i%impl.Buckets)} {
			for id := range impl.MaxBack {
				if (i+k+id)%2 == 0 {
					seen[mustBeTaken(t, hadBy(c, f, id), f)]++
				}
			}
			seen[mustBeTaken(t, hadBy(c, f), f)]++
		}
	}
	if seen[0] < 20 || seen[1] < 20 || seen[-1] < 20 {
		t.Errorf("so many had it: %v", seen)
	}
}

func TestTheVerdictIsAlikeWhereNobodyHasIt(t *testing.T) {
	seen := 0
	for _, c := range edgyClusters()[:4] {
		for _, agents := range [][]impl.Agent{
			slices.Repeat([]impl.Agent{shunsIt()}, 6), slices.Repeat([]impl.Agent{isFull()}, 6), slices.Repeat([]impl.Agent{draining(hasNot())}, 6),
			slices.Repeat([]impl.Agent{limited(burying(hasNot(), strangers(2)...), 0)}, 6), {hasNot(), hasNot(), shunsIt(), isFull(), draining(hasNot()), limited(hasNot(), 0)},
		} {
			c.Agents = placed(agents...)
			for _, f := range append(strangers(6)[4:], mine) {
				if mustBeTaken(t, c, f) == 0 {
					seen++
				}
			}
		}
	}
	if seen < 40 {
		t.Errorf("%d were nobody's", seen)
	}
}
