package tests

import (
	"fmt"
	"math"
	"slices"
	"strconv"
	"testing"

	"loop.example/g00607/impl"
)

func toSay(p impl.Packet) impl.Cmd { return impl.Cmd{Kind: impl.CmClient, P: p} }

func toDeliver(i int) impl.Cmd { return impl.Cmd{Kind: impl.CmDeliver, At: i} }

func toLose(i int) impl.Cmd { return impl.Cmd{Kind: impl.CmLose, At: i} }

func toDouble(i int) impl.Cmd { return impl.Cmd{Kind: impl.CmTwice, At: i} }

func toTick() impl.Cmd { return impl.Cmd{Kind: impl.CmTick} }

func toCommand(k impl.PoolCmd) impl.Cmd { return impl.Cmd{Kind: impl.CmPool, Pool: k} }

func toRestart(n int) impl.Cmd { return impl.Cmd{Kind: impl.CmRestart, N: n} }

func toLimit(id int, n int) impl.Cmd { return impl.Cmd{Kind: impl.CmLimit, At: id, N: n} }

// oneOfEach is a good command of each kind, at its Kind; what it names is not zero.
func oneOfEach() []impl.Cmd {
	said := opening()
	said.Body = []byte{1, 2}
	return []impl.Cmd{toSay(said), toDeliver(3), toLose(4), toDouble(5), toTick(), toCommand(weigh(4, 9)), toRestart(2), toLimit(1, 4)}
}

// parts are the fields of a command that each kind names.
var parts = [][]string{{"P"}, {"At"}, {"At"}, {"At"}, nil, {"Pool"}, {"N"}, {"At", "N"}}

// touch is something that makes one part of a command, if it is zero, not zero.
type touch struct {
	part string
	why  string
	do   func(k *impl.Cmd, n int)
}

var touches = []touch{
	{"At", "At", func(k *impl.Cmd, n int) { k.At = n }},
	{"N", "N", func(k *impl.Cmd, n int) { k.N = n }},
	{"P", "P.Flow.Addr", func(k *impl.Cmd, n int) { k.P.Flow.Addr = n }},
	{"P", "P.Flow.Port", func(k *impl.Cmd, n int) { k.P.Flow.Port = n }},
	{"P", "P.Flags", func(k *impl.Cmd, n int) { k.P.Flags = n }},
	{"P", "P.Seq", func(k *impl.Cmd, n int) { k.P.Seq = n }},
	{"P", "P.Body", func(k *impl.Cmd, n int) { k.P.Body = make([]byte, 1+(n&15)) }},
	{"Pool", "Pool.Kind", func(k *impl.Cmd, n int) { k.Pool.Kind = n }},
	{"Pool", "Pool.Id", func(k *impl.Cmd, n int) { k.Pool.Id = n }},
	{"Pool", "Pool.Weight", func(k *impl.Cmd, n int) { k.Pool.Weight = n }},
}

// ordersAtTheEdges are good ones, at the limits of what each kind names.
func ordersAtTheEdges() []impl.Cmd {
	all := append(oneOfEach(), impl.Cmd{}, toSay(impl.Packet{Body: []byte{}}))
	for _, p := range goodPackets() {
		all = append(all, toSay(p))
	}
	for _, n := range []int{0, 1, impl.MaxBag - 1, impl.MaxBag, impl.MaxBag + 1, mostTally, math.MaxInt} {
		all = append(all, toDeliver(n), toLose(n), toDouble(n), toRestart(n))
	}
	for _, k := range allCmds() {
		all = append(all, toCommand(k))
	}
	for id := range impl.MaxBack {
		all = append(all, toLimit(id, 0), toLimit(id, 1), toLimit(id, impl.MaxTable))
	}
	return all
}

// badOrders are commands of which one thing alone is wrong.
func badOrders() map[string]impl.Cmd {
	bad := map[string]impl.Cmd{
		"a limit of agent 6":      toLimit(impl.MaxBack, 3),
		"a limit of agent 258":    toLimit(258, 3),
		"a limit of 17":           toLimit(2, impl.MaxTable+1),
		"a limit of 256":          toLimit(2, 256),
		"no command for the pool": toCommand(impl.PoolCmd{}),
	}
	for kind, k := range oneOfEach() {
		for _, n := range []int{math.MinInt, -256, -1} {
			for _, touch := range touches[:2] {
				is := k
				touch.do(&is, n)
				bad[fmt.Sprint("kind ", kind, " with ", touch.why, " ", n)] = is
			}
		}
		for _, touch := range touches {
			if slices.Contains(parts[kind], touch.part) {
				continue
			}
			for _, n := range []int{-1, 1, 2, math.MaxInt} {
				is := k
				touch.do(&is, n)
				bad[fmt.Sprint("kind ", kind, " with ", touch.why, " ", n)] = is
			}
		}
		for _, wrong := range []int{math.MinInt, -1, 8, 9, 256 + kind, math.MaxInt} {
			k.Kind = wrong
			bad[fmt.Sprint("kind ", kind, " as Kind ", wrong)] = k
			bad["nothing of Kind "+strconv.Itoa(wrong)] = impl.Cmd{Kind: wrong}
		}
	}
	for why, p := range badPackets() {
		bad["said: "+why] = toSay(p)
	}
	for why, k := range badCmds() {
		bad["for the pool: "+why] = toCommand(k)
	}
	return bad
}

func TestConstantsOfCommands(t *testing.T) {
	kinds := []int{impl.CmClient, impl.CmDeliver, impl.CmLose, impl.CmTwice, impl.CmTick, impl.CmPool, impl.CmRestart, impl.CmLimit}
	if !slices.Equal(kinds, []int{0, 1, 2, 3, 4, 5, 6, 7}) {
		t.Fatalf("the kinds are %v", kinds)
	}
}

func TestCmdOkWithinItsLimits(t *testing.T) {
	for _, k := range ordersAtTheEdges() {
		if !impl.CmdOk(k) {
			t.Errorf("%v is refused", k)
		}
	}
	for why, k := range badOrders() {
		if impl.CmdOk(k) {
			t.Errorf("%s is accepted: %v", why, k)
		}
	}
}

// Of what is all zero each kind is a command, but for CmPool: nobody comes with Weight 0.
func TestCmdOkOfEachKind(t *testing.T) {
	for _, kind := range []edge{{math.MinInt, false}, {-1, false}, {0, true}, {1, true}, {2, true}, {3, true}, {4, true}, {5, false}, {6, true}, {7, true}, {8, false}, {256, false}, {math.MaxInt, false}} {
		if got := impl.CmdOk(impl.Cmd{Kind: kind.n}); got != kind.in {
			t.Errorf("Kind %d: %v", kind.n, got)
		}
	}
	for kind, k := range oneOfEach() {
		for other := -1; other <= 8; other++ {
			k.Kind = other
			want := other == kind || kind == impl.CmTick && other != impl.CmPool && other >= 0 && other < 8
			alike := slices.Contains([]int{1, 2, 3}, kind) && slices.Contains([]int{1, 2, 3, 7}, other) || kind == impl.CmRestart && other == impl.CmLimit
			if got := impl.CmdOk(k); got != (want || alike) {
				t.Errorf("%v: %v", k, got)
			}
		}
	}
}

func TestCmdOkOfEachAtAndN(t *testing.T) {
	for _, n := range []int{math.MinInt, -1, 0, 1, 5, 6, 16, 17, 59, 60, math.MaxInt} {
		for kind := range 8 {
			named := parts[kind]
			at, count := oneOfEach()[kind], oneOfEach()[kind]
			at.At, count.N = n, n
			wantAt, wantCount := n == 0 || slices.Contains(named, "At") && n > 0, n == 0 || slices.Contains(named, "N") && n > 0
			if kind == impl.CmLimit {
				wantAt, wantCount = n >= 0 && n <= 5, n >= 0 && n <= 16
			}
			if impl.CmdOk(at) != wantAt || impl.CmdOk(count) != wantCount {
				t.Errorf("Kind %d with At %d: %v; with N %d: %v", kind, n, impl.CmdOk(at), n, impl.CmdOk(count))
			}
		}
	}
}

func TestCmdOkOfLimits(t *testing.T) {
	for _, id := range idEdges {
		for _, limit := range limitEdges {
			if got := impl.CmdOk(toLimit(id.n, limit.n)); got != (id.in && limit.in) {
				t.Errorf("of %d to %d: %v", id.n, limit.n, got)
			}
		}
	}
}

func TestCmdOkOfWhatIsNotNamed(t *testing.T) {
	asked := 0
	for kind, k := range oneOfEach() {
		for _, touch := range touches {
			if slices.Contains(parts[kind], touch.part) {
				continue
			}
			is := k
			touch.do(&is, 1)
			if impl.CmdOk(is) {
				t.Errorf("Kind %d with %s: %v", kind, touch.why, is)
			}
			asked++
		}
	}
	if asked != 80-3-5-3-1-2 {
		t.Errorf("%d were asked", asked)
	}
}

// A list that is empty is zero, whatever lies behind it.
func TestCmdOkOfAnEmptyBody(t *testing.T) {
	for _, k := range oneOfEach() {
		if k.Kind != impl.CmClient {
			k.P.Body = []byte{1, 2}[:0]
		}
		if !impl.CmdOk(k) {
			t.Errorf("%v is refused", k)
		}
	}
}

func TestCmdOkOfPacketsAndCommandsOfPools(t *testing.T) {
	for i, p := range append(goodPackets(), impl.Packet{Seq: -1}, impl.Packet{Flags: impl.FlSyn | impl.FlFin}, impl.Packet{Body: counting(17, 1)}) {
		if impl.CmdOk(toSay(p)) != impl.PacketOk(p) {
			t.Errorf("packet %d: %v", i, p)
		}
	}
	for _, kind := range kindEdges {
		for _, id := range idEdges {
			for _, weight := range []int{-1, 0, 1, 100, 101} {
				k := impl.PoolCmd{Kind: kind.n, Id: id.n, Weight: weight}
				if impl.CmdOk(toCommand(k)) != impl.PoolCmdOk(k) {
					t.Errorf("%v: %v", k, impl.CmdOk(toCommand(k)))
				}
			}
		}
	}
}

// deedOf is what a command does, told by the model of the deeds.
func deedOf(k impl.Cmd) deed {
	switch k.Kind {
	case impl.CmClient:
		return saying(k.P)
	case impl.CmDeliver:
		return delivering(k.At)
	case impl.CmLose:
		return losing(k.At)
	case impl.CmTwice:
		return doubling(k.At)
	case impl.CmTick:
		return ticking()
	case impl.CmPool:
		return commanding(k.Pool)
	case impl.CmRestart:
		return restarting(k.N)
	}
	return limiting(k.At, k.N)
}

// doneBy is what the document says of a good command to a good cluster.
func doneBy(c impl.Cluster, k impl.Cmd) (impl.Cluster, bool) {
	d, told := deedOf(k).by(c)
	if k.Kind == impl.CmDeliver {
		return d, told != refused
	}
	if told == no && (k.Kind == impl.CmLose || k.Kind == impl.CmTwice) {
		return c, false
	}
	return d, told == yes
}

// mustObey wants Do to answer what the document says, and a cluster that may be.
func mustObey(t *testing.T, c impl.Cluster, k impl.Cmd) (impl.Cluster, bool) {
	t.Helper()
	d, ok := impl.Do(c, k)
	want, done := doneBy(c, k)
	if ok != done || !sameCluster(d, want) {
		t.Fatalf("%v to %v: %v, %v, not %v, %v", k, c, d, ok, want, done)
	}
	if !impl.ClusterOk(d) {
		t.Fatalf("%v to %v: %v is none", k, c, d)
	}
	return d, ok
}

// ordersTo are commands of every kind, some of which can't be done to c.
func ordersTo(c impl.Cluster) []impl.Cmd {
	all := []impl.Cmd{toTick(), toSay(opening()), toSay(following()), toSay(flagged(impl.FlRst)), toSay(impl.Packet{Flow: flow(9, 9), Flags: impl.FlSyn, Body: counting(impl.MaxBody, 3)})}
	for i := range len(c.Bag) + 2 {
		all = append(all, toDeliver(i), toLose(i), toDouble(i))
	}
	for i, k := range allCmds() {
		if i%4 == len(c.Bag)%4 {
			all = append(all, toCommand(k))
		}
	}
	for id := range impl.MaxBack {
		all = append(all, toLimit(id, 0), toLimit(id, impl.MaxTable))
	}
	for _, n := range []int{0, 1, 100, math.MaxInt} {
		all = append(all, toRestart(n), toDeliver(n), toLose(n), toDouble(n))
	}
	return all
}

func TestEachCommandDoesWhatItsDeedDoes(t *testing.T) {
	done, undone := [8]int{}, [8]int{}
	for _, c := range goodClusters() {
		for _, k := range ordersTo(c) {
			if _, ok := mustObey(t, c, k); ok {
				done[k.Kind]++
			} else {
				undone[k.Kind]++
			}
		}
	}
	for kind := range 8 {
		always := kind == impl.CmRestart || kind == impl.CmLimit
		if done[kind] < 20 || undone[kind] < 1 && !always || undone[kind] > 0 && always {
			t.Errorf("kind %d was done %d times, and not %d times", kind, done[kind], undone[kind])
		}
	}
}

func TestDoWhereItIsDoneAndWhereItIsNot(t *testing.T) {
	full := with(func(c *impl.Cluster) { c.Bag = fullBag(25) })
	almost := with(func(c *impl.Cluster) { c.Bag = fullBag(25)[:impl.MaxBag-1] })
	empty := with(func(c *impl.Cluster) { c.Bag = nil })
	late := with(func(c *impl.Cluster) { c.Now, c.Bag = lastNow, mixedBag(lastNow) })
	spent := with(func(c *impl.Cluster) { c.Bag, c.Gone = fullBag(25), mostTally })
	for _, s := range []struct {
		why  string
		c    impl.Cluster
		k    impl.Cmd
		ok   bool
		want [4]int
	}{
		{"it is said", almost, toSay(opening()), true, [4]int{60, 2, 3, 4}},
		{"there is no room for what is said", full, toSay(opening()), false, [4]int{60, 2, 3, 5}},
		{"no more may go", spent, toSay(opening()), false, [4]int{60, 2, 3, mostTally}},
		{"nobody serves", newCluster(t, 7, 4, 3), toSay(following()), false, [4]int{0, 0, 0, 1}},
		{"it is taken", onlyMail(comingTo(0, 25)[5]), toDeliver(0), true, [4]int{0, 3, 3, 4}},
		{"it is made", onlyMail(comingTo(1, 25)[2]), toDeliver(0), true, [4]int{1, 3, 3, 4}},
		{"it is passed", onlyMail(comingTo(1, 25)[0]), toDeliver(0), true, [4]int{1, 2, 3, 4}},
		{"it is refused", onlyMail(comingTo(1, 25)[5]), toDeliver(0), true, [4]int{0, 2, 4, 4}},
		{"it is old", onlyMail(carried(stamped(comingTo(1, 25)[2].C, 14))), toDeliver(0), true, [4]int{0, 2, 3, 5}},
		{"there is no room to shun it", onlyMail(comingTo(5, 25)[2]), toDeliver(0), true, [4]int{0, 2, 3, 5}},
		{"a word is delivered", onlyMail(word(mine, 5)), toDeliver(0), true, [4]int{0, 2, 3, 4}},
		{"none such is delivered", onlyMail(word(mine, 5)), toDeliver(1), false, [4]int{1, 2, 3, 4}},
		{"nothing is delivered", empty, toDeliver(0), false, [4]int{0, 2, 3, 4}},
		{"no more may be given", with(func(c *impl.Cluster) { c.Got = given(mostGot) }), toDeliver(5), false, [4]int{54, mostGot, 3, 4}},
		{"it is lost", full, toLose(59), true, [4]int{59, 2, 3, 4}},
		{"none such is lost", full, toLose(60), false, [4]int{60, 2, 3, 4}},
		{"nothing is lost", empty, toLose(0), false, [4]int{0, 2, 3, 4}},
		{"it is there twice", almost, toDouble(58), true, [4]int{60, 2, 3, 4}},
		{"none such is there twice", almost, toDouble(59), false, [4]int{59, 2, 3, 4}},
		{"there is no room for it twice", full, toDouble(0), false, [4]int{60, 2, 3, 4}},
		{"nothing is there twice", empty, toDouble(0), false, [4]int{0, 2, 3, 4}},
		{"time goes", crowded(), toTick(), true, [4]int{54, 2, 3, 4}},
		{"time is at its end", late, toTick(), false, [4]int{54, 2, 3, 4}},
		{"one comes", empty, toCommand(add(0, 9)), true, [4]int{0, 2, 3, 4}},
		{"one comes that is there", newCluster(t, 7, 4, 3, add(2, 5)), toCommand(add(2, 9)), false, [4]int{}},
		{"one goes that is not there", newCluster(t, 7, 4, 3, add(2, 5)), toCommand(remove(1)), false, [4]int{}},
		{"the balancer crashes", empty, toRestart(1), true, [4]int{0, 2, 3, 4}},
		{"a limit is set", empty, toLimit(5, 16), true, [4]int{0, 2, 3, 4}},
	} {
		d, ok := mustObey(t, s.c, s.k)
		if ok != s.ok || counts(d) != s.want {
			t.Errorf("%s: %v, %v, not %v, %v", s.why, ok, counts(d), s.ok, s.want)
		}
		gone := s.k.Kind == impl.CmClient && s.c.Gone < mostTally
		if !ok && !gone && !sameCluster(d, s.c) {
			t.Errorf("%s: %v is not as it was", s.why, d)
		}
	}
}

func TestDoTakesItsNumbersFromWhereTheyAre(t *testing.T) {
	d, ok := impl.Do(crowded(), toLimit(4, 11))
	if limits := d.Agents; !ok || limits[4].Limit != 11 || limits[5].Limit != 0 {
		t.Errorf("SetLimit: %v, %v", limits, ok)
	}
	for keep, noted := range map[int]int{0: 2, 1: 3, 2: 4, math.MaxInt: 4} {
		if d, ok := impl.Do(crowded(), toRestart(keep)); !ok || len(d.Bal.Journal.L) != noted || impl.CountOf(d.Bal.Hints) != 0 {
			t.Errorf("Restart with %d: %v, %v", keep, d.Bal, ok)
		}
	}
	if d, ok := impl.Do(crowded(), toTick()); !ok || d.Now != 26 {
		t.Errorf("Tick: %d, %v", d.Now, ok)
	}
	if d, ok := impl.Do(crowded(), toCommand(drain(1))); !ok || !d.Agents[1].Drain {
		t.Errorf("Command: %v, %v", d.Agents[1], ok)
	}
	for i, m := range crowded().Bag {
		d, ok := impl.Do(crowded(), toDouble(i))
		e, fine := impl.Do(d, toLose(i))
		if !ok || !fine || !sameMail(e.Bag[53], m) || len(e.Bag) != 54 {
			t.Errorf("Twice and Lose of %d: %v", i, e.Bag)
		}
	}
}

func TestDoOfWhatIsNone(t *testing.T) {
	for why, c := range badClusters() {
		for _, k := range append(oneOfEach(), toDeliver(0), toLose(0), toDouble(0), toCommand(add(0, 5)), impl.Cmd{Kind: 8}) {
			if d, ok := impl.Do(c, k); ok || !sameCluster(d, impl.Cluster{}) {
				t.Fatalf("%s: %v: %v, %v", why, k, d, ok)
			}
		}
	}
	for why, k := range badOrders() {
		for _, c := range []impl.Cluster{crowded(), newCluster(t, 7, 4, 3, add(2, 5)), with(func(c *impl.Cluster) { c.Bag = nil })} {
			if d, ok := impl.Do(c, k); ok || !sameCluster(d, impl.Cluster{}) {
				t.Fatalf("%s: %v, %v", why, d, ok)
			}
		}
	}
}
