package tests

import (
	"slices"
	"testing"

	"loop.example/g00607/impl"
)

// hintedTo is c with a hint of f to an agent; with none where id is below 0.
func hintedTo(c impl.Cluster, f impl.Flow, id int) impl.Cluster {
	if id < 0 {
		c.Bal.Hints, _ = impl.Drop(c.Bal.Hints, f)
		return c
	}
	c.Bal, _ = impl.Learn(c.Bal, c.Now, f, id)
	return c
}

// hadBy is c with just these agents having f, beside what else they have.
func hadBy(c impl.Cluster, f impl.Flow, ids ...int) impl.Cluster {
	for id, a := range c.Agents {
		a.Conns, _ = impl.Drop(a.Conns, f)
		if slices.Contains(ids, id) {
			a.Conns, _ = impl.Put(a.Conns, f, 9, c.Now+9)
		}
		c = withAgent(c, a)
	}
	return c
}

// eachSet are all lists of agents, ascending.
func eachSet() [][]int {
	var all [][]int
	for bits := range 1 << impl.MaxBack {
		var ids []int
		for id := range impl.MaxBack {
			if bits>>id&1 == 1 {
				ids = append(ids, id)
			}
		}
		all = append(all, ids)
	}
	return all
}

// flowsOf are all that somebody of c has, shuns, or has a hint for, one that is carried, and ones that nobody knows.
func flowsOf(c impl.Cluster) []impl.Flow {
	all := append(impl.FlowsOf(c.Bal.Hints), mine, flow(0, 0), flow(65535, 65535))
	for _, a := range c.Agents {
		all = append(all, impl.FlowsOf(a.Conns)...)
		all = append(all, impl.FlowsOf(a.Tombs)...)
	}
	slices.SortFunc(all, impl.FlowCmp)
	return slices.Compact(all)
}

// listedBy is who is asked for a flow: the hint, and the candidates of its bucket but for the hint.
func listedBy(c impl.Cluster, f impl.Flow) []int {
	var ids []int
	if s, is := keptIn(c.Bal.Hints)[f]; is {
		ids = append(ids, s.Val)
	}
	for _, id := range impl.Candidates(c.Bal.Pool, impl.BucketOf(c.Bal.Pool.Key, f)) {
		if !slices.Contains(ids, id) {
			ids = append(ids, id)
		}
	}
	return ids
}

// mustTell wants who has what to be told, as promise 12 has it.
func mustTell(t *testing.T, c impl.Cluster) {
	t.Helper()
	for _, f := range flowsOf(c) {
		if ids := impl.Owners(c, f); !slices.Equal(ids, holding(c, f)) {
			t.Fatalf("Owners(%v, %v) = %v, but %v have it", c, f, ids, holding(c, f))
		}
		if ids := impl.Listed(c, f); !slices.Equal(ids, listedBy(c, f)) {
			t.Fatalf("Listed(%v, %v) = %v, not %v", c, f, ids, listedBy(c, f))
		}
	}
	var loads []int
	for _, a := range c.Agents {
		loads = append(loads, impl.CountOf(a.Conns))
	}
	if told := impl.LoadOf(c); !slices.Equal(told, loads) {
		t.Fatalf("LoadOf(%v) = %v, not %v", c, told, loads)
	}
}

func TestWhatIsNoClusterIsNotAsked(t *testing.T) {
	for why, c := range badClusters() {
		for _, f := range []impl.Flow{mine, strangers(1)[0], flow(0, 0), flow(-1, 0)} {
			if ids, listed := impl.Owners(c, f), impl.Listed(c, f); len(ids) != 0 || len(listed) != 0 {
				t.Errorf("%s: Owners tells %v, Listed %v", why, ids, listed)
			}
		}
		for _, p := range []impl.Packet{opening(), following(), {}, {Seq: -1}} {
			if vd, id := impl.Fate(c, p); vd != -1 || id != -1 {
				t.Errorf("%s: Fate tells %d, %d", why, vd, id)
			}
		}
		for _, most := range []int{-1, 0, 1, 1000, 1001} {
			if d, n := impl.Flush(c, most); n != -1 || !sameCluster(d, impl.Cluster{}) {
				t.Errorf("%s: Flush tells %v, %d", why, d, n)
			}
		}
		if age, loads := impl.Oldest(c), impl.LoadOf(c); age != -1 || len(loads) != 0 {
			t.Errorf("%s: Oldest tells %d, LoadOf %v", why, age, loads)
		}
	}
}

func TestWhoHasWhatIsToldOfEachCluster(t *testing.T) {
	for _, c := range goodClusters() {
		mustTell(t, c)
	}
}

func TestOwnersOfEachSet(t *testing.T) {
	for _, c := range []impl.Cluster{newCluster(t, 7, 4, 3), newCluster(t, 7, 4, 3, add(1, 5), add(2, 5)), with(func(c *impl.Cluster) { c.Agents[3] = hasNot(); c.Agents = placed(c.Agents...) })} {
		for _, f := range []impl.Flow{mine, flow(0, 0), flow(65535, 65535), flow(0, 65535)} {
			for _, ids := range eachSet() {
				if told := impl.Owners(hadBy(c, f, ids...), f); !slices.Equal(told, ids) {
					t.Fatalf("%v have %v; Owners tells %v", ids, f, told)
				}
			}
		}
	}
}

func TestOwnersOfKnownFlows(t *testing.T) {
	c := crowded()
	for _, s := range []struct {
		f    impl.Flow
		want []int
	}{
		{mine, []int{0}}, // agent 2 shuns it
		{strangers(1)[0], []int{0, 1, 2, 3, 4, 5}},
		{strangers(2)[1], []int{3}}, // agent 5 shuns it
		{flow(258, 81), nil},
		{flow(80, 258), nil},
		{flow(0, 0), nil}, // what is not Used has it as its Flow
		{flow(65535, 65535), nil},
	} {
		if told := impl.Owners(c, s.f); !slices.Equal(told, s.want) {
			t.Errorf("Owners of %v: %v, not %v", s.f, told, s.want)
		}
	}
}

func TestWhatIsNoFlowIsNobodys(t *testing.T) {
	for _, c := range edgyClusters() {
		for _, f := range badFlows() {
			if ids, listed := impl.Owners(c, f), impl.Listed(c, f); len(ids) != 0 || len(listed) != 0 {
				t.Fatalf("%v: Owners tells %v, Listed %v", f, ids, listed)
			}
		}
	}
}

func TestListedOfEachBalancer(t *testing.T) {
	for _, b := range goodBals() {
		c := with(func(c *impl.Cluster) { c.Bal, c.Bag = b, nil })
		for _, f := range askedOf(b) {
			if told := impl.Listed(c, f); !slices.Equal(told, listedBy(c, f)) {
				t.Fatalf("Listed(%v, %v) = %v, not %v", b, f, told, listedBy(c, f))
			}
		}
	}
}

func TestListedWithEachHint(t *testing.T) {
	nobody := newCluster(t, 7, 4, 3)
	if told := impl.Listed(nobody, mine); len(told) != 0 {
		t.Errorf("without candidates and hint: %v", told)
	}
	two := newCluster(t, 7, 4, 3, add(1, 5), add(2, 5))
	first, second := pairIn(two)
	if told := impl.Listed(two, mine); !slices.Equal(told, []int{first, second}) {
		t.Errorf("without a hint: %v, not %v", told, []int{first, second})
	}
	for id := range impl.MaxBack {
		if told := impl.Listed(hintedTo(nobody, mine, id), mine); !slices.Equal(told, []int{id}) {
			t.Errorf("without candidates, with the hint %d: %v", id, told)
		}
		if told := impl.Listed(hintedTo(nobody, flow(258, 81), id), mine); len(told) != 0 {
			t.Errorf("with the hint %d of another flow: %v", id, told)
		}
		want := map[int][]int{first: {first, second}, second: {second, first}}[id]
		if want == nil {
			want = []int{id, first, second}
		}
		if told := impl.Listed(hintedTo(two, mine, id), mine); !slices.Equal(told, want) {
			t.Errorf("with the hint %d: %v, not %v", id, told, want)
		}
	}
}

func TestWhoWentIsListedAsLongAsItMayHaveTheFlow(t *testing.T) {
	for _, went := range []impl.PoolCmd{drain(2), remove(2)} {
		c := newCluster(t, 7, 4, 3, add(2, 5), add(1, 5), went)
		for range 2 {
			if told := impl.Listed(c, mine); !slices.Contains(told, 2) || told[0] != 1 || len(told) != 2 {
				t.Errorf("behind %v: %v", went, told)
			}
			c, _ = impl.Command(c, weigh(1, 5))
		}
		if told := impl.Listed(c, mine); !slices.Equal(told, []int{1}) {
			t.Errorf("two commands behind %v: %v", went, told)
		}
	}
}

// aged are carriers of those ages that open, at many places of a route.
func aged(now int, ages ...int) []impl.Mail {
	var bag []impl.Mail
	for i, age := range ages {
		bag = append(bag, carried(stamped(at(huntSpots[i%len(huntSpots)], opening()), now-age)))
	}
	return bag
}

// silent are carriers that do not open, of an age, and words.
func silent(now int, age int) []impl.Mail {
	var bag []impl.Mail
	for i, flags := range followingFlags {
		bag = append(bag, carried(stamped(at(ownSpots[i%len(ownSpots)], flagged(flags)), now-age)), word(mine, i%impl.MaxBack))
	}
	return bag
}

func TestOldestOfWhatOpens(t *testing.T) {
	for _, now := range []int{25, 26, 5000, lastNow} {
		for _, s := range []struct {
			why  string
			bag  []impl.Mail
			want int
		}{
			{"an empty Bag", nil, -1},
			{"a word alone", []impl.Mail{word(mine, 2)}, -1},
			{"words alone", slices.Repeat([]impl.Mail{word(flow(0, 0), 0)}, impl.MaxBag), -1},
			{"what does not open alone", []impl.Mail{carried(stamped(at(ownFirst, following()), now-5))}, -1},
			{"what does not open, and words", silent(now, 25), -1},
			{"what is stamped just now", aged(now, 0), 0},
			{"all are stamped just now", aged(now, 0, 0, 0, 0, 0, 0, 0, 0), 0},
			{"one ago", aged(now, 1), 1},
			{"the oldest is the first", aged(now, 9, 3, 0), 9},
			{"the oldest is between", aged(now, 3, 9, 0), 9},
			{"the oldest is the last", aged(now, 0, 3, 9), 9},
			{"two are the oldest", aged(now, 0, 7, 3, 7, 1), 7},
			{"it is as old as the Window", aged(now, impl.Window), impl.Window},
			{"it is older", aged(now, impl.Window, impl.Window+1), impl.Window + 1},
			{"it is from the first time on", aged(now, 4, now, 8), now},
			{"what does not open is older", append(aged(now, 2), silent(now, 25)...), 2},
			{"what does not open is older, and ahead", append(silent(now, 25), aged(now, 2, 0)...), 2},
			{"what does not open is younger", append(silent(now, 0), aged(now, 20)...), 20},
			{"a full Bag", append(aged(now, 6), slices.Repeat(aged(now, 5), impl.MaxBag-1)...), 6},
		} {
			c := with(func(c *impl.Cluster) { c.Now, c.Bag = now, s.bag })
			if age := impl.Oldest(c); age != s.want || !impl.ClusterOk(c) {
				t.Errorf("at %d, %s: %d, not %d", now, s.why, age, s.want)
			}
		}
	}
}

func TestOldestByTheFlagsOfAPacket(t *testing.T) {
	for flags := range 16 {
		p := impl.Packet{Flow: mine, Flags: flags}
		c := with(func(c *impl.Cluster) { c.Bag = []impl.Mail{carried(stamped(at(ownFirst, p), 20))} })
		want := -1
		if impl.Opens(p) {
			want = 5
		}
		if age := impl.Oldest(c); impl.PacketOk(p) && age != want {
			t.Errorf("flags %d: %d, not %d", flags, age, want)
		}
	}
}

func TestOldestGrowsByTicks(t *testing.T) {
	c := newCluster(t, 7, 4, 3, add(2, 5))
	if age := impl.Oldest(c); age != -1 {
		t.Fatalf("with nothing on the way: %d", age)
	}
	c, _ = impl.Client(c, following())
	c, _ = impl.Tick(c)
	c, _ = impl.Client(c, opening())
	for want := range 30 {
		if age := impl.Oldest(c); age != want {
			t.Fatalf("behind %d ticks: %d", want, age)
		}
		c, _ = impl.Tick(c)
	}
	c, _ = impl.Lose(c, 1)
	if age := impl.Oldest(c); age != -1 || len(c.Bag) != 1 {
		t.Fatalf("with what does not open alone: %d", age)
	}
}

func TestLoadOfEachAgent(t *testing.T) {
	if loads := impl.LoadOf(newCluster(t, 7, 4, 3, add(1, 5))); !slices.Equal(loads, make([]int, impl.MaxBack)) {
		t.Errorf("of those who have none: %v", loads)
	}
	if loads := impl.LoadOf(crowded()); !slices.Equal(loads, []int{2, 1, 1, 3, 1, 1}) {
		t.Errorf("of agents of each sort: %v", loads)
	}
	for size := 1; size <= impl.MaxTable; size++ {
		for n := range size + 1 {
			for id := range impl.MaxBack {
				c := newCluster(t, 7, 4, 0)
				c = withAgent(c, impl.Agent{Id: id, Drain: n%2 == 0, Conns: keeping(size, 60, strangers(n)...), Tombs: keeping(7, 60, strangers(7-id)...)})
				want := make([]int, impl.MaxBack)
				want[id] = n
				if loads := impl.LoadOf(c); !slices.Equal(loads, want) {
					t.Fatalf("%d of %d slots: %v, not %v", n, size, loads, want)
				}
			}
		}
	}
}
