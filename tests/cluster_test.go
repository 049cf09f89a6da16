package tests

import (
	"math"
	"slices"
	"strconv"
	"testing"

	"loop.example/g00607/impl"
)

// The document has no names for these.
const (
	lastNow   = 99000
	mostGot   = 1000
	mostTally = 100000
)

var clusterNowEdges = []edge{{math.MinInt, false}, {-1, false}, {0, true}, {1, true}, {lastNow - 1, true}, {lastNow, true}, {lastNow + 1, false}, {100000, false}, {math.MaxInt, false}}

var tallyEdges = []edge{{math.MinInt, false}, {-1, false}, {0, true}, {1, true}, {mostTally - 1, true}, {mostTally, true}, {mostTally + 1, false}, {math.MaxInt, false}}

func carried(c impl.Carrier) impl.Mail { return impl.Mail{Kind: impl.MlCarrier, C: c} }

func word(f impl.Flow, id int) impl.Mail { return impl.Mail{Kind: impl.MlAck, Flow: f, Back: id} }

func sameMail(a impl.Mail, b impl.Mail) bool {
	return a.Kind == b.Kind && sameCarrier(a.C, b.C) && a.Flow == b.Flow && a.Back == b.Back
}

func sameCluster(a impl.Cluster, b impl.Cluster) bool {
	return a.Now == b.Now && a.Rst == b.Rst && a.Gone == b.Gone && sameBal(a.Bal, b.Bal) && slices.Equal(a.Got, b.Got) &&
		slices.EqualFunc(a.Agents, b.Agents, sameAgent) && slices.EqualFunc(a.Bag, b.Bag, sameMail)
}

// placed are agents with their places as Id.
func placed(agents ...impl.Agent) []impl.Agent {
	agents = slices.Clone(agents)
	for id := range agents {
		agents[id].Id = id
	}
	return agents
}

// eachSort are agents that have the flow mine, have it not, shun it, are full, drain, and have no room to shun it.
func eachSort() []impl.Agent {
	return placed(hasIt(), hasNot(), shunsIt(), isFull(), draining(hasNot()), limited(burying(hasNot(), strangers(2)...), 0))
}

// comingTo is what comes to an agent now: at each place of a route, what opens, what follows, what ends, and what is old.
func comingTo(id int, now int) []impl.Mail {
	next := (id + 1) % impl.MaxBack
	ownAhead, ownEnd := spot{[]impl.Seg{own(id), own(next)}, 0}, spot{[]impl.Seg{own(next), own(id)}, 1}
	huntAhead, huntEnd := spot{[]impl.Seg{hunt(id), hunt(next)}, 0}, spot{[]impl.Seg{own(id), hunt(next), hunt(id)}, 2}
	var all []impl.Mail
	for _, c := range []impl.Carrier{
		at(ownAhead, opening()), at(ownEnd, opening()), at(huntAhead, opening()), at(huntEnd, opening()),
		at(ownAhead, following()), at(ownEnd, following()), at(ownEnd, flagged(impl.FlFin)),
	} {
		all = append(all, carried(stamped(c, now)))
	}
	return append(all, carried(stamped(at(huntAhead, opening()), max(0, now-impl.Window-1))))
}

// mixedBag has what comes to each agent, and words of each.
func mixedBag(now int) []impl.Mail {
	var bag []impl.Mail
	for id := range impl.MaxBack {
		bag = append(bag, comingTo(id, now)...)
		bag = append(bag, word([]impl.Flow{mine, flow(0, 0), flow(65535, id)}[id%3], id))
	}
	return bag
}

// fullBag has as many as a bag takes.
func fullBag(now int) []impl.Mail {
	bag := mixedBag(now)
	return append(bag, bag...)[:impl.MaxBag]
}

func given(n int) []impl.Got {
	got := make([]impl.Got, n)
	for i := range got {
		got[i] = impl.Got{Flow: flow(i, 65535-i), Back: i % impl.MaxBack, Seq: 60 * i}
	}
	return got
}

// crowded is a cluster with agents of each sort, a mixed bag, hints, and a journal that is not all Safe.
func crowded() impl.Cluster {
	return impl.Cluster{Now: 25, Bal: fourServe(), Agents: eachSort(), Bag: mixedBag(25), Got: given(2), Rst: 3, Gone: 4}
}

// with is crowded, changed.
func with(change func(c *impl.Cluster)) impl.Cluster {
	c := crowded()
	change(&c)
	return c
}

// newCluster is one in which some serve, and has to be.
func newCluster(t *testing.T, key int, size int, limit int, serve ...impl.PoolCmd) impl.Cluster {
	t.Helper()
	c, ok := impl.ClusterNew(key, size, slices.Repeat([]int{limit}, impl.MaxBack))
	for _, k := range serve {
		if !ok {
			break
		}
		c, ok = impl.Command(c, k)
	}
	if !ok {
		t.Fatalf("key %d, size %d, limit %d: no cluster of %v", key, size, limit, serve)
	}
	return c
}

// edgyClusters are at one limit each.
func edgyClusters() []impl.Cluster {
	all := []impl.Cluster{
		crowded(),
		with(func(c *impl.Cluster) { c.Bag, c.Got, c.Rst, c.Gone = nil, nil, 0, 0 }),
		with(func(c *impl.Cluster) { c.Bag = c.Bag[:1] }),
		with(func(c *impl.Cluster) { c.Bag = fullBag(c.Now) }),
		with(func(c *impl.Cluster) { c.Bag = fullBag(c.Now)[:impl.MaxBag-1] }),
		with(func(c *impl.Cluster) { c.Bag, c.Gone = fullBag(c.Now), mostTally }),
		with(func(c *impl.Cluster) { c.Got = given(mostGot) }),
		with(func(c *impl.Cluster) { c.Got = given(mostGot - 1) }),
		with(func(c *impl.Cluster) { c.Bag, c.Got = fullBag(c.Now), given(mostGot) }),
		with(func(c *impl.Cluster) { c.Rst = mostTally }),
		with(func(c *impl.Cluster) { c.Rst, c.Gone = mostTally-1, mostTally-1 }),
		with(func(c *impl.Cluster) { c.Gone = mostTally }),
		with(func(c *impl.Cluster) { c.Rst, c.Gone, c.Got = mostTally, mostTally, given(mostGot) }),
	}
	for _, now := range []int{0, 1, lastNow - 1, lastNow} {
		all = append(all, with(func(c *impl.Cluster) { c.Now, c.Bag = now, mixedBag(now) }))
	}
	return all
}

// goodClusters are these, and ones with balancers and agents of many sorts.
func goodClusters() []impl.Cluster {
	all := edgyClusters()
	for i, b := range someBals() {
		all = append(all, with(func(c *impl.Cluster) { c.Bal, c.Bag = b, c.Bag[i%20:] }))
	}
	for some := range slices.Chunk(goodAgents(), impl.MaxBack) {
		if len(some) == impl.MaxBack && len(all)%3 > 0 {
			all = append(all, with(func(c *impl.Cluster) { c.Agents = placed(some...) }))
		}
	}
	return all
}

// badMails are mails of which one thing alone is wrong.
func badMails() map[string]impl.Mail {
	good := comingTo(2, 0)[0].C
	bad := map[string]impl.Mail{
		"a carrier with an Addr":           {C: good, Flow: flow(1, 0)},
		"a carrier with a Port":            {C: good, Flow: flow(0, 1)},
		"a carrier with its flow":          {C: good, Flow: good.P.Flow},
		"a carrier with a Back":            {C: good, Back: 1},
		"a carrier with a Back below 0":    {C: good, Back: -1},
		"a carrier with a word":            {C: good, Flow: mine, Back: 2},
		"a word alone, of no Kind":         {Flow: mine, Back: 2},
		"a word with a carrier":            {Kind: impl.MlAck, C: good, Flow: mine, Back: 2},
		"a word with an Addr beside it":    {Kind: impl.MlAck, C: impl.Carrier{P: impl.Packet{Flow: flow(1, 0)}}, Flow: mine},
		"a word with a Port beside it":     {Kind: impl.MlAck, C: impl.Carrier{P: impl.Packet{Flow: flow(0, 1)}}, Flow: mine},
		"a word with Flags beside it":      {Kind: impl.MlAck, C: impl.Carrier{P: impl.Packet{Flags: impl.FlSyn}}, Flow: mine},
		"a word with a Seq beside it":      {Kind: impl.MlAck, C: impl.Carrier{P: impl.Packet{Seq: 1}}, Flow: mine},
		"a word with a Body beside it":     {Kind: impl.MlAck, C: impl.Carrier{P: impl.Packet{Body: []byte{0}}}, Flow: mine},
		"a word with a Seg beside it":      {Kind: impl.MlAck, C: impl.Carrier{Segs: []impl.Seg{{}}}, Flow: mine},
		"a word with an At beside it":      {Kind: impl.MlAck, C: impl.Carrier{At: 1}, Flow: mine},
		"a word with a Stamp beside it":    {Kind: impl.MlAck, C: impl.Carrier{Stamp: 1}, Flow: mine},
		"a word with a Stamp of -1":        {Kind: impl.MlAck, C: impl.Carrier{Stamp: -1}, Flow: mine},
		"a word with an At of -1 beside":   {Kind: impl.MlAck, C: impl.Carrier{At: -1}, Flow: mine},
		"the zero value: it has no packet": {},
	}
	for _, kind := range []int{math.MinInt, -1, 2, 3, 256, 257, math.MaxInt} {
		bad["a carrier of Kind "+strconv.Itoa(kind)] = impl.Mail{Kind: kind, C: good}
		bad["a word of Kind "+strconv.Itoa(kind)] = impl.Mail{Kind: kind, Flow: mine, Back: 2}
		bad["nothing of Kind "+strconv.Itoa(kind)] = impl.Mail{Kind: kind}
	}
	for why, c := range badCarriers() {
		bad["carrier: "+why] = carried(c)
	}
	for i, f := range badFlows() {
		bad["word of flow "+strconv.Itoa(i)] = word(f, 2)
	}
	for _, id := range idEdges {
		if !id.in {
			bad["word of Back "+strconv.Itoa(id.n)] = word(mine, id.n)
		}
	}
	return bad
}

// badGots are wrong in one number each.
func badGots() map[string]impl.Got {
	bad := map[string]impl.Got{}
	for i, f := range badFlows() {
		bad["Got of flow "+strconv.Itoa(i)] = impl.Got{Flow: f}
	}
	for _, id := range idEdges {
		if !id.in {
			bad["Got of Back "+strconv.Itoa(id.n)] = impl.Got{Flow: mine, Back: id.n}
		}
	}
	for _, seq := range wordEdges {
		if !seq.in {
			bad["Got of Seq "+strconv.Itoa(seq.n)] = impl.Got{Flow: mine, Seq: seq.n}
		}
	}
	return bad
}

// badCounts are clusters with one too many, one too few, or a number that is beyond its limits.
func badCounts() map[string]impl.Cluster {
	bad := map[string]impl.Cluster{
		"the zero value":        {},
		"no agents":             with(func(c *impl.Cluster) { c.Agents = nil }),
		"one agent fewer":       with(func(c *impl.Cluster) { c.Agents = c.Agents[:5] }),
		"one agent fewer ahead": with(func(c *impl.Cluster) { c.Agents = c.Agents[1:] }),
		"one agent more":        with(func(c *impl.Cluster) { c.Agents = append(c.Agents, hasNot()) }),
		"agent 0 behind all":    with(func(c *impl.Cluster) { c.Agents = append(c.Agents, c.Agents[0]) }),
		"two change places":     with(func(c *impl.Cluster) { c.Agents[1], c.Agents[4] = c.Agents[4], c.Agents[1] }),
		"one more in Bag":       with(func(c *impl.Cluster) { c.Bag = append(fullBag(c.Now), word(mine, 2)) }),
		"many more in Bag":      with(func(c *impl.Cluster) { c.Bag = slices.Repeat(c.Bag, 5) }),
		"one more in Got":       with(func(c *impl.Cluster) { c.Got = given(mostGot + 1) }),
	}
	for _, now := range clusterNowEdges {
		if !now.in {
			bad["Now "+strconv.Itoa(now.n)] = with(func(c *impl.Cluster) { c.Now, c.Bag = now.n, nil })
		}
	}
	for _, n := range tallyEdges {
		if !n.in {
			bad["Rst "+strconv.Itoa(n.n)] = with(func(c *impl.Cluster) { c.Rst = n.n })
			bad["Gone "+strconv.Itoa(n.n)] = with(func(c *impl.Cluster) { c.Gone = n.n })
		}
	}
	for place := range impl.MaxBack {
		for _, id := range []int{place - 1, place + 1, (place + 3) % impl.MaxBack} {
			bad["agent "+strconv.Itoa(place)+" with Id "+strconv.Itoa(id)] = with(func(c *impl.Cluster) { c.Agents[place].Id = id })
		}
	}
	for _, stamp := range []int{26, 27, 99000, 100000} {
		for i := range 8 {
			bad["mail "+strconv.Itoa(i)+" with Stamp "+strconv.Itoa(stamp)] = with(func(c *impl.Cluster) { c.Bag[i].C.Stamp = stamp })
		}
	}
	return bad
}

// badClusters are clusters of which one thing alone is wrong.
func badClusters() map[string]impl.Cluster {
	bad := badCounts()
	for why, b := range badBals() {
		bad["Bal: "+why] = with(func(c *impl.Cluster) { c.Bal = b })
	}
	for why, a := range badAgents() {
		place := len(why) % impl.MaxBack
		if impl.SegOk(own(a.Id)) {
			a.Id = place
		}
		bad["agent "+strconv.Itoa(place)+": "+why] = with(func(c *impl.Cluster) { c.Agents[place] = a })
	}
	for why, m := range badMails() {
		bad["Bag: "+why] = with(func(c *impl.Cluster) { c.Bag[len(why)%len(c.Bag)] = m })
	}
	for why, g := range badGots() {
		bad[why] = with(func(c *impl.Cluster) { c.Got = append(c.Got, g, given(1)[0]) })
	}
	return bad
}

func TestConstantsOfClusters(t *testing.T) {
	if impl.MaxBag != 60 || impl.MlCarrier != 0 || impl.MlAck != 1 {
		t.Fatal("a constant is not as the document has it")
	}
}

func TestMailOkOfCarriersAndWords(t *testing.T) {
	for _, c := range goodCarriers() {
		if !impl.MailOk(carried(c)) {
			t.Errorf("%v is refused", c)
		}
	}
	for _, e := range wordEdges {
		for _, id := range idEdges {
			if impl.MailOk(word(flow(e.n, 3), id.n)) != (e.in && id.in) || impl.MailOk(word(flow(3, e.n), id.n)) != (e.in && id.in) {
				t.Errorf("word of %d, %d", e.n, id.n)
			}
		}
	}
	hollow := impl.Carrier{P: impl.Packet{Body: []byte{1}[:0]}, Segs: []impl.Seg{own(2)}[:0]}
	if m := (impl.Mail{Kind: impl.MlAck, C: hollow, Flow: mine, Back: 2}); !impl.MailOk(m) || !impl.MailOk(word(flow(0, 0), 0)) {
		t.Errorf("a word with empty lists is refused")
	}
	for why, m := range badMails() {
		if impl.MailOk(m) {
			t.Errorf("%s is accepted: %v", why, m)
		}
	}
}

func TestClusterOkWithinItsLimits(t *testing.T) {
	for _, c := range goodClusters() {
		if !impl.ClusterOk(c) {
			t.Errorf("%v is refused", c)
		}
	}
	for why, c := range badClusters() {
		if impl.ClusterOk(c) {
			t.Errorf("%s is accepted", why)
		}
	}
}

func TestClusterOkOfEachNumber(t *testing.T) {
	for _, now := range clusterNowEdges {
		if got := impl.ClusterOk(with(func(c *impl.Cluster) { c.Now, c.Bag = now.n, []impl.Mail{word(mine, 2)} })); got != now.in {
			t.Errorf("Now %d: %v", now.n, got)
		}
	}
	for _, n := range tallyEdges {
		rst, gone := with(func(c *impl.Cluster) { c.Rst = n.n }), with(func(c *impl.Cluster) { c.Gone = n.n })
		if impl.ClusterOk(rst) != n.in || impl.ClusterOk(gone) != n.in {
			t.Errorf("Rst or Gone %d", n.n)
		}
	}
	for _, n := range []edge{{0, true}, {1, true}, {mostGot - 1, true}, {mostGot, true}, {mostGot + 1, false}, {5000, false}} {
		if got := impl.ClusterOk(with(func(c *impl.Cluster) { c.Got = given(n.n) })); got != n.in {
			t.Errorf("%d in Got: %v", n.n, got)
		}
	}
	for _, n := range []edge{{0, true}, {1, true}, {impl.MaxBag - 1, true}, {impl.MaxBag, true}, {impl.MaxBag + 1, false}, {500, false}} {
		for _, m := range []impl.Mail{word(mine, 2), mixedBag(25)[0]} {
			if got := impl.ClusterOk(with(func(c *impl.Cluster) { c.Bag = slices.Repeat([]impl.Mail{m}, n.n) })); got != n.in {
				t.Errorf("%d in Bag: %v", n.n, got)
			}
		}
	}
	for _, n := range []edge{{0, false}, {1, false}, {impl.MaxBack - 1, false}, {impl.MaxBack, true}, {impl.MaxBack + 1, false}, {12, false}} {
		if got := impl.ClusterOk(with(func(c *impl.Cluster) { c.Agents = placed(slices.Repeat([]impl.Agent{hasNot()}, n.n)...) })); got != n.in {
			t.Errorf("%d agents: %v", n.n, got)
		}
	}
}

func TestClusterOkOfEachStamp(t *testing.T) {
	for _, now := range []int{0, 1, 25, lastNow} {
		for _, stamp := range []edge{{0, true}, {now - 1, now > 0}, {now, true}, {now + 1, false}, {now + 2, false}, {100000, false}} {
			for _, p := range []impl.Packet{opening(), following()} {
				m := carried(stamped(at(ownFirst, p), stamp.n))
				for _, bag := range [][]impl.Mail{{m}, {m, word(mine, 2)}, {word(mine, 2), m}} {
					c := with(func(c *impl.Cluster) { c.Now, c.Bag = now, bag })
					if got := impl.ClusterOk(c); got != stamp.in {
						t.Errorf("Now %d, Stamp %d: %v", now, stamp.n, got)
					}
				}
			}
		}
	}
}

func TestClusterOkOfEachGot(t *testing.T) {
	for _, e := range wordEdges {
		for _, g := range []impl.Got{{Flow: flow(e.n, 3)}, {Flow: flow(3, e.n)}, {Seq: e.n}} {
			for _, place := range []int{0, 1, mostGot - 1} {
				c := with(func(c *impl.Cluster) { c.Got = given(mostGot); c.Got[place] = g })
				if got := impl.ClusterOk(c); got != e.in {
					t.Errorf("%v at %d: %v", g, place, got)
				}
			}
		}
	}
	for _, id := range idEdges {
		if got := impl.ClusterOk(with(func(c *impl.Cluster) { c.Got[1].Back = id.n })); got != id.in {
			t.Errorf("Back %d in Got: %v", id.n, got)
		}
	}
}

func TestClusterOkOfEachPlace(t *testing.T) {
	for place := range impl.MaxBack {
		for why, a := range map[string]impl.Agent{"a Limit": limited(hasNot(), impl.MaxTable+1), "no Conns": who(impl.Table{}, keeping(1, 1)), "no Tombs": who(keeping(1, 1), impl.Table{})} {
			a.Id = place
			if impl.ClusterOk(with(func(c *impl.Cluster) { c.Agents[place] = a })) {
				t.Errorf("agent %d with %s is accepted", place, why)
			}
		}
	}
	for i := range mixedBag(25) {
		if impl.ClusterOk(with(func(c *impl.Cluster) { c.Bag[i].Kind = 2 })) {
			t.Errorf("a mail of Kind 2 at %d is accepted", i)
		}
	}
}

func TestClusterNewAtItsEdges(t *testing.T) {
	free := impl.Table{Slots: make([]impl.Slot, impl.MaxTable)}
	limits := []int{0, 1, 2, impl.MaxTable - 1, impl.MaxTable, 7}
	for _, key := range keyEdges {
		for _, size := range sizeEdges {
			want := impl.Cluster{}
			if key.in && size.in {
				want.Bal, _ = impl.BalNew(key.n, size.n)
				for id, limit := range limits {
					want.Agents = append(want.Agents, impl.Agent{Id: id, Limit: limit, Conns: free, Tombs: free})
				}
			}
			c, ok := impl.ClusterNew(key.n, size.n, limits)
			if ok != (key.in && size.in) || !sameCluster(c, want) || impl.ClusterOk(c) != ok {
				t.Errorf("ClusterNew(%d, %d, %v) = %v, %v", key.n, size.n, limits, c, ok)
			}
		}
	}
}

func TestClusterNewOfEachLimit(t *testing.T) {
	for _, limit := range limitEdges {
		for id := range impl.MaxBack {
			limits := []int{3, 3, 3, 3, 3, 3}
			limits[id] = limit.n
			c, ok := impl.ClusterNew(7, 4, limits)
			if ok != limit.in || impl.ClusterOk(c) != ok || !ok && !sameCluster(c, impl.Cluster{}) {
				t.Errorf("limits %v: %v, %v", limits, c, ok)
			}
			for other := range c.Agents {
				if c.Agents[other].Limit != limits[other] {
					t.Errorf("limits %v: agent %d has %d", limits, other, c.Agents[other].Limit)
				}
			}
		}
	}
	for _, n := range []edge{{0, false}, {1, false}, {impl.MaxBack - 1, false}, {impl.MaxBack, true}, {impl.MaxBack + 1, false}, {20, false}} {
		c, ok := impl.ClusterNew(7, 4, make([]int, n.n))
		if ok != n.in || impl.ClusterOk(c) != ok || !ok && !sameCluster(c, impl.Cluster{}) {
			t.Errorf("%d limits: %v, %v", n.n, c, ok)
		}
	}
}
