package tests

import (
	"slices"
	"strings"
	"testing"

	"loop.example/g00607/impl"
)

func TestWhatIsNoClusterHasOneFixedAnswer(t *testing.T) {
	deeds := []deed{
		saying(opening()), saying(impl.Packet{Seq: -1}), delivering(0), delivering(-1), delivering(60), losing(0), losing(-1), doubling(0), doubling(60),
		ticking(), commanding(add(0, 1)), commanding(weigh(1, 1)), commanding(impl.PoolCmd{Kind: 4}), restarting(0), restarting(-1), limiting(2, 3), limiting(2, -1), limiting(6, 3),
	}
	for why, c := range badClusters() {
		for _, k := range deeds {
			d, told := k.do(c)
			if !sameCluster(d, impl.Cluster{}) || told != no && told != refused || told == refused != strings.HasPrefix(k.name, "Deliver") {
				t.Errorf("%s: %s tells %v, %d", why, k.name, d, told)
			}
		}
	}
}

func TestWhatIsNoPacketIsNotSaid(t *testing.T) {
	for _, c := range edgyClusters() {
		for why, p := range badPackets() {
			if d, ok := impl.Client(c, p); ok || !sameCluster(d, impl.Cluster{}) {
				t.Fatalf("%s: %v, %v", why, d, ok)
			}
		}
	}
}

func TestEachGoodPacketIsSaid(t *testing.T) {
	for i, p := range goodPackets() {
		mustDo(t, edgyClusters()[i%5], saying(p))
	}
}

// counts are how many are on the way, given, refused and gone.
func counts(c impl.Cluster) [4]int { return [4]int{len(c.Bag), len(c.Got), c.Rst, c.Gone} }

func TestWhatIsSaidIsOnTheWayOrGone(t *testing.T) {
	nobody := newCluster(t, 7, 4, 3)
	room := with(func(c *impl.Cluster) { c.Bag = c.Bag[:5] })
	for _, s := range []struct {
		why  string
		c    impl.Cluster
		gone int
		told int
		want [4]int
	}{
		{"there is room", room, 4, yes, [4]int{6, 2, 3, 4}},
		{"there is room, and no more may go", room, mostTally, yes, [4]int{6, 2, 3, mostTally}},
		{"there is room for the last", with(func(c *impl.Cluster) { c.Bag = fullBag(25)[:59] }), 4, yes, [4]int{60, 2, 3, 4}},
		{"there is no room", with(func(c *impl.Cluster) { c.Bag = fullBag(25) }), 4, no, [4]int{60, 2, 3, 5}},
		{"there is no room, and one more may go", with(func(c *impl.Cluster) { c.Bag = fullBag(25) }), mostTally - 1, no, [4]int{60, 2, 3, mostTally}},
		{"there is no room, and no more may go", with(func(c *impl.Cluster) { c.Bag = fullBag(25) }), mostTally, no, [4]int{60, 2, 3, mostTally}},
		{"nobody serves", nobody, 0, no, [4]int{0, 0, 0, 1}},
		{"nobody serves, and one more may go", nobody, mostTally - 1, no, [4]int{0, 0, 0, mostTally}},
		{"nobody serves, and no more may go", nobody, mostTally, no, [4]int{0, 0, 0, mostTally}},
	} {
		s.c.Gone = s.gone
		for _, p := range []impl.Packet{opening(), following()} {
			d, told := mustDo(t, s.c, saying(p))
			if told != s.told || counts(d) != s.want {
				t.Errorf("%s: %d, %v, not %d, %v", s.why, told, counts(d), s.told, s.want)
			}
		}
	}
}

func TestWhatIsSaidHasItsRouteAndItsTime(t *testing.T) {
	c := with(func(c *impl.Cluster) { c.Bag = c.Bag[:5] })
	d, _ := mustDo(t, c, saying(opening()))
	last := d.Bag[5]
	if last.Kind != impl.MlCarrier || last.C.Stamp != 25 || last.C.At != 0 || !samePacket(last.C.P, opening()) || !slices.Equal(last.C.Segs, routeBy(c.Bal, opening())) || len(impl.HuntPair(last.C)) != 2 {
		t.Fatalf("on the way is %v", last)
	}
}

func TestDeliverAtEachPlace(t *testing.T) {
	for _, bag := range [][]impl.Mail{nil, mixedBag(25)[:1], mixedBag(25)[:3], mixedBag(25), fullBag(25)} {
		c := with(func(c *impl.Cluster) { c.Bag = bag })
		for _, i := range []int{-1 << 63, -60, -1, len(bag), len(bag) + 1, 60, 1<<63 - 1} {
			if d, told := mustDo(t, c, delivering(i)); i < 0 || i >= len(bag) {
				if told != -2 || !sameCluster(d, c) {
					t.Errorf("of %d, %d: %v, %d", len(bag), i, d, told)
				}
			}
			for _, k := range []deed{losing(i), doubling(i)} {
				d, told := k.do(c)
				if i < 0 || i >= len(bag) {
					if told != no || !sameCluster(d, impl.Cluster{}) {
						t.Errorf("%s of %d: %v, %d", k.name, len(bag), d, told)
					}
				}
			}
		}
		for i, m := range bag {
			d, told := mustDo(t, c, delivering(i))
			if told == -2 || !slices.EqualFunc(d.Bag[:len(bag)-1], slices.Concat(bag[:i], bag[i+1:]), sameMail) {
				t.Errorf("of %d, %d, which is %v: %v, %d", len(bag), i, m, d.Bag, told)
			}
		}
	}
}

// onlyMail is crowded with one mail alone.
func onlyMail(m impl.Mail) impl.Cluster {
	return with(func(c *impl.Cluster) { c.Bag = []impl.Mail{m} })
}

func TestDeliverOfEachVerdict(t *testing.T) {
	old := stamped(comingTo(1, 25)[2].C, 14)
	young := stamped(comingTo(1, 25)[2].C, 15)
	for _, s := range []struct {
		why  string
		m    impl.Mail
		told int
		want [4]int
	}{
		{"who has it takes what opens", comingTo(0, 25)[0], impl.VdTake, [4]int{1, 3, 3, 4}},
		{"who has it takes what opens, hunted", comingTo(0, 25)[3], impl.VdTake, [4]int{1, 3, 3, 4}},
		{"who has it takes what follows", comingTo(0, 25)[5], impl.VdTake, [4]int{0, 3, 3, 4}},
		{"who has it takes what ends", comingTo(0, 25)[6], impl.VdTake, [4]int{0, 3, 3, 4}},
		{"the first makes it", comingTo(1, 25)[2], impl.VdMake, [4]int{1, 3, 3, 4}},
		{"the last makes it", comingTo(1, 25)[3], impl.VdMake, [4]int{1, 3, 3, 4}},
		{"who has it not passes what opens", comingTo(1, 25)[0], impl.VdPass, [4]int{1, 2, 3, 4}},
		{"who has it not passes what follows", comingTo(1, 25)[4], impl.VdPass, [4]int{1, 2, 3, 4}},
		{"who shuns it passes it", comingTo(2, 25)[2], impl.VdPass, [4]int{1, 2, 3, 4}},
		{"who shuns it is the last", comingTo(2, 25)[3], impl.VdRst, [4]int{0, 2, 4, 4}},
		{"who has it not is the last", comingTo(1, 25)[5], impl.VdRst, [4]int{0, 2, 4, 4}},
		{"who is full passes it", comingTo(3, 25)[2], impl.VdPass, [4]int{1, 2, 3, 4}},
		{"who is full is the last", comingTo(3, 25)[3], impl.VdRst, [4]int{0, 2, 4, 4}},
		{"who drains passes it", comingTo(4, 25)[2], impl.VdPass, [4]int{1, 2, 3, 4}},
		{"who drains is the last", comingTo(4, 25)[3], impl.VdRst, [4]int{0, 2, 4, 4}},
		{"who has no room to shun it", comingTo(5, 25)[2], impl.VdFull, [4]int{0, 2, 3, 5}},
		{"it is as old as the Window", carried(young), impl.VdMake, [4]int{1, 3, 3, 4}},
		{"it is older", carried(old), impl.VdOld, [4]int{0, 2, 3, 5}},
		{"a word", word(mine, 5), -1, [4]int{0, 2, 3, 4}},
	} {
		d, told := mustDo(t, onlyMail(s.m), delivering(0))
		if told != s.told || counts(d) != s.want {
			t.Errorf("%s: %d, %v, not %d, %v", s.why, told, counts(d), s.told, s.want)
		}
	}
}

func TestWhatIsTakenOrMadeIsToldOf(t *testing.T) {
	for _, s := range []struct {
		m   impl.Mail
		id  int
		seq int
	}{{comingTo(0, 25)[1], 0, 7}, {comingTo(1, 25)[2], 1, 7}, {comingTo(0, 25)[4], 0, 8}, {comingTo(0, 25)[6], 0, 777}} {
		d, _ := mustDo(t, onlyMail(s.m), delivering(0))
		if len(d.Got) != 3 || d.Got[2] != (impl.Got{Flow: mine, Back: s.id, Seq: s.seq}) {
			t.Errorf("%v: %v", s.m, d.Got)
		}
		opens := s.seq == 7
		if len(d.Bag) > 0 != opens || opens && !sameMail(d.Bag[0], word(mine, s.id)) {
			t.Errorf("%v: on the way is %v", s.m, d.Bag)
		}
	}
}

func TestWhatIsPassedIsMailedToTheNext(t *testing.T) {
	c := with(func(c *impl.Cluster) {
		c.Bag = append([]impl.Mail{word(mine, 1), comingTo(3, 25)[2], word(mine, 2)}, fullBag(25)[:57]...)
	})
	d, told := mustDo(t, c, delivering(1))
	want := comingTo(3, 25)[2]
	want.C.At = 1
	if told != impl.VdPass || len(d.Bag) != 60 || !sameMail(d.Bag[59], want) || !sameMail(d.Bag[1], word(mine, 2)) || d.Gone != c.Gone || !impl.Shuns(d.Agents[3], mine) {
		t.Fatalf("%d: %v", told, d.Bag)
	}
}

func TestAFullBagHasRoomForWhatComesOfOne(t *testing.T) {
	for id := range impl.MaxBack {
		for _, m := range append(comingTo(id, 25), word(mine, id)) {
			c := with(func(c *impl.Cluster) { c.Bag = fullBag(25); c.Bag[30] = m })
			alone, want := mustDo(t, onlyMail(m), delivering(0))
			d, told := mustDo(t, c, delivering(30))
			if told != want || len(d.Bag) != 59+len(alone.Bag) || d.Gone != alone.Gone || len(alone.Bag) == 1 && !sameMail(d.Bag[59], alone.Bag[0]) {
				t.Errorf("%v: %d, %v", m, told, counts(d))
			}
		}
	}
}

func TestWhereALimitIsMet(t *testing.T) {
	limits := []struct {
		name string
		meet func(c *impl.Cluster, less int)
		by   []int
	}{
		{"Got", func(c *impl.Cluster, less int) { c.Got = given(mostGot - less) }, []int{impl.VdTake, impl.VdMake}},
		{"Rst", func(c *impl.Cluster, less int) { c.Rst = mostTally - less }, []int{impl.VdRst}},
		{"Gone", func(c *impl.Cluster, less int) { c.Gone = mostTally - less }, []int{impl.VdOld, impl.VdFull}},
	}
	refusals := 0
	for i := range mixedBag(25) {
		_, plain := mustDo(t, crowded(), delivering(i))
		for _, l := range limits {
			for less := range 2 {
				c := with(func(c *impl.Cluster) { l.meet(c, less) })
				d, told := mustDo(t, c, delivering(i))
				want := plain
				if less == 0 && slices.Contains(l.by, plain) {
					want = -2
					refusals++
				}
				if told != want || told == -2 && !sameCluster(d, c) {
					t.Errorf("%d, where %s is %d from its limit: %d, not %d", i, l.name, less, told, want)
				}
			}
		}
	}
	if refusals < 20 {
		t.Errorf("%d were refused", refusals)
	}
}

func TestAWordIsLearnt(t *testing.T) {
	for _, size := range []int{1, 4, impl.MaxTable} {
		for _, n := range []int{0, size - 1, size} {
			c := onlyMail(word(mine, 5))
			c.Bal = balOf(noting(1, add(2, 5), add(1, 1)), hinting(size, 9, strangers(n)...))
			d, told := mustDo(t, c, delivering(0))
			s, ok := impl.Get(d.Bal.Hints, mine)
			if told != -1 || !ok || s.Val != 5 || s.Until != 25+50 || impl.CountOf(d.Bal.Hints) != min(n+1, size) || len(d.Bag) != 0 {
				t.Errorf("of %d slots, with %d: %v, %d", size, n, d.Bal.Hints, told)
			}
			again := onlyMail(word(mine, 3))
			again.Bal = d.Bal
			if e, told := mustDo(t, again, delivering(0)); told != -1 || impl.Hint(e.Bal, mine) != 3 || impl.CountOf(e.Bal.Hints) != impl.CountOf(d.Bal.Hints) {
				t.Errorf("of %d slots, with %d, learnt again: %v, %d", size, n, e.Bal.Hints, told)
			}
		}
	}
}

func TestLoseAndTwiceOfEach(t *testing.T) {
	for _, n := range []int{1, 2, 30, 59, 60} {
		c := with(func(c *impl.Cluster) { c.Bag = fullBag(25)[:n] })
		for i := range n {
			d, told := mustDo(t, c, losing(i))
			if told != yes || len(d.Bag) != n-1 {
				t.Errorf("Lose of %d of %d: %v, %d", i, n, d.Bag, told)
			}
			e, ok := impl.Twice(c, i)
			mustDo(t, c, doubling(i))
			if ok != (n < 60) || ok && (len(e.Bag) != n+1 || !sameMail(e.Bag[n], c.Bag[i])) || !ok && !sameCluster(e, impl.Cluster{}) {
				t.Errorf("Twice of %d of %d: %v, %v", i, n, e.Bag, ok)
			}
		}
	}
}

func TestTickUpToTheLastTime(t *testing.T) {
	for _, now := range []int{0, 1, 25, lastNow - 2, lastNow - 1} {
		c := with(func(c *impl.Cluster) { c.Now, c.Bag = now, mixedBag(now) })
		if d, told := mustDo(t, c, ticking()); told != yes || d.Now != now+1 {
			t.Errorf("at %d: %d, Now %d", now, told, d.Now)
		}
	}
	c := with(func(c *impl.Cluster) { c.Now, c.Bag = lastNow, mixedBag(lastNow) })
	if d, told := mustDo(t, c, ticking()); told != no || !sameCluster(d, c) || impl.CountOf(d.Bal.Hints) == 0 || !impl.Holds(d.Agents[0], mine) {
		t.Errorf("at the last time: %v, %d", d, told)
	}
}

func TestTickDropsWhatIsDue(t *testing.T) {
	for _, now := range []int{0, 25, lastNow - 1} {
		for _, until := range []edge{{now, false}, {now + 1, false}, {now + 2, true}, {now + 3, true}} {
			for id := range impl.MaxBack {
				c := with(func(c *impl.Cluster) {
					c.Now, c.Bag, c.Bal.Hints = now, nil, hinting(3, until.n, mine)
					c.Agents[id].Conns, c.Agents[id].Tombs = keeping(3, until.n, mine), keeping(3, until.n, mine)
				})
				d, told := mustDo(t, c, ticking())
				if told != yes || impl.Holds(d.Agents[id], mine) != until.in || impl.Shuns(d.Agents[id], mine) != until.in || impl.Hint(d.Bal, mine) >= 0 != until.in {
					t.Errorf("at %d, agent %d, due at %d: %v, %d", now, id, until.n, d, told)
				}
			}
		}
	}
}

func TestWhatIsNoCommandIsNotDone(t *testing.T) {
	for _, c := range edgyClusters() {
		for why, k := range badCmds() {
			if d, ok := impl.Command(c, k); ok || !sameCluster(d, impl.Cluster{}) {
				t.Fatalf("%s: %v, %v", why, d, ok)
			}
		}
	}
}

func TestWhoDrainsBehindACommand(t *testing.T) {
	serve := balOf(noting(0, add(1, 1), add(2, 5), drain(2)), hinting(2, 9, mine))
	for _, s := range []struct {
		why    string
		k      impl.PoolCmd
		drains bool
		told   int
		is     bool
	}{
		{"one drains", drain(1), false, yes, true},
		{"one drains that did", drain(2), true, yes, true},
		{"one drains that did in the pool alone", drain(2), false, yes, true},
		{"one drains that is not there", drain(4), false, no, false},
		{"one that drains, drains, and is not there", drain(4), true, no, true},
		{"one comes", add(4, 9), false, yes, false},
		{"one comes that drained", add(4, 9), true, yes, false},
		{"one comes that is there", add(1, 9), true, no, true},
		{"one comes that is there, and does not drain", add(1, 9), false, no, false},
		{"one is weighed", weigh(1, 9), false, yes, false},
		{"one is weighed that drains", weigh(2, 9), true, yes, true},
		{"one is weighed that drains in the pool alone", weigh(2, 9), false, yes, false},
		{"one goes", remove(1), false, yes, false},
		{"one goes that drains", remove(2), true, yes, true},
		{"one goes that drains in the pool alone", remove(2), false, yes, false},
		{"one goes that is not there", remove(4), true, no, true},
	} {
		c := with(func(c *impl.Cluster) { c.Bal, c.Agents[s.k.Id].Drain = serve, s.drains })
		d, told := mustDo(t, c, commanding(s.k))
		if told != s.told || d.Agents[s.k.Id].Drain != s.is || told == no && !sameCluster(d, c) {
			t.Errorf("%s: %d, drains %v", s.why, told, d.Agents[s.k.Id].Drain)
		}
		for id := range d.Agents {
			if id != s.k.Id && d.Agents[id].Drain != c.Agents[id].Drain {
				t.Errorf("%s: %d", s.why, id)
			}
		}
	}
}

func TestOneThatDrainedComesAgain(t *testing.T) {
	c := newCluster(t, 7, 4, 3, add(2, 5), drain(2))
	drains := c.Agents[2].Drain
	c, told := mustDo(t, c, commanding(remove(2)))
	still := c.Agents[2].Drain
	c, again := mustDo(t, c, commanding(add(2, 9)))
	if !drains || told != yes || !still || again != yes || c.Agents[2].Drain || c.Bal.Pool.Backs[0] != back(2, 9) {
		t.Fatalf("%v %v: %v", drains, still, c)
	}
}

func TestAsManyCommandsAsAJournalTakesInACluster(t *testing.T) {
	c := with(func(c *impl.Cluster) { c.Bal = balOf(longJournal(mostNoted-1), hinting(2, 9, mine)) })
	c, told := mustDo(t, c, commanding(drain(3)))
	d, again := mustDo(t, c, commanding(drain(4)))
	e, more := mustDo(t, c, commanding(remove(3)))
	if told != yes || !c.Agents[3].Drain || again != no || !sameCluster(d, c) || more != no || !sameCluster(e, c) {
		t.Fatalf("%d, %d, %d", told, again, more)
	}
}

func TestRestartWithEachKeep(t *testing.T) {
	for keep, noted := range map[int]int{0: 2, 1: 3, 2: 4, 3: 4, 100: 4, 1<<63 - 1: 4} {
		d, told := mustDo(t, crowded(), restarting(keep))
		if told != yes || len(d.Bal.Journal.L) != noted || d.Bal.Journal.Safe != noted || impl.CountOf(d.Bal.Hints) != 0 || len(d.Bal.Hints.Slots) != 4 {
			t.Errorf("keep %d: %v, %d", keep, d.Bal, told)
		}
	}
	for _, keep := range []int{-1, -2, -1 << 63} {
		if d, ok := impl.Restart(crowded(), keep); ok || !sameCluster(d, impl.Cluster{}) {
			t.Errorf("keep %d: %v, %v", keep, d, ok)
		}
	}
}

func TestWhatCommandsDidIsThereBehindARestart(t *testing.T) {
	c := newCluster(t, 7, 4, 3, add(2, 5), add(4, 1), drain(2), weigh(4, 9))
	d, told := mustDo(t, c, restarting(0))
	if told != yes || !sameCluster(d, c) {
		t.Fatalf("%v, not %v", d, c)
	}
}

func TestSetLimitAtItsEdges(t *testing.T) {
	for _, id := range idEdges {
		for _, limit := range limitEdges {
			for _, c := range []impl.Cluster{crowded(), newCluster(t, 7, 4, 3)} {
				d, ok := impl.SetLimit(c, id.n, limit.n)
				if ok != (id.in && limit.in) || !ok && !sameCluster(d, impl.Cluster{}) {
					t.Errorf("SetLimit(c, %d, %d): %v", id.n, limit.n, ok)
				}
				if mustDo(t, c, limiting(id.n, limit.n)); ok && d.Agents[id.n].Limit != limit.n {
					t.Errorf("SetLimit(c, %d, %d): %v", id.n, limit.n, d.Agents[id.n])
				}
			}
		}
	}
}
