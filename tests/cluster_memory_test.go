package tests

import (
	"slices"
	"strings"
	"testing"

	"loop.example/g00607/impl"
)

// roomyCluster is a copy of c with spare room behind each list, full of what could be taken for a part of it.
func roomyCluster(c impl.Cluster) impl.Cluster {
	c.Bal = roomyBal(c.Bal)
	var agents []impl.Agent
	for _, a := range c.Agents {
		agents = append(agents, roomyAgent(a))
	}
	c.Agents = append(agents, hasNot(), hasIt())[:len(c.Agents)]
	var bag []impl.Mail
	for _, m := range c.Bag {
		m.C = spreadOut(m.C).c
		bag = append(bag, m)
	}
	c.Bag = append(bag, word(mine, 3), carried(at(ownFirst, opening())))[:len(c.Bag)]
	c.Got = append(slices.Clone(c.Got), given(3)...)[:len(c.Got)]
	return c
}

// sharingCluster is a good cluster all of whose agents have one table, and all of whose mails one body and one list.
func sharingCluster() impl.Cluster {
	a := sharingAgent()
	return with(func(c *impl.Cluster) {
		c.Bal = sharingBal()
		c.Agents = placed(slices.Repeat([]impl.Agent{a}, impl.MaxBack)...)
		c.Bag = slices.Repeat([]impl.Mail{carried(spreadOut(stamped(at(huntFirst, opening()), 25)).c)}, 5)
		c.Bag[2].C.At = 1
	})
}

// hollowCluster is a good cluster whose empty lists have memory behind them.
func hollowCluster() impl.Cluster {
	return with(func(c *impl.Cluster) {
		c.Bal, c.Got = hollowBal(), given(3)[:0]
		nothing := impl.Carrier{P: impl.Packet{Body: []byte{1}[:0]}, Segs: owned(2)[:0]}
		c.Bag = []impl.Mail{{Kind: impl.MlAck, C: nothing, Flow: mine, Back: 1}, carried(at(huntFirst, impl.Packet{Flags: impl.FlSyn, Body: []byte{1}[:0]}))}
	})
}

// clustersForMemory are good ones, ones whose lists share memory or have none, and ones that are none.
func clustersForMemory() []impl.Cluster {
	all := edgyClusters()
	for _, why := range []string{"one agent fewer", "one agent more", "one more in Bag", "one more in Got", "Now 99001", "mail 3 with Stamp 26"} {
		all = append(all, badCounts()[why])
	}
	for i := range all {
		all[i] = roomyCluster(all[i])
	}
	return append(all, sharingCluster(), hollowCluster(), impl.Cluster{})
}

// deedsForMemory are few, of each kind and with each verdict, done and refused.
func deedsForMemory(c impl.Cluster) []deed {
	all := []deed{ticking(), restarting(0), restarting(1), restarting(-1), limiting(2, 3), limiting(2, -1)}
	for _, p := range packetsForMemory() {
		all = append(all, saying(p))
	}
	for i := -1; i <= len(c.Bag); i += 1 + i/20 {
		all = append(all, delivering(i))
		if i < 4 || i > len(c.Bag)-4 {
			all = append(all, losing(i), doubling(i))
		}
	}
	for _, k := range []impl.PoolCmd{add(0, 9), add(1, 9), weigh(1, 9), drain(4), remove(1), remove(3), {Kind: 4}} {
		all = append(all, commanding(k))
	}
	return all
}

func TestTheClustersOfTheMemoryTests(t *testing.T) {
	for _, c := range edgyClusters() {
		if !impl.ClusterOk(roomyCluster(c)) || !sameCluster(roomyCluster(c), c) {
			t.Fatalf("%v is not as it was, or none", c)
		}
	}
	if !impl.ClusterOk(sharingCluster()) || !impl.ClusterOk(hollowCluster()) {
		t.Fatal("one that should be good is not")
	}
}

func TestNoClusterIsWrittenIntoNorItsSpareRoom(t *testing.T) {
	for _, c := range clustersForMemory() {
		mustBeUntouched(t, "a cluster", c, func() {
			impl.ClusterOk(c)
			for _, k := range deedsForMemory(c) {
				k.do(c)
			}
			for _, m := range c.Bag {
				impl.MailOk(m)
			}
		})
	}
}

func TestWhatIsToldOfClustersIsNewMemory(t *testing.T) {
	for _, c := range clustersForMemory() {
		for _, k := range deedsForMemory(c) {
			got, _ := k.do(c)
			again, _ := k.do(c)
			mustBeApart(t, k.name, got, again, c)
		}
	}
	limits := []int{1, 2, 3, 4, 5, 6, 7, 8}[:impl.MaxBack]
	mustBeUntouched(t, "limits", limits, func() {
		c, _ := impl.ClusterNew(7, 4, limits)
		again, _ := impl.ClusterNew(7, 4, limits)
		mustBeApart(t, "ClusterNew", c, again, limits)
	})
}

func TestWhatIsSaidIsNewMemory(t *testing.T) {
	for _, p := range packetsForMemory() {
		for _, c := range []impl.Cluster{crowded(), hollowCluster(), with(func(c *impl.Cluster) { c.Bag = fullBag(25) }), {}} {
			mustBeUntouched(t, "a packet", p, func() {
				d, _ := impl.Client(c, p)
				mustBeApart(t, "Client", d, c, p)
				for _, m := range d.Bag {
					scribbleCarrier(m.C)
				}
			})
		}
	}
}

func TestWhatIsOnTheWayTwiceHasTwoBodies(t *testing.T) {
	for i, m := range crowded().Bag {
		d, ok := impl.Twice(crowded(), i)
		last := len(d.Bag) - 1
		mustBeApart(t, "Twice", d)
		scribbleCarrier(d.Bag[i].C)
		if !ok || !sameMail(d.Bag[last], m) {
			t.Fatalf("%v is on the way twice, as one", m)
		}
	}
}

func TestAnAnswerThatIsTheClusterAsItWasIsNewMemory(t *testing.T) {
	full := with(func(c *impl.Cluster) {
		c.Now, c.Bag, c.Got, c.Rst, c.Gone = lastNow, fullBag(lastNow), given(mostGot), mostTally, mostTally
	})
	kept := 0
	for _, was := range []impl.Cluster{full, crowded(), sharingCluster(), hollowCluster()} {
		for _, k := range deedsForMemory(was) {
			c := roomyCluster(was)
			if want, _ := k.by(c); !sameCluster(want, c) {
				continue
			}
			d, told := k.do(c)
			if !sameCluster(d, was) || told != no && told != refused && !strings.HasPrefix(k.name, "Restart") && !strings.HasPrefix(k.name, "SetLimit") {
				t.Fatalf("%s: %v, %d, not as it was", k.name, d, told)
			}
			mustBeApart(t, k.name, d, c)
			kept++
		}
	}
	if kept < 40 {
		t.Fatalf("%d answers were as it was", kept)
	}
}

func TestClustersAreNotReadFromSpareRoom(t *testing.T) {
	for _, c := range edgyClusters() {
		for _, k := range deedsForMemory(c) {
			want, wanted := k.do(c)
			if got, told := k.do(roomyCluster(c)); told != wanted || !sameCluster(got, want) {
				t.Fatalf("%s of %v: spare room is seen", k.name, c)
			}
		}
	}
}

func TestNothingOfAClusterIsKept(t *testing.T) {
	type answer struct {
		c    impl.Cluster
		told int
	}
	var first []answer
	deeds := deedsForMemory(crowded())
	for _, k := range deeds {
		c, told := k.do(crowded())
		first = append(first, answer{c, told})
	}
	for _, other := range clustersForMemory() {
		for _, k := range deedsForMemory(other) {
			k.do(other)
		}
	}
	for i, k := range deeds {
		c, told := k.do(crowded())
		if told != first[i].told || !sameCluster(c, first[i].c) {
			t.Fatalf("%s answers something else", k.name)
		}
	}
}
