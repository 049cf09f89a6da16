package tests

import (
	"math"
	"slices"
	"strconv"
	"testing"

	"loop.example/g00607/impl"
)

// The document has no names for these: how many Flush delivers at most, and where it stops.
const (
	mostFlushed = 1000
	enoughGot   = 990
	enoughTally = 99900
)

var flushEdges = []edge{{math.MinInt, false}, {-1000, false}, {-1, false}, {0, true}, {1, true}, {2, true}, {mostFlushed - 1, true}, {mostFlushed, true}, {mostFlushed + 1, false}, {math.MaxInt, false}}

func isEnough(c impl.Cluster) bool {
	return len(c.Got) >= enoughGot || c.Gone >= enoughTally || c.Rst >= enoughTally
}

func flushing(most int) deed {
	return deed{
		name: "Flush of " + strconv.Itoa(most),
		do:   func(c impl.Cluster) (impl.Cluster, int) { return impl.Flush(c, most) },
		by: func(c impl.Cluster) (impl.Cluster, int) {
			if most < 0 || most > mostFlushed {
				return impl.Cluster{}, -1
			}
			n := 0
			for n < most && len(c.Bag) > 0 && !isEnough(c) {
				c, _ = delivering(0).by(c)
				n++
			}
			return c, n
		},
		may: func(c impl.Cluster, told int) []string {
			if told == 0 {
				return nil
			}
			all := []string{"Hints", "Bag", "Got", "Rst", "Gone"}
			for id := range impl.MaxBack {
				all = append(all, "Conns "+strconv.Itoa(id), "Tombs "+strconv.Itoa(id))
			}
			return all
		},
		broken: func(c impl.Cluster, d impl.Cluster, told int) string {
			return flushBroken(c, d, most, told)
		},
	}
}

// holder is an agent that has a flow.
type holder struct {
	f  impl.Flow
	id int
}

// holdersIn are all who have something.
func holdersIn(c impl.Cluster) map[holder]int {
	all := map[holder]int{}
	for id, a := range c.Agents {
		for _, f := range impl.FlowsOf(a.Conns) {
			all[holder{f, id}]++
		}
	}
	return all
}

// flushBroken is what of promise 12 is broken.
func flushBroken(c impl.Cluster, d impl.Cluster, most int, n int) string {
	had := holdersIn(c)
	step := c
	for range n {
		here, _ := impl.Here(step.Bag[0].C)
		f, vd := step.Bag[0].C.P.Flow, 0
		if step, vd = impl.Deliver(step, 0); vd == impl.VdMake {
			had[holder{f, here.Back}]++
		}
	}
	if !sameCluster(step, d) {
		return "it is not what deliveries one by one come to"
	}
	if len(d.Bag) > 0 && n < most && !isEnough(d) {
		return "something is left on the way"
	}
	for _, g := range d.Got[len(c.Got):] {
		if had[holder{g.Flow, g.Back}] == 0 {
			return "it is given to who neither had nor made it"
		}
	}
	return ""
}

func TestFlushOfEachCluster(t *testing.T) {
	empty := 0
	for i, c := range goodClusters() {
		for _, most := range []int{0, 1, 2, 7, len(c.Bag), 59, mostFlushed} {
			if i%3 > 0 && most < mostFlushed {
				continue
			}
			d, _ := mustDo(t, c, flushing(most))
			mustTell(t, d)
			if most == mostFlushed && len(d.Bag) == 0 {
				empty++
			}
		}
	}
	if empty < 30 {
		t.Errorf("%d were flushed empty", empty)
	}
}

func TestFlushedNothingIsLeft(t *testing.T) {
	for _, c := range goodClusters() {
		if isEnough(c) {
			continue
		}
		d, n := impl.Flush(c, mostFlushed)
		if len(d.Bag) != 0 && !isEnough(d) || n < len(c.Bag) && !isEnough(d) {
			t.Fatalf("of %v is left %v, behind %d", c.Bag, d.Bag, n)
		}
		if again, more := impl.Flush(d, mostFlushed); !isEnough(d) && (more != 0 || !sameCluster(again, d)) {
			t.Fatalf("%d were delivered of an empty Bag", more)
		}
	}
}

func TestFlushWithMostAtItsEdges(t *testing.T) {
	for _, c := range []impl.Cluster{crowded(), newCluster(t, 7, 4, 3), with(func(c *impl.Cluster) { c.Got = given(mostGot) })} {
		for _, most := range flushEdges {
			d, n := impl.Flush(c, most.n)
			if n >= 0 != most.in || !most.in && (n != -1 || !sameCluster(d, impl.Cluster{})) || most.in && !impl.ClusterOk(d) {
				t.Errorf("most %d: %v, %d", most.n, d, n)
			}
		}
	}
}

// words are n words, no two alike.
func words(n int) []impl.Mail {
	var bag []impl.Mail
	for i := range n {
		bag = append(bag, word(flow(i, 3), i%impl.MaxBack))
	}
	return bag
}

func TestFlushOfFewerAsManyAndMore(t *testing.T) {
	for _, in := range []int{0, 1, 2, 30, 59, impl.MaxBag} {
		for _, most := range []int{0, 1, in - 1, in, in + 1, mostFlushed} {
			if most < 0 {
				continue
			}
			c := with(func(c *impl.Cluster) { c.Bag = words(in) })
			d, n := mustDo(t, c, flushing(most))
			if n != min(in, most) || !slices.EqualFunc(d.Bag, c.Bag[n:], sameMail) {
				t.Errorf("most %d, of %d in Bag: %d, left are %v", most, in, n, d.Bag)
			}
			if n > 0 && impl.Hint(d.Bal, flow(n-1, 3)) != (n-1)%impl.MaxBack {
				t.Errorf("most %d, of %d in Bag: the last one is not learnt", most, in)
			}
		}
	}
}

// longWay is what goes by so many, none of whom has it.
func longWay(segs int) impl.Mail {
	return carried(stamped(impl.Carrier{P: impl.Packet{Flow: flow(9, 9), Flags: impl.FlAck}, Segs: owned(segs)}, 25))
}

func TestWhatIsMailedAgainCountsToo(t *testing.T) {
	for segs := 1; segs <= impl.MaxSegs; segs++ {
		c := onlyMail(longWay(segs))
		for most := range segs + 3 {
			d, n := mustDo(t, c, flushing(most))
			if n != min(segs, most) || len(d.Bag) > 0 != (most < segs) || d.Rst-c.Rst != n/segs {
				t.Errorf("most %d, of %d who are asked: %d, left are %v", most, segs, n, d.Bag)
			}
			if len(d.Bag) > 0 && d.Bag[0].C.At != most {
				t.Errorf("most %d, of %d who are asked: %v", most, segs, d.Bag)
			}
		}
	}
}

func TestWordOfWhatIsMadeCountsToo(t *testing.T) {
	c, first, second := pairServes(t, func(c *impl.Cluster, first int, second int) { c.Agents[first].Limit = 0 })
	c, _ = impl.Client(c, opening())
	for most, want := range map[int][4]int{0: {1, 0, 0, 0}, 3: {1, 0, 0, 0}, 4: {1, 1, 0, 0}, 5: {0, 1, 0, 0}, 6: {0, 1, 0, 0}, 1000: {0, 1, 0, 0}} {
		d, n := mustDo(t, c, flushing(most))
		if n != min(most, 5) || counts(d) != want || (impl.Hint(d.Bal, mine) == second) != (most > 4) || slices.Equal(impl.Owners(d, mine), []int{second}) != (most > 3) {
			t.Errorf("most %d: %d, %v, Owners tells %v of %d and %d", most, n, counts(d), impl.Owners(d, mine), first, second)
		}
	}
}

func TestFlushOfMoreThanItMayDeliver(t *testing.T) {
	c := with(func(c *impl.Cluster) { c.Bag = slices.Repeat([]impl.Mail{longWay(impl.MaxSegs)}, impl.MaxBag) })
	all := impl.MaxBag * impl.MaxSegs
	short, n := mustDo(t, c, flushing(mostFlushed-1))
	d, m := mustDo(t, c, flushing(mostFlushed))
	if n != mostFlushed-1 || m != mostFlushed || len(d.Bag) != impl.MaxBag || d.Bag[0].C.At != 16 || d.Bag[59].C.At != 17 || sameCluster(short, d) {
		t.Fatalf("%d, %d, left are %d", n, m, len(d.Bag))
	}
	e, rest := mustDo(t, d, flushing(mostFlushed))
	if rest != all-mostFlushed || len(e.Bag) != 0 || e.Rst != c.Rst+impl.MaxBag {
		t.Fatalf("%d, left are %d", rest, len(e.Bag))
	}
}

// The first in Bag goes first, and what is passed stands behind all then.
func TestFlushGoesByTheOrderInBag(t *testing.T) {
	c := with(func(c *impl.Cluster) { c.Bag = []impl.Mail{longWay(3), word(mine, 1), longWay(1), word(mine, 4)} })
	for most, left := range [][]int{{0, -1, 0, -4}, {-1, 0, -4, 1}, {0, -4, 1}, {-4, 1}, {1}, {2}, {}} {
		d, _ := mustDo(t, c, flushing(most))
		var told []int
		for _, m := range d.Bag {
			told = append(told, m.C.At-m.Back)
		}
		if !slices.Equal(told, left) {
			t.Errorf("most %d: left are %v, not %v", most, told, left)
		}
	}
	if d, n := mustDo(t, c, flushing(mostFlushed)); n != 6 || impl.Hint(d.Bal, mine) != 4 {
		t.Errorf("%d, the hint is %d", n, impl.Hint(d.Bal, mine))
	}
}

// Beside what stops a flush there are words, which stop none.
func TestFlushStopsWhereEnoughWasGiven(t *testing.T) {
	taken := comingTo(0, 25)[5]
	made := comingTo(1, 25)[2]
	for _, s := range []struct {
		got int
		bag []impl.Mail
		n   int
	}{
		{987, slices.Repeat([]impl.Mail{taken}, 5), 3},
		{988, slices.Repeat([]impl.Mail{taken}, 5), 2},
		{989, slices.Repeat([]impl.Mail{taken}, 5), 1},
		{989, []impl.Mail{taken}, 1},
		{989, []impl.Mail{made, taken}, 1},
		{989, append(words(7), taken, taken), 8},
		{989, append(words(7), longWay(3), taken, taken), 9},
		{989, append(words(7), longWay(3)), 10},
		{990, []impl.Mail{taken}, 0},
		{990, words(7), 0},
		{990, nil, 0},
		{991, words(7), 0},
		{999, []impl.Mail{taken}, 0},
		{1000, []impl.Mail{taken}, 0},
		{1000, words(1), 0},
	} {
		c := with(func(c *impl.Cluster) { c.Got, c.Bag = given(s.got), s.bag })
		if d, n := mustDo(t, c, flushing(mostFlushed)); n != s.n || len(d.Got) > max(enoughGot, s.got) || n == 0 && !sameCluster(d, c) {
			t.Errorf("%d in Got, %d in Bag: %d, not %d; then %v", s.got, len(s.bag), n, s.n, counts(d))
		}
	}
}

func TestFlushStopsWhereEnoughAreGoneOrRefused(t *testing.T) {
	old, full, refusedOne := carried(stamped(comingTo(1, 25)[2].C, 14)), comingTo(5, 25)[2], comingTo(1, 25)[5]
	for _, s := range []struct {
		was int
		n   int
	}{{99897, 3}, {99898, 2}, {99899, 1}, {99900, 0}, {99901, 0}, {99999, 0}, {100000, 0}} {
		for _, m := range []impl.Mail{old, full, refusedOne} {
			isGone := !sameMail(m, refusedOne)
			for ahead := range 3 {
				c := with(func(c *impl.Cluster) {
					c.Bag = append(words(ahead), slices.Repeat([]impl.Mail{m}, 9)...)
					if isGone {
						c.Gone = s.was
					} else {
						c.Rst = s.was
					}
				})
				want := s.n
				if s.n > 0 {
					want += ahead
				}
				d, n := mustDo(t, c, flushing(mostFlushed))
				if n != want || max(d.Gone, d.Rst) != max(s.was, enoughTally) || n == 0 && !sameCluster(d, c) {
					t.Errorf("%v, at %d, behind %d words: %d, not %d; then %v", m, s.was, ahead, n, want, counts(d))
				}
			}
		}
	}
	other := with(func(c *impl.Cluster) { c.Bag, c.Rst = []impl.Mail{old, old, refusedOne, refusedOne, old}, 99899 })
	if d, n := mustDo(t, other, flushing(mostFlushed)); n != 3 || d.Gone != other.Gone+2 || d.Rst != 99900 {
		t.Errorf("%d, then %v", n, counts(d))
	}
}

func TestWhoHasItIsToldBehindAFlush(t *testing.T) {
	c := newCluster(t, 7, 16, 2, add(1, 5), add(2, 5), add(4, 5))
	flows := strangers(12)
	for i, f := range flows {
		c, _ = impl.Client(c, impl.Packet{Flow: f, Flags: impl.FlSyn, Seq: i})
	}
	c, _ = mustDo(t, c, flushing(mostFlushed))
	mustTell(t, c)
	total := 0
	for _, n := range impl.LoadOf(c) {
		total += n
	}
	if len(c.Bag) != 0 || len(c.Got) != len(flows) || total != len(flows) || impl.Oldest(c) != -1 {
		t.Fatalf("%v, loads %v", counts(c), impl.LoadOf(c))
	}
	for i, f := range flows {
		owners := impl.Owners(c, f)
		if len(owners) != 1 || !slices.Contains(c.Got, impl.Got{Flow: f, Back: owners[0], Seq: i}) || impl.Listed(c, f)[0] != owners[0] {
			t.Errorf("%v: %v, given is %v", f, owners, c.Got)
		}
	}
}
