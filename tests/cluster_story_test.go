package tests

import (
	"fmt"
	"slices"
	"testing"

	"loop.example/g00607/impl"
)

// story is a cluster from ClusterNew on, and the pairs that were hunted for each flow.
type story struct {
	c      impl.Cluster
	hunted map[impl.Flow][][2]int
	told   []string
}

func storyOf(c impl.Cluster) *story { return &story{c: c, hunted: map[impl.Flow][][2]int{}} }

// do wants a deed to be right, and promise 10 behind it.
func (s *story) do(t *testing.T, k deed) int {
	t.Helper()
	was := s.c
	d, told := mustDo(t, s.c, k)
	s.c = d
	s.told = append(s.told, fmt.Sprint(k.name, ": ", told))
	if len(d.Bag) > len(was.Bag) {
		s.note(d.Bag[len(d.Bag)-1])
	}
	s.mustKeepToPairs(t)
	return told
}

// note counts a pair once, however often it is hunted: that is all that may be counted upon.
func (s *story) note(m impl.Mail) {
	pair := impl.HuntPair(m.C)
	if len(pair) != 2 {
		return
	}
	f, two := m.C.P.Flow, [2]int{pair[0], pair[1]}
	if !slices.Contains(s.hunted[f], two) {
		s.hunted[f] = append(s.hunted[f], two)
	}
}

// flowsHad are all that somebody has.
func (s *story) flowsHad() []impl.Flow {
	var all []impl.Flow
	for _, a := range s.c.Agents {
		all = append(all, impl.FlowsOf(a.Conns)...)
	}
	return all
}

func (s *story) mustKeepToPairs(t *testing.T) {
	t.Helper()
	for _, a := range s.c.Agents {
		if impl.CountOf(a.Conns) == len(a.Conns.Slots) || impl.CountOf(a.Tombs) == len(a.Tombs.Slots) {
			t.Fatalf("a table is full: %v", a)
		}
	}
	for _, f := range s.flowsHad() {
		if have := holding(s.c, f); len(have) > len(s.hunted[f]) {
			for _, told := range s.told[max(0, len(s.told)-120):] {
				t.Log(told)
			}
			t.Fatalf("%v have %v, for which %v were hunted", have, f, s.hunted[f])
		}
	}
}

// must does a deed and wants it to tell that.
func (s *story) must(t *testing.T, k deed, want int) {
	t.Helper()
	if told := s.do(t, k); told != want {
		t.Fatalf("%s tells %d, not %d; on the way is %v", k.name, told, want, s.c.Bag)
	}
}

func (s *story) ticks(t *testing.T, n int) {
	t.Helper()
	for range n {
		s.must(t, ticking(), yes)
	}
}

// pairIn are the two whom what opens the flow mine is taken to.
func pairIn(c impl.Cluster) (int, int) {
	pair := c.Bal.Pool.Ring[0][impl.BucketOf(c.Bal.Pool.Key, mine)]
	return pair[0], pair[1]
}

// twoServe is a story with a pair of which the first takes nothing gladly.
func twoServe(t *testing.T) (*story, int, int) {
	t.Helper()
	s := storyOf(newCluster(t, 7, 4, 3, add(1, 5), add(2, 5)))
	first, second := pairIn(s.c)
	s.must(t, limiting(first, 0), yes)
	return s, first, second
}

// passThrice takes the mail at a place by both who are asked and by the first who is hunted.
func (s *story) passThrice(t *testing.T, i int) {
	t.Helper()
	for range 3 {
		s.must(t, delivering(i), impl.VdPass)
		i = len(s.c.Bag) - 1
	}
}

func TestWhoPassedDoesNotMakeItTillTheOtherMayNot(t *testing.T) {
	s, first, second := twoServe(t)
	s.must(t, saying(opening()), yes)
	s.passThrice(t, 0)
	s.ticks(t, impl.Window)
	s.must(t, saying(opening()), yes)
	s.must(t, delivering(1), impl.VdPass)
	s.must(t, delivering(1), impl.VdPass)
	s.must(t, delivering(0), impl.VdMake)
	s.must(t, limiting(first, impl.MaxTable), yes)
	s.ticks(t, impl.Window)
	s.must(t, delivering(0), impl.VdPass)
	s.must(t, delivering(1), impl.VdTake)
	if have := holding(s.c, mine); !slices.Equal(have, []int{second}) {
		t.Fatalf("%v have it", have)
	}
}

func TestWhatWaitsTooLongIsMadeByNobody(t *testing.T) {
	s, first, _ := twoServe(t)
	s.must(t, saying(opening()), yes)
	s.passThrice(t, 0)
	s.must(t, doubling(0), yes)
	s.ticks(t, impl.Window+1)
	s.must(t, limiting(first, impl.MaxTable), yes)
	s.must(t, delivering(0), impl.VdOld)
	s.must(t, delivering(0), impl.VdOld)
	if have := holding(s.c, mine); len(have) != 0 || s.c.Gone != 2 {
		t.Fatalf("%v have it, %d are gone", have, s.c.Gone)
	}
}

func TestWhoPassedMayMakeItAgainInTime(t *testing.T) {
	s, first, _ := twoServe(t)
	s.must(t, saying(opening()), yes)
	s.passThrice(t, 0)
	s.must(t, losing(0), yes)
	s.must(t, limiting(first, impl.MaxTable), yes)
	s.ticks(t, 2*impl.Window+1)
	s.must(t, saying(opening()), yes)
	s.must(t, delivering(0), impl.VdPass)
	s.must(t, delivering(0), impl.VdPass)
	s.must(t, delivering(0), impl.VdMake)
	if have := holding(s.c, mine); !slices.Equal(have, []int{first}) {
		t.Fatalf("%v have it", have)
	}
}

func TestAsManyHaveItAsPairsWereHunted(t *testing.T) {
	s := storyOf(newCluster(t, 7, 4, 3, add(1, 1), add(2, 1)))
	first, _ := pairIn(s.c)
	s.must(t, saying(opening()), yes)
	s.must(t, commanding(add(4, 100)), yes)
	other, _ := pairIn(s.c)
	s.must(t, saying(opening()), yes)
	s.must(t, delivering(0), impl.VdPass)
	s.must(t, delivering(1), impl.VdPass)
	s.must(t, delivering(0), impl.VdPass)
	s.must(t, delivering(1), impl.VdPass)
	s.must(t, delivering(1), impl.VdPass)
	s.must(t, delivering(0), impl.VdMake)
	s.must(t, delivering(0), impl.VdMake)
	if have := holding(s.c, mine); other != 4 || !slices.Equal(have, []int{first, other}) || len(s.hunted[mine]) != 2 {
		t.Fatalf("%v have it, for which %v were hunted", have, s.hunted[mine])
	}
}

func TestWhatWasPassedToWhoDrainsIsRefused(t *testing.T) {
	s, _, second := twoServe(t)
	s.must(t, saying(opening()), yes)
	s.passThrice(t, 0)
	s.must(t, commanding(drain(second)), yes)
	s.must(t, delivering(0), impl.VdRst)
	s.must(t, saying(opening()), yes)
	s.passThrice(t, 0)
	s.must(t, delivering(0), impl.VdRst)
	if have := holding(s.c, mine); len(have) != 0 || s.c.Rst != 2 {
		t.Fatalf("%v have it, %d were refused", have, s.c.Rst)
	}
}

func TestWhatIsOfAFlowIsTakenBehindARestart(t *testing.T) {
	s, _, second := twoServe(t)
	s.must(t, saying(opening()), yes)
	s.passThrice(t, 0)
	s.must(t, delivering(0), impl.VdMake)
	s.must(t, delivering(0), -1)
	s.must(t, saying(following()), yes)
	s.must(t, delivering(0), impl.VdTake)
	s.must(t, restarting(0), yes)
	s.must(t, saying(following()), yes)
	s.must(t, delivering(0), impl.VdPass)
	s.must(t, delivering(0), impl.VdTake)
	want := []impl.Got{{Flow: mine, Back: second, Seq: 7}, {Flow: mine, Back: second, Seq: 8}, {Flow: mine, Back: second, Seq: 8}}
	if !slices.Equal(s.c.Got, want) || len(s.c.Bag) != 0 {
		t.Fatalf("given is %v", s.c.Got)
	}
}

// plot draws deeds for a story: of so few flows and agents that what is on the way crosses.
type plot struct {
	draws lot
	flows []impl.Flow
	ids   []int
}

func (p *plot) place(c impl.Cluster) int { return p.draws.below(max(1, len(c.Bag))) }

func (p *plot) id() int { return p.ids[p.draws.below(len(p.ids))] }

func (p *plot) command() impl.PoolCmd {
	weight := []int{1, 10, 100}[p.draws.below(3)]
	switch p.draws.below(6) {
	case 0, 1:
		return add(p.id(), weight)
	case 2, 3:
		return weigh(p.id(), weight)
	case 4:
		return drain(p.id())
	}
	return remove(p.id())
}

func (p *plot) packet() impl.Packet {
	said := impl.Packet{Flow: p.flows[p.draws.below(len(p.flows))], Flags: impl.FlSyn, Seq: p.draws.below(65536), Body: counting(p.draws.below(3), 1)}
	if p.draws.below(4) == 0 {
		said.Flags = followingFlags[p.draws.below(len(followingFlags))]
	}
	return said
}

func (p *plot) next(c impl.Cluster) deed {
	switch n := p.draws.below(100); {
	case n < 14:
		return saying(p.packet())
	case n < 70:
		return delivering(p.place(c))
	case n < 72:
		return losing(p.place(c))
	case n < 76:
		return doubling(p.place(c))
	case n < 90:
		return ticking()
	case n < 93:
		return commanding(p.command())
	case n < 94:
		return restarting(p.draws.below(3))
	}
	return limiting(p.id(), []int{0, 0, 1, impl.MaxTable}[p.draws.below(4)])
}

// tally is what a test has seen of stories.
type tally struct {
	told  map[int]int
	have  map[int]int
	tight int
}

// follow tells a story of n deeds.
func (p *plot) follow(t *testing.T, s *story, n int, seen *tally) {
	t.Helper()
	for range n {
		seen.told[s.do(t, p.next(s.c))]++
		for _, f := range p.flows {
			have := len(holding(s.c, f))
			seen.have[have]++
			if have > 1 && have == len(s.hunted[f]) {
				seen.tight++
			}
		}
	}
}

func TestNoMoreHaveAFlowThanPairsWereHunted(t *testing.T) {
	seen := tally{told: map[int]int{}, have: map[int]int{}}
	for seed := range 60 {
		p := plot{draws: lot(seed), flows: append(strangers(seed%3), mine), ids: []int{0, 1, 2, 3, 4, 5}[:2+seed%5]}
		s := storyOf(newCluster(t, 1000*seed, 1+seed%impl.MaxTable, []int{0, 1, impl.MaxTable}[seed%3], add(0, 10), add(1, 10)))
		p.follow(t, s, 500, &seen)
	}
	for _, told := range []int{yes, no, refused, -1, impl.VdTake, impl.VdMake, impl.VdPass, impl.VdRst, impl.VdOld} {
		if seen.told[told] < 20 {
			t.Errorf("%d was told %d times: %v", told, seen.told[told], seen.told)
		}
	}
	if seen.have[1] < 100 || seen.have[2] < 100 || seen.tight < 20 {
		t.Errorf("too few were had by so many: %v, %d", seen.have, seen.tight)
	}
}

// With more flows than slots tables are full: then promise 10 says nothing, but all else holds.
func TestALongLifeOfAFullCluster(t *testing.T) {
	seen := map[int]int{}
	for seed := range 12 {
		p := plot{draws: lot(seed), flows: strangers(60), ids: []int{0, 1, 2, 3, 4, 5}[:1+seed%3]}
		c := newCluster(t, 1000*seed, 3, []int{0, 1, impl.MaxTable}[seed%3], add(0, 10))
		for range 1200 {
			k := p.next(c)
			if k.name == "Tick" && p.draws.below(6) > 0 {
				k = saying(p.packet())
			}
			d, told := mustDo(t, c, k)
			c = d
			seen[told]++
		}
	}
	for _, told := range []int{yes, no, -1, impl.VdTake, impl.VdMake, impl.VdPass, impl.VdRst, impl.VdOld, impl.VdFull} {
		if seen[told] < 20 {
			t.Errorf("%d was told %d times: %v", told, seen[told], seen)
		}
	}
}
