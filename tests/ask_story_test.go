package tests

import (
	"fmt"
	"slices"
	"testing"

	"loop.example/g00607/impl"
)

// mustOwnByPairs wants promise 10 of what Owners tells.
func (s *story) mustOwnByPairs(t *testing.T, flows []impl.Flow) {
	t.Helper()
	for _, f := range flows {
		owners := impl.Owners(s.c, f)
		if !slices.Equal(owners, holding(s.c, f)) {
			t.Fatalf("Owners of %v: %v, but %v have it", f, owners, holding(s.c, f))
		}
		if len(owners) > len(s.hunted[f]) {
			for _, told := range s.told[max(0, len(s.told)-120):] {
				t.Log(told)
			}
			t.Fatalf("Owners of %v: %v, for which %v were hunted", f, owners, s.hunted[f])
		}
	}
}

// nextOrFlush draws a deed, and a flush now and then.
func (p *plot) nextOrFlush(c impl.Cluster) deed {
	if p.draws.below(25) == 0 {
		return flushing([]int{0, 1, 2, 5, 20, mostFlushed}[p.draws.below(6)])
	}
	return p.next(c)
}

func TestOwnersAreNoMoreThanPairsWereHunted(t *testing.T) {
	have, tight, kinds := map[int]int{}, 0, map[string]int{}
	for seed := range 60 {
		p := plot{draws: lot(900 + seed), flows: append(strangers(seed%3), mine), ids: []int{0, 1, 2, 3, 4, 5}[:2+seed%5]}
		s := storyOf(newCluster(t, 777*seed, 1+seed%impl.MaxTable, []int{0, 1, impl.MaxTable}[seed%3], add(0, 10), add(1, 10)))
		for range 350 {
			k := p.nextOrFlush(s.c)
			s.do(t, k)
			s.mustOwnByPairs(t, p.flows)
			var kind string
			fmt.Sscan(k.name, &kind)
			kinds[kind]++
			for _, f := range p.flows {
				owners := impl.Owners(s.c, f)
				have[len(owners)]++
				if len(owners) > 1 && len(owners) == len(s.hunted[f]) {
					tight++
				}
			}
		}
	}
	if have[1] < 100 || have[2] < 100 || tight < 20 {
		t.Errorf("too few were had by so many: %v, %d", have, tight)
	}
	for _, kind := range []string{"Client", "Deliver", "Lose", "Twice", "Tick", "Command", "Restart", "SetLimit", "Flush"} {
		if kinds[kind] < 100 {
			t.Errorf("%s was done %d times", kind, kinds[kind])
		}
	}
}

func TestOwnersOfATightStory(t *testing.T) {
	s := storyOf(newCluster(t, 7, 4, 3, add(1, 1), add(2, 1)))
	first, _ := pairIn(s.c)
	s.must(t, saying(opening()), yes)
	s.must(t, commanding(add(4, 100)), yes)
	s.must(t, saying(opening()), yes)
	s.must(t, flushing(0), 0)
	if owners := impl.Owners(s.c, mine); len(owners) != 0 {
		t.Fatalf("with all on the way %v have it", owners)
	}
	s.do(t, flushing(mostFlushed))
	s.mustOwnByPairs(t, []impl.Flow{mine})
	if owners := impl.Owners(s.c, mine); len(s.hunted[mine]) != 2 || !slices.Equal(owners, []int{first, 4}) || len(s.c.Bag) != 0 {
		t.Fatalf("%v have it, for which %v were hunted", owners, s.hunted[mine])
	}
}

// Behind deeds of every kind the one who has it takes it, and what nobody has comes to the same.
func TestTheOneWhoHasItTakesItInStories(t *testing.T) {
	seen := map[int]int{}
	for seed := range 40 {
		p := plot{draws: lot(300 + seed), flows: append(strangers(1+seed%2), mine), ids: []int{0, 1, 2, 3, 4, 5}[:2+seed%5]}
		c := newCluster(t, 555*seed, 1+seed%impl.MaxTable, []int{0, 1, impl.MaxTable}[seed%3], add(0, 10), add(1, 10))
		for i := range 250 {
			c, _ = mustDo(t, c, p.nextOrFlush(c))
			if i%25 == 0 {
				for _, f := range p.flows {
					seen[mustBeTaken(t, c, f)]++
				}
			}
		}
	}
	if seen[0] < 50 || seen[1] < 50 {
		t.Errorf("so many had it: %v", seen)
	}
}

func TestTheOneWhoHasItTakesItBehindACrash(t *testing.T) {
	s, first, second := twoServe(t)
	s.must(t, saying(opening()), yes)
	s.must(t, flushing(mostFlushed), 5)
	told := fateOf(s.c, following())
	s.must(t, restarting(0), yes)
	behind := fateOf(s.c, following())
	wrong := fateOf(hintedTo(s.c, mine, first), following())
	if want := (fate{impl.VdTake, second}); told != want || behind != want || wrong != want || impl.Hint(s.c.Bal, mine) != -1 {
		t.Fatalf("%v, behind a crash %v, with a wrong hint %v", told, behind, wrong)
	}
}

// Two commands behind it who went is no candidate any more: a hint to it is all that is left.
func TestWhoIsNoCandidateTakesItByTheHintAlone(t *testing.T) {
	c := hadBy(newCluster(t, 7, 4, 3, add(1, 5), add(2, 5), remove(2), weigh(1, 5), weigh(1, 6)), mine, 2)
	if told := fateOf(c, following()); told != (fate{impl.VdRst, 1}) {
		t.Errorf("without a hint: %v", told)
	}
	if told := fateOf(hintedTo(c, mine, 2), following()); told != (fate{impl.VdTake, 2}) {
		t.Errorf("with the hint: %v", told)
	}
	if mustBeTaken(t, c, mine) != -1 {
		t.Errorf("2 is among %v", impl.Listed(c, mine))
	}
}

func TestWhatIsFlushedIsToldInStories(t *testing.T) {
	empty, taken := 0, 0
	for seed := range 40 {
		p := plot{draws: lot(50 + seed), flows: strangers(1 + seed%20), ids: []int{0, 1, 2, 3, 4, 5}[:2+seed%5]}
		c := newCluster(t, 333*seed, 1+seed%impl.MaxTable, []int{0, 1, impl.MaxTable}[seed%3], add(0, 10), add(1, 10))
		for i := range 200 {
			k := p.next(c)
			if k.name[:3] == "Del" && p.draws.below(2) == 0 {
				k = saying(p.packet())
			}
			c, _ = mustDo(t, c, k)
			if i%20 == 0 {
				d, _ := mustDo(t, c, flushing(mostFlushed))
				mustTell(t, d)
				if len(d.Bag) != 0 {
					t.Fatalf("left on the way is %v", d.Bag)
				}
				empty += min(1, len(c.Bag))
				taken += len(d.Got) - len(c.Got)
			}
		}
	}
	if empty < 200 || taken < 200 {
		t.Errorf("%d were flushed, of which %d came to something", empty, taken)
	}
}
