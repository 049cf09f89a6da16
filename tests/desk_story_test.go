package tests

import (
	"slices"
	"testing"

	"loop.example/g00607/impl"
)

// someTableIsFull tells where promise 10 ends.
func someTableIsFull(c impl.Cluster) bool {
	return slices.ContainsFunc(c.Agents, func(a impl.Agent) bool {
		return impl.CountOf(a.Conns) == len(a.Conns.Slots) || impl.CountOf(a.Tombs) == len(a.Tombs.Slots)
	})
}

// errand is a story of lists that are run, and what a test has seen of it.
type errand struct {
	story
	plot
	slow         bool
	done, undone [8]int
	have         map[int]int
	tight        int
}

func errandOf(c impl.Cluster, p plot) *errand {
	return &errand{story: *storyOf(c), plot: p, have: map[int]int{}}
}

// step does a command that is drawn, to know which pairs are hunted on the way of a list.
func (e *errand) step(c impl.Cluster) (impl.Cluster, impl.Cmd) {
	k := e.order(c)
	if e.slow && k.Kind == impl.CmTick && e.draws.below(4) > 0 {
		k = toSay(e.packet())
	}
	d, ok := impl.Do(c, k)
	if !ok {
		e.undone[k.Kind]++
		return d, k
	}
	e.done[k.Kind]++
	if k.Kind == impl.CmClient {
		e.note(d.Bag[len(d.Bag)-1])
	}
	return d, k
}

// run runs a list that is drawn, and wants promise 10 behind it; false where a table was full on its way.
func (e *errand) run(t *testing.T, n int) bool {
	t.Helper()
	c, l := e.c, []impl.Cmd(nil)
	for range n {
		d, k := e.step(c)
		c, l = d, append(l, k)
		if someTableIsFull(c) {
			return false
		}
	}
	was := e.c
	e.c, _ = mustRun(t, was, l)
	for _, f := range e.flows {
		owners := impl.Owners(e.c, f)
		if len(owners) > len(e.hunted[f]) {
			t.Fatalf("Owners of %v: %v, for which %v were hunted, behind %v of %v", f, owners, e.hunted[f], l, was)
		}
		e.have[len(owners)]++
		if len(owners) > 1 && len(owners) == len(e.hunted[f]) {
			e.tight++
		}
	}
	return true
}

func TestOwnersByRunAreNoMoreThanPairsWereHunted(t *testing.T) {
	have, tight, done, undone := map[int]int{}, 0, [8]int{}, [8]int{}
	for seed := range 50 {
		p := plot{draws: lot(7000 + seed), flows: append(strangers(seed%3), mine), ids: []int{0, 1, 2, 3, 4, 5}[:2+seed%5]}
		e := errandOf(newCluster(t, 321*seed, 1+seed%impl.MaxTable, []int{0, 1, impl.MaxTable}[seed%3], add(0, 10), add(1, 10)), p)
		for i := range 100 {
			n := []int{1, 2, 3, 5, 8}[i%5]
			if i == 99 {
				n = mostRun
			}
			if !e.run(t, n) {
				t.Fatalf("a table is full: %v", e.c.Agents)
			}
		}
		for kind := range 8 {
			done[kind] += e.done[kind]
			undone[kind] += e.undone[kind]
		}
		for n := range 3 {
			have[n] += e.have[n]
		}
		tight += e.tight
	}
	if have[1] < 500 || have[2] < 50 || tight < 20 {
		t.Errorf("too few were had by so many: %v, %d", have, tight)
	}
	for kind := range 8 {
		always := kind == impl.CmRestart || kind == impl.CmLimit || kind == impl.CmTick
		if done[kind] < 100 || undone[kind] < 20 && !always {
			t.Errorf("kind %d was done %d times, and not %d times", kind, done[kind], undone[kind])
		}
	}
}

// With many flows, and little time, a table is full in the end: till then the promise holds.
func TestOwnersByRunTillATableIsFull(t *testing.T) {
	had, full := 0, 0
	for seed := range 20 {
		p := plot{draws: lot(90 + seed), flows: strangers(30 + seed), ids: []int{0, 1, 2, 3, 4, 5}[:1+seed%4]}
		e := errandOf(newCluster(t, 777*seed, 4, impl.MaxTable, add(0, 10)), p)
		e.slow = true
		for range 50 {
			if !e.run(t, 1+e.draws.below(30)) {
				full++
				break
			}
		}
		had += e.have[1]
	}
	if had < 500 || full < 5 || full > 18 {
		t.Errorf("%d were had, %d times a table was full", had, full)
	}
}

// Two pairs are hunted, and two have it: one pair alone is hunted, and one has it, though it comes twice.
func TestOwnersByRunOfKnownLists(t *testing.T) {
	c, _ := impl.ClusterNew(7, 4, []int{3, 3, 3, 3, 3, 3})
	pour := slices.Repeat([]impl.Cmd{toDeliver(0)}, 30)
	start := []impl.Cmd{toCommand(add(1, 1)), toCommand(add(2, 1)), toSay(opening()), toDouble(0)}
	once, _ := mustRun(t, c, append(slices.Clone(start), pour...))
	twice, _ := mustRun(t, c, append(append(slices.Clone(start), toCommand(add(4, 100)), toSay(opening())), pour...))
	first, _ := pairIn(once)
	if owners := impl.Owners(once, mine); !slices.Equal(owners, []int{first}) || len(once.Bag) != 0 {
		t.Errorf("of one pair %v have it", owners)
	}
	if owners := impl.Owners(twice, mine); !slices.Equal(owners, []int{first, 4}) || len(twice.Bag) != 0 {
		t.Errorf("of two pairs %v have it", owners)
	}
}
