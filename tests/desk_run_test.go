package tests

import (
	"fmt"
	"slices"
	"testing"

	"loop.example/g00607/impl"
)

// The document has no name for this.
const mostRun = 200

// order draws a command for a cluster, of which a few can't be done.
func (p *plot) order(c impl.Cluster) impl.Cmd {
	switch n := p.draws.below(100); {
	case n < 16:
		return toSay(p.packet())
	case n < 66:
		return toDeliver(p.place(c))
	case n < 68:
		return toLose(p.place(c))
	case n < 72:
		return toDouble(p.place(c))
	case n < 75:
		beyond := len(c.Bag) + p.draws.below(3)
		return []impl.Cmd{toDeliver(beyond), toLose(beyond), toDouble(beyond)}[n-72]
	case n < 83:
		return toTick()
	case n < 92:
		return toCommand(p.command())
	case n < 94:
		return toRestart(p.draws.below(3))
	}
	return toLimit(p.id(), []int{0, 0, 1, impl.MaxTable}[p.draws.below(4)])
}

// orders draws n commands, each for what is behind the ones ahead of it.
func (p *plot) orders(c impl.Cluster, n int) []impl.Cmd {
	var l []impl.Cmd
	for range n {
		k := p.order(c)
		c, _ = doneBy(c, k)
		l = append(l, k)
	}
	return l
}

// oneByOne is Do of each, one over the other, and how many were true.
func oneByOne(c impl.Cluster, l []impl.Cmd) (impl.Cluster, int) {
	done := 0
	for _, k := range l {
		d, ok := impl.Do(c, k)
		if c = d; ok {
			done++
		}
	}
	return c, done
}

// mustRun wants a list that may be to be run as its commands are done one by one.
func mustRun(t *testing.T, c impl.Cluster, l []impl.Cmd) (impl.Cluster, int) {
	t.Helper()
	d, n, ok := impl.Run(c, l)
	want, done := oneByOne(c, l)
	if !ok || n != done || !sameCluster(d, want) {
		t.Fatalf("%v of %v: %v, %d, %v, not %v, %d", l, c, d, n, ok, want, done)
	}
	if !impl.ClusterOk(d) {
		t.Fatalf("%v of %v: %v is none", l, c, d)
	}
	return d, n
}

// mustNotRun wants the one answer of what can't be run.
func mustNotRun(t *testing.T, why string, c impl.Cluster, l []impl.Cmd) {
	t.Helper()
	if d, n, ok := impl.Run(c, l); ok || n != 0 || !sameCluster(d, impl.Cluster{}) {
		t.Fatalf("%s: %v, %d, %v", why, d, n, ok)
	}
}

func TestRunIsDoOfEachOneOverTheOther(t *testing.T) {
	all, some := 0, 0
	for seed := range 60 {
		p := plot{draws: lot(40 + seed), flows: append(strangers(seed%9), mine), ids: []int{0, 1, 2, 3, 4, 5}[:1+seed%6]}
		c := newCluster(t, 500*seed, 1+seed%impl.MaxTable, []int{0, 1, impl.MaxTable}[seed%3], add(0, 10))
		for _, n := range []int{1, 2, 7, 40, mostRun - 1, mostRun} {
			l := p.orders(c, n)
			d, done := mustRun(t, c, l)
			all, some = all+n, some+done
			c = d
		}
	}
	if some < all/2 || some > all*9/10 {
		t.Errorf("of %d commands %d were done", all, some)
	}
}

func TestRunOfEdgyClusters(t *testing.T) {
	for i, c := range edgyClusters() {
		p := plot{draws: lot(i), flows: append(strangers(3), mine), ids: []int{0, 1, 2, 3, 4, 5}}
		for _, n := range []int{0, 1, 5, mostRun} {
			mustRun(t, c, p.orders(c, n))
		}
		mustRun(t, c, oneOfEach())
		mustRun(t, c, slices.Repeat([]impl.Cmd{toDeliver(0)}, 70))
		mustRun(t, c, slices.Repeat([]impl.Cmd{toSay(opening()), toDouble(0)}, 40))
	}
}

// A list may be cut anywhere: what is behind the cut is run over what is ahead of it.
func TestRunOfAListThatIsCut(t *testing.T) {
	p := plot{draws: 3, flows: append(strangers(2), mine), ids: []int{1, 2, 4}}
	c := newCluster(t, 7, 4, 1, add(1, 5), add(2, 5))
	l := p.orders(c, mostRun)
	want, whole := mustRun(t, c, l)
	for cut := 0; cut <= mostRun; cut += 8 {
		ahead, n := mustRun(t, c, l[:cut])
		d, more := mustRun(t, ahead, l[cut:])
		if !sameCluster(d, want) || n+more != whole {
			t.Fatalf("cut at %d: %v, %d, %d", cut, d, n, more)
		}
	}
}

func TestRunTellsHowManyWereTrue(t *testing.T) {
	c := newCluster(t, 7, 4, 3, add(2, 5))
	for _, s := range []struct {
		why  string
		l    []impl.Cmd
		done int
		want [4]int
	}{
		{"nothing is done", nil, 0, [4]int{}},
		{"none can be done", []impl.Cmd{toDeliver(0), toLose(0), toDouble(0), toCommand(add(2, 9)), toCommand(drain(3))}, 0, [4]int{}},
		{"all are done", []impl.Cmd{toSay(opening()), toDouble(0), toLose(1), toDeliver(0), toDeliver(0), toTick(), toRestart(0), toLimit(2, 0)}, 8, [4]int{1, 1, 0, 0}},
		{"the first can't be done", []impl.Cmd{toDeliver(0), toSay(opening())}, 1, [4]int{1, 0, 0, 0}},
		{"the last can't be done", []impl.Cmd{toSay(opening()), toDeliver(1)}, 1, [4]int{1, 0, 0, 0}},
		{"every other can't be done", []impl.Cmd{toLose(0), toTick(), toLose(0), toTick(), toLose(0)}, 2, [4]int{}},
		{"a word is learnt, and nothing is left", []impl.Cmd{toSay(opening()), toDeliver(0), toDeliver(0), toDeliver(0), toDeliver(0)}, 4, [4]int{0, 1, 0, 0}},
		{"nobody serves any more, and it is gone", []impl.Cmd{toCommand(remove(2)), toCommand(add(1, 1)), toCommand(drain(1)), toCommand(weigh(1, 2)), toCommand(weigh(1, 3)), toSay(opening()), toTick()}, 6, [4]int{0, 0, 0, 1}},
	} {
		if d, n := mustRun(t, c, s.l); n != s.done || counts(d) != s.want {
			t.Errorf("%s: %d, %v, not %d, %v", s.why, n, counts(d), s.done, s.want)
		}
	}
}

// What is not done does not count, but what went with it is gone, and the next one is done over that.
func TestRunGoesOnBehindWhatIsNotDone(t *testing.T) {
	nobody := newCluster(t, 7, 4, 3)
	d, n := mustRun(t, nobody, []impl.Cmd{toSay(opening()), toSay(following()), toCommand(add(2, 5)), toSay(opening()), toLose(5), toTick()})
	if n != 3 || counts(d) != [4]int{1, 0, 0, 2} || d.Now != 1 || d.Bag[0].C.Stamp != 0 {
		t.Fatalf("%d: %v", n, d)
	}
	full := with(func(c *impl.Cluster) { c.Bag, c.Gone = fullBag(25), mostTally-1 })
	e, n := mustRun(t, full, []impl.Cmd{toSay(opening()), toSay(opening()), toDouble(0), toLose(0), toSay(opening())})
	if n != 2 || counts(e) != [4]int{60, 2, 3, mostTally} {
		t.Fatalf("%d: %v", n, counts(e))
	}
}

func TestRunGoesInOrder(t *testing.T) {
	c := newCluster(t, 7, 4, 3, add(2, 5))
	l := []impl.Cmd{toTick(), toSay(opening()), toTick(), toSay(following()), toLimit(2, 5), toLimit(2, 0)}
	d, n := mustRun(t, c, l)
	if n != 6 || len(d.Bag) != 2 || d.Bag[0].C.Stamp != 1 || d.Bag[1].C.Stamp != 2 || !impl.Opens(d.Bag[0].C.P) || d.Agents[2].Limit != 0 {
		t.Fatalf("%d: %v", n, d)
	}
	slices.Reverse(l)
	e, n := mustRun(t, c, l)
	if n != 6 || len(e.Bag) != 2 || e.Bag[0].C.Stamp != 0 || e.Bag[1].C.Stamp != 1 || impl.Opens(e.Bag[0].C.P) || e.Agents[2].Limit != 5 {
		t.Fatalf("%d: %v", n, e)
	}
}

func TestRunOfEachLength(t *testing.T) {
	c := newCluster(t, 7, 4, 3, add(2, 5))
	for _, n := range []edge{{0, true}, {1, true}, {2, true}, {mostRun - 1, true}, {mostRun, true}, {mostRun + 1, false}, {mostRun + 2, false}, {5000, false}} {
		for _, k := range append(oneOfEach(), toDeliver(0)) {
			l := slices.Repeat([]impl.Cmd{k}, n.n)
			if !n.in {
				mustNotRun(t, fmt.Sprint(n.n, " of ", k), c, l)
				continue
			}
			d, done := mustRun(t, c, l)
			if k.Kind == impl.CmTick && (done != n.n || d.Now != n.n) {
				t.Errorf("%d ticks: %d, Now %d", n.n, done, d.Now)
			}
			if k.Kind == impl.CmClient && (done != min(n.n, 60) || d.Gone != max(0, n.n-60)) {
				t.Errorf("said %d times: %d, %v", n.n, done, counts(d))
			}
			if k.Kind == impl.CmDeliver && (done != 0 || !sameCluster(d, c)) {
				t.Errorf("nothing delivered %d times: %d", n.n, done)
			}
		}
	}
}

func TestRunOfNoCommands(t *testing.T) {
	for _, c := range goodClusters() {
		for _, l := range [][]impl.Cmd{nil, {}, []impl.Cmd{{Kind: 8}, toTick()}[:0]} {
			if d, n, ok := impl.Run(c, l); !ok || n != 0 || !sameCluster(d, c) {
				t.Fatalf("%v: %v, %d, %v", c, d, n, ok)
			}
		}
	}
}

func TestRunOfWhatIsNoCommand(t *testing.T) {
	c := newCluster(t, 7, 4, 3, add(2, 5))
	good := append(slices.Repeat([]impl.Cmd{toTick()}, mostRun-2), toSay(opening()), toDeliver(0))
	for _, n := range []int{1, 2, 3, 7, mostRun} {
		for _, place := range []int{0, 1, n / 2, n - 2, n - 1} {
			for why, k := range badOrders() {
				if place < 0 || place >= n || n == mostRun && len(why)%6 > 0 {
					continue
				}
				l := slices.Clone(good[len(good)-n:])
				mustRun(t, c, l[:min(n, 3)])
				l[place] = k
				mustNotRun(t, fmt.Sprint(why, " at ", place, " of ", n), c, l)
			}
		}
	}
	mustNotRun(t, "none is a command", c, slices.Repeat([]impl.Cmd{{Kind: -1}}, mostRun))
	mustNotRun(t, "none is a command, and they are too many", c, slices.Repeat([]impl.Cmd{{Kind: -1}}, mostRun+1))
}

func TestRunOfNoCluster(t *testing.T) {
	for why, c := range badClusters() {
		for _, l := range [][]impl.Cmd{nil, {toTick()}, oneOfEach(), {toLose(0), toDouble(0)}, {{Kind: 8}}, slices.Repeat([]impl.Cmd{toTick()}, mostRun+1)} {
			mustNotRun(t, why, c, l)
		}
	}
}
