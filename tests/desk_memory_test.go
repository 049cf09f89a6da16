package tests

import (
	"bytes"
	"slices"
	"testing"

	"loop.example/g00607/impl"
)

// roomyOrders is a copy of l with spare room behind it and behind each body, full of what could be taken for a part of it.
func roomyOrders(l []impl.Cmd) []impl.Cmd {
	all := slices.Clone(l)
	for i := range all {
		all[i].P.Body, _ = roomy(l[i].P.Body)
	}
	return append(all, toTick(), toLose(0), impl.Cmd{Kind: 8})[:len(l)]
}

// listsForMemory are lists that can be run, one whose bodies are one, and ones that can't be.
func listsForMemory() [][]impl.Cmd {
	said := opening()
	said.Body = counting(impl.MaxBody, 1)
	lists := [][]impl.Cmd{
		{},
		{toSay(said)},
		{toSay(said), toSay(said), toDouble(0), toDeliver(0)},
		{toLose(60), toDouble(60), toDeliver(60)},
		oneOfEach(),
		slices.Repeat(append(oneOfEach(), toDeliver(0)), 10),
		append(oneOfEach(), impl.Cmd{Kind: -1}),
		slices.Repeat([]impl.Cmd{toTick()}, mostRun+1),
	}
	for i := range lists {
		lists[i] = roomyOrders(lists[i])
	}
	return append(lists, slices.Repeat([]impl.Cmd{toSay(said)}, 5), nil)
}

// ordersForMemory are few, of each kind, done and not, and ones that are none.
func ordersForMemory() []impl.Cmd {
	all := append(oneOfEach(), toDeliver(0), toDeliver(60), toLose(0), toLose(60), toDouble(0), toDouble(60), toCommand(add(0, 9)), toCommand(remove(3)), toRestart(0), impl.Cmd{Kind: 8}, toLimit(6, 0))
	for _, p := range packetsForMemory() {
		all = append(all, toSay(p))
	}
	return roomyOrders(all)
}

func TestNoClusterThatIsCommandedIsWrittenInto(t *testing.T) {
	for _, c := range clustersForMemory() {
		mustBeUntouched(t, "a cluster", c, func() {
			impl.ClusterText(c)
			for _, k := range ordersForMemory() {
				impl.Do(c, k)
			}
			for _, l := range listsForMemory() {
				impl.Run(c, l)
			}
		})
	}
}

func TestNoCommandIsWrittenInto(t *testing.T) {
	for _, l := range append(listsForMemory(), ordersForMemory()) {
		mustBeUntouched(t, "a list", l, func() {
			for _, c := range clustersForMemory() {
				impl.Run(c, l)
				for _, k := range l[:min(len(l), 40)] {
					impl.CmdOk(k)
					impl.Do(c, k)
				}
			}
		})
	}
}

func TestNoPoolThatIsToldIsWrittenInto(t *testing.T) {
	for _, p := range poolsForMemory(t) {
		mustBeUntouched(t, "a pool", p, func() { scribble(impl.PoolText(p)) })
	}
}

func TestWhatIsDoneIsNewMemory(t *testing.T) {
	for _, c := range clustersForMemory() {
		for _, k := range ordersForMemory() {
			got, _ := impl.Do(c, k)
			again, _ := impl.Do(c, k)
			mustBeApart(t, "Do", got, again, c, k)
		}
		for _, l := range listsForMemory() {
			got, _, _ := impl.Run(c, l)
			again, _, _ := impl.Run(c, l)
			mustBeApart(t, "Run", got, again, c, l)
		}
	}
}

func TestWhatIsNotDoneIsNewMemory(t *testing.T) {
	full := with(func(c *impl.Cluster) {
		c.Now, c.Bag, c.Got, c.Rst, c.Gone = lastNow, fullBag(lastNow), given(mostGot), mostTally, mostTally
	})
	for _, was := range []impl.Cluster{full, sharingCluster(), hollowCluster()} {
		for _, k := range []impl.Cmd{toSay(opening()), toDeliver(60), toLose(60), toDouble(60), toTick(), toCommand(drain(5))} {
			c := roomyCluster(was)
			d, ok := impl.Do(c, k)
			e, n, fine := impl.Run(c, []impl.Cmd{k, k})
			mustBeApart(t, "Do", d, c)
			mustBeApart(t, "Run", e, c, d)
			if was.Now == lastNow && (ok || n != 0 || !fine || !sameCluster(d, was) || !sameCluster(e, was)) {
				t.Fatalf("%v: %v, %d, %v", k, ok, n, fine)
			}
		}
		c := roomyCluster(was)
		d, n, ok := impl.Run(c, nil)
		mustBeApart(t, "Run", d, c)
		if n != 0 || !ok || !sameCluster(d, was) {
			t.Fatalf("%v, %d, %v, not as it was", d, n, ok)
		}
	}
}

// What was said is the cluster's own: whoever said it may write into its body.
func TestWhatIsSaidByACommandIsKeptApart(t *testing.T) {
	said := impl.Packet{Flow: mine, Flags: impl.FlSyn, Body: []byte{1, 2, 3}}
	c := newCluster(t, 7, 4, 3, add(2, 5))
	d, n, ok := impl.Run(c, []impl.Cmd{toSay(said), toSay(said), toDouble(0)})
	scribble(said.Body)
	scribble(d.Bag[0].C.P.Body)
	if n != 3 || !ok || !bytes.Equal(d.Bag[1].C.P.Body, []byte{1, 2, 3}) || !bytes.Equal(d.Bag[2].C.P.Body, []byte{1, 2, 3}) {
		t.Fatalf("%v, %d, %v", d.Bag, n, ok)
	}
}

func TestTextsAreNewMemory(t *testing.T) {
	for _, p := range poolsForMemory(t) {
		mustBeApart(t, "PoolText", impl.PoolText(p), impl.PoolText(p), p)
	}
	for _, c := range clustersForMemory() {
		mustBeApart(t, "ClusterText", impl.ClusterText(c), impl.ClusterText(c), c)
	}
	for vd := range 8 {
		first := impl.VerdictText(vd)
		want := string(first)
		mustBeApart(t, "VerdictText", first, impl.VerdictText(vd))
		scribble(first)
		if string(impl.VerdictText(vd)) != want {
			t.Fatalf("%d: %q, not %q", vd, impl.VerdictText(vd), want)
		}
	}
}

func TestCommandsAndTextsDoNotReadSpareRoom(t *testing.T) {
	for _, c := range edgyClusters() {
		room := roomyCluster(c)
		if string(impl.ClusterText(c)) != string(impl.ClusterText(room)) {
			t.Fatalf("%v: spare room is told", c)
		}
		for _, k := range ordersForMemory() {
			d, ok := impl.Do(c, k)
			k.P.Body = slices.Clip(k.P.Body)
			if e, fine := impl.Do(room, k); ok != fine || !sameCluster(d, e) {
				t.Fatalf("%v: spare room is seen", k)
			}
		}
		for _, l := range listsForMemory() {
			d, n, ok := impl.Run(c, slices.Clip(l))
			if e, m, fine := impl.Run(room, l); ok != fine || n != m || !sameCluster(d, e) {
				t.Fatalf("%v: spare room is seen", l)
			}
		}
	}
	for _, p := range somePools(t) {
		if string(impl.PoolText(p)) != string(impl.PoolText(roomyPool(p))) {
			t.Fatalf("%v: spare room is told", p)
		}
	}
}

func TestNothingOfACommandIsKept(t *testing.T) {
	l := append(oneOfEach(), oneOfEach()...)
	first, n, _ := impl.Run(crowded(), l)
	for _, c := range clustersForMemory() {
		for _, other := range listsForMemory() {
			impl.Run(c, other)
		}
		impl.ClusterText(c)
	}
	again, m, _ := impl.Run(crowded(), l)
	if n != m || !sameCluster(first, again) || string(impl.ClusterText(first)) != string(impl.ClusterText(again)) {
		t.Fatal("the same call answers something else")
	}
}
