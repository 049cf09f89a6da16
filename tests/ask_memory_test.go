package tests

import (
	"fmt"
	"slices"
	"testing"

	"loop.example/g00607/impl"
)

var flowsToAsk = []impl.Flow{mine, strangers(1)[0], strangers(2)[1], flow(0, 0), flow(65535, 65535), flow(-1, 0)}

var mostsForMemory = []int{-1, 0, 1, 2, 20, mostFlushed, mostFlushed + 1}

// askAll asks everything of c, and tells all answers as a text.
func askAll(c impl.Cluster) string {
	told := fmt.Sprint(impl.Oldest(c), impl.LoadOf(c))
	for _, f := range flowsToAsk {
		told += fmt.Sprint(impl.Owners(c, f), impl.Listed(c, f))
	}
	for _, p := range packetsForMemory() {
		told += fmt.Sprint(impl.Fate(c, p))
	}
	for _, most := range mostsForMemory {
		told += fmt.Sprint(impl.Flush(c, most))
	}
	return told
}

func TestNoClusterThatIsAskedIsWrittenInto(t *testing.T) {
	for _, c := range clustersForMemory() {
		mustBeUntouched(t, "a cluster", c, func() { askAll(c) })
	}
}

func TestNoPacketThatIsAskedIsWrittenInto(t *testing.T) {
	for _, p := range packetsForMemory() {
		mustBeUntouched(t, "a packet", p, func() {
			for _, c := range clustersForMemory() {
				impl.Fate(c, p)
			}
		})
	}
}

func TestWhatIsAskedIsToldInNewMemory(t *testing.T) {
	for _, c := range clustersForMemory() {
		for _, f := range flowsToAsk {
			mustBeApart(t, "Owners", impl.Owners(c, f), impl.Owners(c, f), c)
			mustBeApart(t, "Listed", impl.Listed(c, f), impl.Listed(c, f), c)
		}
		mustBeApart(t, "LoadOf", impl.LoadOf(c), impl.LoadOf(c), c)
		for _, most := range mostsForMemory {
			got, _ := impl.Flush(c, most)
			again, _ := impl.Flush(c, most)
			mustBeApart(t, "Flush", got, again, c)
		}
	}
}

func TestAFlushThatDeliversNothingIsNewMemory(t *testing.T) {
	for _, was := range []impl.Cluster{
		with(func(c *impl.Cluster) { c.Bag = nil }), with(func(c *impl.Cluster) { c.Got = given(enoughGot) }),
		with(func(c *impl.Cluster) { c.Gone = enoughTally }), with(func(c *impl.Cluster) { c.Rst = mostTally }),
	} {
		c := roomyCluster(was)
		d, n := impl.Flush(c, mostFlushed)
		mustBeApart(t, "Flush", d, c)
		if n != 0 || !sameCluster(d, was) {
			t.Fatalf("%v, %d, not as it was", d, n)
		}
	}
	for _, was := range edgyClusters() {
		c := roomyCluster(was)
		d, n := impl.Flush(c, 0)
		mustBeApart(t, "Flush", d, c)
		if n != 0 || !sameCluster(d, was) {
			t.Fatalf("%v, %d, not as it was", d, n)
		}
	}
}

// What was told of one question may be written into: no other answer has it.
func TestAnswersOfQuestionsAreTheAskersOwn(t *testing.T) {
	scribbleAll := func(l []int) {
		for i := range l[:cap(l)] {
			l[:cap(l)][i] = -9
		}
	}
	c := roomyCluster(crowded())
	for _, f := range flowsToAsk {
		owners, listed := impl.Owners(c, f), impl.Listed(c, f)
		wantOwners, wantListed := slices.Clone(owners), slices.Clone(listed)
		scribbleAll(owners)
		scribbleAll(listed)
		if !slices.Equal(impl.Owners(c, f), wantOwners) || !slices.Equal(impl.Listed(c, f), wantListed) {
			t.Fatalf("%v: what was told was written into, and is told", f)
		}
	}
	scribbleAll(impl.LoadOf(c))
	d, _ := impl.Flush(c, 1)
	for _, m := range d.Bag {
		scribbleCarrier(m.C)
	}
	if !sameCluster(c, crowded()) || !slices.Equal(impl.LoadOf(c), []int{2, 1, 1, 3, 1, 1}) {
		t.Fatal("the cluster was written into")
	}
}

func TestSpareRoomOfAClusterIsNotAsked(t *testing.T) {
	for _, c := range edgyClusters() {
		if askAll(c) != askAll(roomyCluster(c)) {
			t.Fatalf("%v: spare room is seen", c)
		}
	}
}

func TestNothingThatIsAskedIsKept(t *testing.T) {
	first := askAll(crowded())
	for _, c := range clustersForMemory() {
		askAll(c)
	}
	if askAll(crowded()) != first {
		t.Fatal("a question has another answer the second time")
	}
}
