package tests

import (
	"slices"
	"testing"

	"loop.example/g00607/impl"
)

// roomySlots is a copy of x with spare room behind it, full of what could be taken for a part of it.
func roomySlots(x impl.Table) impl.Table {
	whole := slices.Clone(x.Slots)
	for i := range 4 {
		whole = append(whole, impl.Slot{Used: i%2 == 0, Flow: flow(60000, i), Val: 70000 + i, Until: i})
	}
	return impl.Table{Slots: whole[:len(x.Slots)]}
}

// tablesForMemory are good ones and ones that are none.
func tablesForMemory() []impl.Table {
	all := goodTables()
	for _, bad := range badTables() {
		all = append(all, bad)
	}
	for i := range all {
		all[i] = roomySlots(all[i])
	}
	return all
}

// flowsForMemory are some that are in x, one of each home that is not, one of its spare room, and one that is none.
func flowsForMemory(x impl.Table) []impl.Flow {
	all := []impl.Flow{flow(60000, 0), flow(-1, 0)}
	for _, s := range x.Slots[:min(len(x.Slots), 20)] {
		all = append(all, s.Flow)
	}
	return append(all, newcomers(max(1, min(len(x.Slots), 3)))...)
}

var nowsForMemory = []int{-1, 0, 10, 25, 200000}

func TestNoTableIsWrittenIntoNorItsSpareRoom(t *testing.T) {
	for _, x := range tablesForMemory() {
		mustBeUntouched(t, "a table", x, func() {
			impl.TableOk(x)
			impl.CountOf(x)
			impl.FlowsOf(x)
			impl.Soonest(x)
			for _, f := range flowsForMemory(x) {
				impl.Home(x, f)
				impl.Get(x, f)
				impl.Put(x, f, 7, 9)
				impl.Put(x, f, -1, 9)
				impl.Drop(x, f)
			}
			for _, now := range nowsForMemory {
				impl.Expire(x, now)
			}
		})
	}
}

func TestWhatIsToldOfTablesIsNewMemory(t *testing.T) {
	for _, x := range tablesForMemory() {
		for _, f := range flowsForMemory(x) {
			got, _ := impl.Put(x, f, 7, 9)
			again, _ := impl.Put(x, f, 7, 9)
			mustBeApart(t, "Put", got, again, x)
			got, _ = impl.Drop(x, f)
			again, _ = impl.Drop(x, f)
			mustBeApart(t, "Drop", got, again, x)
		}
		for _, now := range nowsForMemory {
			got, _ := impl.Expire(x, now)
			again, _ := impl.Expire(x, now)
			mustBeApart(t, "Expire", got, again, x)
		}
		mustBeApart(t, "FlowsOf", impl.FlowsOf(x), impl.FlowsOf(x), x)
	}
	for size := 1; size <= impl.MaxTable; size++ {
		x, _ := impl.TableNew(size)
		again, _ := impl.TableNew(size)
		mustBeApart(t, "TableNew", x, again)
	}
}

func TestAnAnswerThatIsTheTableAsItWasIsNewMemory(t *testing.T) {
	x := fullTable(4, 1)
	put, fits := impl.Put(x, named(4, 'z', 0), 7, 9)
	dropped, is := impl.Drop(x, named(4, 'z', 0))
	left, n := impl.Expire(x, -1)
	same, done := impl.Put(x, x.Slots[2].Flow, x.Slots[2].Val, x.Slots[2].Until)
	if fits || is || n != 0 || !done {
		t.Fatal("something is not as it was")
	}
	for _, y := range []impl.Table{put, dropped, left, same} {
		if !sameSlots(y, x) {
			t.Fatalf("%v is not %v", y, x)
		}
		y.Slots[0] = impl.Slot{}
		if !sameSlots(x, fullTable(4, 1)) {
			t.Fatal("what is told shares memory with the table")
		}
	}
}

func TestTablesAreNotReadFromSpareRoom(t *testing.T) {
	for _, x := range goodTables() {
		room := roomySlots(x)
		if !impl.TableOk(room) || impl.CountOf(room) != impl.CountOf(x) || !slices.Equal(impl.FlowsOf(room), impl.FlowsOf(x)) {
			t.Fatalf("%v: spare room is seen", x)
		}
		if s, ok := impl.Get(room, flow(60000, 0)); ok || s.Used {
			t.Fatalf("%v: a slot of spare room is got", x)
		}
		a, _ := impl.Soonest(x)
		if b, _ := impl.Soonest(room); a != b {
			t.Fatalf("%v: the soonest is of spare room", x)
		}
		for _, f := range flowsForMemory(x) {
			a, can := impl.Put(x, f, 7, 9)
			if b, ok := impl.Put(room, f, 7, 9); ok != can || !sameSlots(a, b) || impl.Home(x, f) != impl.Home(room, f) {
				t.Fatalf("%v put into %v: spare room is seen", f, x)
			}
			a, can = impl.Drop(x, f)
			if b, ok := impl.Drop(room, f); ok != can || !sameSlots(a, b) {
				t.Fatalf("%v dropped from %v: spare room is seen", f, x)
			}
		}
		for _, now := range nowsForMemory {
			a, n := impl.Expire(x, now)
			if b, m := impl.Expire(room, now); n != m || !sameSlots(a, b) {
				t.Fatalf("Expire(%v, %d): spare room is seen", x, now)
			}
		}
	}
	if impl.TableOk(impl.Table{Slots: fullTable(4, 0).Slots[:0]}) {
		t.Fatal("a list of none with room behind it is a table")
	}
}

func TestNothingOfATableIsKept(t *testing.T) {
	x, f := drawn(". a1 b1 c2"), named(4, 'z', 1)
	put, _ := impl.Put(x, f, 7, 9)
	left, _ := impl.Expire(x, 10)
	flows := impl.FlowsOf(x)
	for _, other := range goodTables() {
		impl.Put(other, f, 8, 10)
		impl.Expire(other, 200000)
		impl.FlowsOf(other)
		impl.Soonest(other)
	}
	again, _ := impl.Put(x, f, 7, 9)
	behind, _ := impl.Expire(x, 10)
	if !sameSlots(put, again) || !sameSlots(left, behind) || !slices.Equal(flows, impl.FlowsOf(x)) {
		t.Fatal("the same call answers something else")
	}
}
