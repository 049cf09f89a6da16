package tests

import (
	"maps"
	"math"
	"slices"
	"testing"

	"loop.example/g00607/impl"
)

// dropOf goes by where what comes nearer lies on its way: it may come into the hole where its
// way to where it stands goes over it. What is at a place is taken out of x.
func dropOf(x impl.Table, hole int) impl.Table {
	slots, size := slices.Clone(x.Slots), len(x.Slots)
	slots[hole] = impl.Slot{}
	at := hole
	for {
		at = (at + 1) % size
		if at == hole || !slots[at].Used {
			return impl.Table{Slots: slots}
		}
		if onTheWay(size, slots[at].Flow, at, hole) {
			slots[hole], slots[at] = slots[at], impl.Slot{}
			hole = at
		}
	}
}

// onTheWay tells whether f, going from its home to where it stands, comes by a place.
func onTheWay(size int, f impl.Flow, stands int, place int) bool {
	at := homeOf(size, f)
	for at != place {
		if at == stands {
			return false
		}
		at = (at + 1) % size
	}
	return true
}

// expireOf drops the first that is due, again and again.
func expireOf(x impl.Table, now int) (impl.Table, int) {
	due := func(s impl.Slot) bool { return s.Used && s.Until <= now }
	n := 0
	for at := slices.IndexFunc(x.Slots, due); at >= 0; at = slices.IndexFunc(x.Slots, due) {
		x = dropOf(x, at)
		n++
	}
	return x, n
}

func TestDropOfKnownTables(t *testing.T) {
	for _, c := range []struct {
		why    string
		was    string
		letter byte
		is     string
	}{
		{"alone", "a0", 'a', "."},
		{"nobody else", ". . a2 .", 'a', ". . . ."},
		{"nobody behind it", "c0 a1 . b3", 'a', "c0 . . b3"},
		{"who is behind is at home", "a0 b1 c2 .", 'a', ". b1 c2 ."},
		{"who is behind is at home, from last on", "b0 c1 . a3", 'a', "b0 c1 . ."},
		{"the last of a row", "a0 b0 c0 .", 'c', "a0 b0 . ."},
		{"one comes nearer", "a0 b0 . .", 'a', "b0 . . ."},
		{"one comes nearer, not to its home", "a0 b0 c0 .", 'b', "a0 c0 . ."},
		{"two come nearer", "a0 b0 c0 .", 'a', "b0 c0 . ."},
		{"two come nearer, of other homes", ". a1 b1 c2", 'a', ". b1 c2 ."},
		{"four come nearer", "a0 b0 c1 d2 e1 . .", 'a', "b0 c1 d2 e1 . . ."},
		{"one at home stays ahead of who moves", "a0 b1 c0 .", 'a', "c0 b1 . ."},
		{"two at home stay ahead of who moves", "a0 b1 c2 d0 .", 'a', "d0 b1 c2 . ."},
		{"one at home stays between who move", "a0 b0 c2 d1 .", 'a', "b0 d1 c2 . ."},
		{"one that is not at home stays", "a0 b1 c1 d0 .", 'a', "d0 b1 c1 . ."},
		{"of those behind, each second moves", "a0 b1 c0 d3 e2 .", 'a', "c0 b1 e2 d3 . ."},
		{"behind the row nobody moves", "a0 b0 . d3 e3 .", 'a', "b0 . . d3 e3 ."},
		{"from the first to the last", "b3 . . a3", 'a', ". . . b3"},
		{"two, one from the first to the last", "b3 c3 . a3", 'a', "c3 . . b3"},
		{"two, one of them home at the first", "b3 c0 . a3", 'a', "c0 . . b3"},
		{"from the first, and who is home stays", "b3 c1 . a3", 'a', ". c1 . b3"},
		{"from the second to the last", "b0 c3 . a3", 'a', "b0 . . c3"},
		{"ahead of the last", "c3 . a2 b2", 'a', ". . b2 c3"},
		{"ahead of the last, all come nearer", "c2 . a2 b2", 'a', ". . b2 c2"},
		{"full, nobody comes nearer", "a0 b1 c2 d3", 'a', ". b1 c2 d3"},
		{"full, nobody comes nearer to the last", "a0 b1 c2 d3", 'd', "a0 b1 c2 ."},
		{"full, from the last to the first", "a0 b1 c2 d0", 'a', "d0 b1 c2 ."},
		{"full, from the last to the second", "b0 a1 c2 d1", 'a', "b0 d1 c2 ."},
		{"full, all come nearer", "c2 d3 a2 b2", 'a', "d3 . b2 c2"},
		{"full, two slots", "a0 b0", 'a', "b0 ."},
		{"full, two slots, the other one", "a1 b0", 'b', ". a1"},
		{"full, who came nearer comes nearer again", "a0 b2 c1", 'a', ". c1 b2"},
		{"full, two come nearer again", "a0 b2 c0", 'a', "c0 . b2"},
		{"full, all go nearly three times round", "a0 b2 c3 d0", 'a', "d0 . b2 c3"},
	} {
		was, want := drawn(c.was), drawn(c.is)
		got, ok := impl.Drop(was, letterIn(t, was, c.letter))
		if !ok || !sameSlots(got, want) {
			t.Errorf("%s: %c dropped from %q: %v, %v, not %q", c.why, c.letter, c.was, got, ok, c.is)
		}
	}
}

// mustDrop wants of each flow of x that it alone is gone behind its Drop, and what comes nearer to be where it should.
func mustDrop(t *testing.T, x impl.Table) {
	t.Helper()
	for at, s := range x.Slots {
		if !s.Used {
			continue
		}
		got, ok := impl.Drop(x, s.Flow)
		if !ok || !sameSlots(got, dropOf(x, at)) {
			t.Fatalf("%v dropped from %v: %v, %v", s.Flow, x, got, ok)
		}
		kept := keptIn(x)
		delete(kept, s.Flow)
		mustKeepJust(t, "Drop", got, len(x.Slots), kept)
		if s, is := impl.Get(got, s.Flow); is || s != (impl.Slot{}) {
			t.Fatalf("%v is still got from %v", s.Flow, got)
		}
	}
}

func TestWhatIsDroppedIsNotGot(t *testing.T) {
	for _, x := range append(goodTables(), goodShapes(5)...) {
		mustDrop(t, x)
	}
}

func TestDropOfOneThatHasNoSlot(t *testing.T) {
	for _, x := range append(goodTables(), goodShapes(4)...) {
		for _, f := range newcomers(len(x.Slots)) {
			if got, ok := impl.Drop(x, f); ok || !sameSlots(got, x) {
				t.Fatalf("%v, that is not there, dropped from %v: %v, %v", f, x, got, ok)
			}
		}
	}
}

// mustExpire wants just those to be gone whose Until is not above now.
func mustExpire(t *testing.T, x impl.Table, now int) {
	t.Helper()
	got, n := impl.Expire(x, now)
	want, due := expireOf(x, now)
	if n != due || !sameSlots(got, want) {
		t.Fatalf("Expire(%v, %d) = %v, %d, not %v, %d", x, now, got, n, want, due)
	}
	kept := keptIn(x)
	all := len(kept)
	maps.DeleteFunc(kept, func(f impl.Flow, s impl.Slot) bool { return s.Until <= now })
	if n != all-len(kept) {
		t.Fatalf("Expire(%v, %d): %d went of %d, %d are not due", x, now, n, all, len(kept))
	}
	mustKeepJust(t, "Expire", got, len(x.Slots), kept)
}

func TestExpireDropsJustWhatIsDue(t *testing.T) {
	for _, x := range goodTables() {
		nows := []int{math.MinInt, -1, 0, 200000, math.MaxInt}
		for _, s := range x.Slots {
			nows = append(nows, s.Until-1, s.Until, s.Until+1)
		}
		for _, now := range nows {
			mustExpire(t, x, now)
		}
	}
}

// withUntils gives the slots of x Until 5 or 6, by the bits of a number.
func withUntils(x impl.Table, bits int) impl.Table {
	slots := slices.Clone(x.Slots)
	for at := range slots {
		if slots[at].Used {
			slots[at].Until = 5 + bits>>at&1
		}
	}
	return impl.Table{Slots: slots}
}

func TestExpireWhateverIsDue(t *testing.T) {
	for _, x := range goodShapes(4) {
		for bits := range 1 << len(x.Slots) {
			due := withUntils(x, bits)
			for now := 4; now <= 6; now++ {
				mustExpire(t, due, now)
			}
		}
	}
}

func TestExpireOfKnownTables(t *testing.T) {
	for _, c := range []struct {
		why string
		was string
		now int
		is  string
		n   int
	}{
		{"below all", ". a1 b1 c2", 9, ". a1 b1 c2", 0},
		{"at one", ". a1 b1 c2", 10, ". b1 c2 .", 1},
		{"above one", ". a1 b1 c2", 11, ". b1 c2 .", 1},
		{"below the next", ". a1 b1 c2", 19, ". b1 c2 .", 1},
		{"at two", ". a1 b1 c2", 20, ". . c2 .", 2},
		{"above all", ". a1 b1 c2", 31, ". . . .", 3},
		{"at most", ". a1 b1 c2", math.MaxInt, ". . . .", 3},
		{"below nought", "a0/0 b0/1 .", -1, "a0/0 b0/1 .", 0},
		{"at nought", "a0/0 b0/1 .", 0, "b0/1 . .", 1},
		{"at the greatest Until", "a0/200000 b0/199999 .", 199999, "a0/200000 . .", 1},
		{"nobody", ". . .", 200000, ". . .", 0},
		{"what is due comes nearer", "a0/5 b0/5 c0/9 .", 5, "c0/9 . . .", 2},
		{"all that is due comes nearer", "a0/5 b0/5 c0/5 d0/5 .", 5, ". . . . .", 4},
		{"due comes from the first to the last", "b3/5 c3/9 . a3/5", 5, ". . . c3/9", 2},
		{"due comes nearer over the end", "b3/9 c3/5 . a3/5", 5, ". . . b3/9", 2},
		{"due goes over the end of a full table", "a0/5 b1/9 c2/9 d0/5", 5, ". b1/9 c2/9 .", 2},
		{"the last alone", "a0/9 b0/9 c0/5 .", 5, "a0/9 b0/9 . .", 1},
		{"all of one Until", "a0/5 b0/5 c1/5", 5, ". . .", 3},
	} {
		got, n := impl.Expire(drawn(c.was), c.now)
		if n != c.n || !sameSlots(got, drawn(c.is)) {
			t.Errorf("%s: Expire(%q, %d) = %v, %d, not %q, %d", c.why, c.was, c.now, got, n, c.is, c.n)
		}
	}
}

func TestSoonestOfKnownTables(t *testing.T) {
	for _, c := range []struct {
		was    string
		letter byte
	}{
		{"a0", 'a'}, {". . a2 .", 'a'}, {". a1 b1 c2", 'a'}, {"a0/3 b0/2 c0/1 .", 'c'}, {"a0/3 b0/1 c0/2 .", 'b'},
		{"a0/7 b0/5 c0/5 d0/5", 'b'}, {"a0/5 b0/5 c0/5 d0/5", 'a'}, {". b1/5 a1/5 c1/4", 'c'}, {". b1/5 a1/5 c1/5", 'b'},
		{"b3/5 . . a3/5", 'b'}, {"b3/6 . . a3/5", 'a'}, {". a1/200000 .", 'a'}, {"a0/1 b1/0 .", 'b'}, {"b0/0 a0/0 .", 'b'},
	} {
		x := drawn(c.was)
		s, ok := impl.Soonest(x)
		if !ok || s != keptIn(x)[letterIn(t, x, c.letter)] {
			t.Errorf("Soonest(%q) = %v, %v, not %c", c.was, s, ok, c.letter)
		}
	}
}

// mustBeSoonest wants the first slot of those with the least Until.
func mustBeSoonest(t *testing.T, x impl.Table) {
	t.Helper()
	s, ok := impl.Soonest(x)
	if !ok {
		if s != (impl.Slot{}) || len(keptIn(x)) != 0 {
			t.Fatalf("Soonest(%v) = %v, %v", x, s, ok)
		}
		return
	}
	at := slices.Index(x.Slots, s)
	if at < 0 || !s.Used {
		t.Fatalf("Soonest(%v) = %v, which it has not", x, s)
	}
	for i, other := range x.Slots {
		if other.Used && (other.Until < s.Until || other.Until == s.Until && i < at) {
			t.Fatalf("Soonest(%v) = %v, not %v", x, s, other)
		}
	}
}

func TestNoUntilIsBelowTheSoonest(t *testing.T) {
	for _, x := range append(goodTables(), goodShapes(4)...) {
		mustBeSoonest(t, x)
		for bits := range 1 << min(len(x.Slots), 4) {
			mustBeSoonest(t, withUntils(x, bits))
		}
	}
}

func TestFlowsOfAscend(t *testing.T) {
	x, _ := impl.TableNew(8)
	given := []impl.Flow{flow(9, 0), flow(0, 65535), flow(65535, 0), flow(1, 0), flow(0, 0), flow(9, 1), flow(8, 65535), flow(1, 65535)}
	for _, f := range given {
		x, _ = impl.Put(x, f, 1, 1)
	}
	want := []impl.Flow{flow(0, 0), flow(0, 65535), flow(1, 0), flow(1, 65535), flow(8, 65535), flow(9, 0), flow(9, 1), flow(65535, 0)}
	if got := impl.FlowsOf(x); !slices.Equal(got, want) || impl.CountOf(x) != len(want) {
		t.Fatalf("%v, %d", got, impl.CountOf(x))
	}
	for _, x := range append(goodTables(), goodShapes(4)...) {
		l := impl.FlowsOf(x)
		for i := range l {
			if i > 0 && impl.FlowCmp(l[i-1], l[i]) != -1 {
				t.Fatalf("FlowsOf(%v) = %v", x, l)
			}
		}
		if len(l) != impl.CountOf(x) || len(l) != len(keptIn(x)) {
			t.Fatalf("%v: %d flows, counted %d", x, len(l), impl.CountOf(x))
		}
	}
}

// diary is a table and, beside it, what it has to keep.
type diary struct {
	x    impl.Table
	kept map[impl.Flow]impl.Slot
}

func (d *diary) put(t *testing.T, s impl.Slot) {
	t.Helper()
	_, there := d.kept[s.Flow]
	fits := there || len(d.kept) < len(d.x.Slots)
	y, ok := impl.Put(d.x, s.Flow, s.Val, s.Until)
	if ok != fits || !ok && !sameSlots(y, d.x) {
		t.Fatalf("%v put into %v: %v, %v", s, d.x, y, ok)
	}
	if ok {
		d.kept[s.Flow] = s
	}
	d.x = y
}

func (d *diary) drop(t *testing.T, f impl.Flow) {
	t.Helper()
	_, there := d.kept[f]
	y, ok := impl.Drop(d.x, f)
	if ok != there || !ok && !sameSlots(y, d.x) {
		t.Fatalf("%v dropped from %v: %v, %v", f, d.x, y, ok)
	}
	delete(d.kept, f)
	d.x = y
}

func (d *diary) expire(t *testing.T, now int) {
	t.Helper()
	mustExpire(t, d.x, now)
	d.x, _ = impl.Expire(d.x, now)
	maps.DeleteFunc(d.kept, func(f impl.Flow, s impl.Slot) bool { return s.Until <= now })
}

// somebody draws one of so few flows that many a one comes twice, and many have one home.
func somebody(draws *lot, size int) impl.Flow {
	if draws.below(2) == 0 {
		return flow(draws.below(3), size*draws.below(3))
	}
	return flow(65535-draws.below(3), 65535-draws.below(5))
}

func TestATableKeepsWhatADiaryKeeps(t *testing.T) {
	for size := 1; size <= impl.MaxTable; size++ {
		x, _ := impl.TableNew(size)
		d := diary{x: x, kept: map[impl.Flow]impl.Slot{}}
		draws := lot(size)
		for step := range 3000 {
			f := somebody(&draws, size)
			switch draws.below(20) {
			case 0:
				d.expire(t, draws.below(60)-5)
			case 1, 2, 3, 4, 5, 6, 7:
				d.drop(t, f)
			default:
				d.put(t, impl.Slot{Used: true, Flow: f, Val: draws.below(100001), Until: step % 7 * draws.below(50)})
			}
			mustKeepJust(t, "by the diary", d.x, size, d.kept)
			mustBeSoonest(t, d.x)
			if s, ok := impl.Get(d.x, f); s != d.kept[f] || ok != d.kept[f].Used {
				t.Fatalf("%v gets %v, %v of %v", f, s, ok, d.x)
			}
		}
	}
}
