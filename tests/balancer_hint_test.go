package tests

import (
	"slices"
	"strings"
	"testing"

	"loop.example/g00607/impl"
)

// learntBy is a table behind a hint, slot by slot, and the flow whose hint went for it.
func learntBy(x impl.Table, s impl.Slot) (impl.Table, []impl.Flow) {
	var gone []impl.Flow
	at := slices.IndexFunc(x.Slots, func(o impl.Slot) bool { return o.Used && o.Flow == s.Flow })
	if at < 0 {
		at = firstFree(x, homeOf(len(x.Slots), s.Flow))
	}
	if at < 0 {
		first := 0
		for i, o := range x.Slots {
			if o.Until < x.Slots[first].Until {
				first = i
			}
		}
		gone = append(gone, x.Slots[first].Flow)
		x = dropOf(x, first)
		at = firstFree(x, homeOf(len(x.Slots), s.Flow))
	}
	slots := slices.Clone(x.Slots)
	slots[at] = s
	return impl.Table{Slots: slots}, gone
}

// mustLearn wants f to have that hint, and all others what they had, but for one where there was no room.
func mustLearn(t *testing.T, b impl.Bal, now int, f impl.Flow, id int) impl.Bal {
	t.Helper()
	s := impl.Slot{Used: true, Flow: f, Val: id, Until: now + impl.Life}
	x, gone := learntBy(b.Hints, s)
	want := impl.Bal{Journal: b.Journal, Pool: b.Pool, Hints: x}
	got, ok := impl.Learn(b, now, f, id)
	if !ok || !sameBal(got, want) || !impl.BalOk(got) {
		t.Fatalf("Learn(%v, %d, %v, %d) = %v, %v, not %v", b, now, f, id, got, ok, want)
	}
	if hint := impl.Hint(got, f); hint != id {
		t.Fatalf("Learn(%v, %d, %v, %d): the hint is %d", b, now, f, id, hint)
	}
	kept := keptIn(b.Hints)
	if soonest, _ := impl.Soonest(b.Hints); len(gone) > 0 && gone[0] != soonest.Flow {
		t.Fatalf("of %v, %v goes", b.Hints, gone)
	}
	for _, g := range gone {
		delete(kept, g)
	}
	kept[f] = s
	mustKeepJust(t, "Learn", got.Hints, len(b.Hints.Slots), kept)
	for _, g := range append(impl.FlowsOf(b.Hints), flow(9, 9)) {
		if g != f && !slices.Contains(gone, g) && impl.Hint(got, g) != impl.Hint(b, g) {
			t.Fatalf("Learn(%v, %d, %v, %d): the hint of %v is %d", b, now, f, id, g, impl.Hint(got, g))
		}
	}
	return got
}

func TestWhatIsLearntIsTheHint(t *testing.T) {
	for i, b := range goodBals() {
		for k, f := range newcomers(len(b.Hints.Slots)) {
			mustLearn(t, b, 7*k, f, (i+k)%impl.MaxBack)
		}
		for k, f := range impl.FlowsOf(b.Hints) {
			mustLearn(t, b, k, f, (i+k)%impl.MaxBack)
		}
	}
}

func TestWhatIsLearntInTablesOfEachShape(t *testing.T) {
	for _, x := range goodShapes(4) {
		b := balOf(noting(0, add(2, 5)), asHints(x))
		for _, f := range append(newcomers(len(x.Slots)), impl.FlowsOf(x)...) {
			mustLearn(t, b, 9, f, 3)
		}
		for bits := range 1 << len(x.Slots) {
			b.Hints = asHints(withUntils(x, bits))
			mustLearn(t, b, 9, named(len(x.Slots), 'z', 0), 3)
		}
	}
}

func TestLearnAtItsEdges(t *testing.T) {
	flows := append([]impl.Flow{mine, flow(0, 0), flow(65535, 65535), flow(0, 65535)}, badFlows()...)
	for _, b := range []impl.Bal{fourServe(), balOf(noting(0), asHints(fullTable(2, 1)))} {
		for _, now := range nowEdges {
			for _, id := range idEdges {
				for _, f := range flows {
					if now.in && id.in && impl.FlowOk(f) {
						mustLearn(t, b, now.n, f, id.n)
						continue
					}
					if got, ok := impl.Learn(b, now.n, f, id.n); ok || !sameBal(got, impl.Bal{}) {
						t.Fatalf("Learn(b, %d, %v, %d) = %v, %v", now.n, f, id.n, got, ok)
					}
				}
			}
		}
	}
}

func TestAHintLastsForItsLife(t *testing.T) {
	for _, now := range []int{0, 1, 99950, 100000} {
		b, _ := impl.Learn(fourServe(), now, mine, 5)
		if s, ok := impl.Get(b.Hints, mine); !ok || s != (impl.Slot{Used: true, Flow: mine, Val: 5, Until: now + 50}) {
			t.Fatalf("learnt at %d: %v, %v", now, s, ok)
		}
	}
}

func TestWhoGoesForWhatIsLearnt(t *testing.T) {
	for _, c := range []struct {
		why    string
		was    string
		letter byte
		home   int
		gone   string
	}{
		{"there is room", ". a1 b1 c2", 'z', 1, ""},
		{"there is room for one", "a0 b0 . c3", 'z', 3, ""},
		{"it is there, and there is room", "a0 . . c3", 'c', 3, ""},
		{"it is there, in a full table", "a0/3 b0/2 c0/1 d0/4", 'a', 0, ""},
		{"it is there and the soonest", "a0/3 b0/2 c0/1 d0/4", 'c', 0, ""},
		{"the first is the soonest", "a0/1 b1/2 c2/3 d3/4", 'z', 2, "a"},
		{"the last is the soonest", "a0/4 b1/3 c2/2 d3/1", 'z', 2, "d"},
		{"one between is the soonest", "a0/4 b1/1 c2/2 d3/3", 'z', 2, "b"},
		{"two are due alike", "a0/4 b1/2 c2/2 d3/3", 'z', 2, "b"},
		{"two are due alike, not in the order of their flows", "a0/4 c1/2 b2/2 d3/3", 'z', 2, "c"},
		{"all are due alike", "c0/2 b1/2 a2/2 d3/2", 'z', 3, "c"},
		{"all are due alike, far from home", "d3/2 c0/2 b1/2 a2/2", 'z', 3, "d"},
		{"all are due", "a0/0 b1/0 c2/0 d3/0", 'z', 3, "a"},
		{"one is never due", "a0/200000 b1/199999 c2/200000 d3/200000", 'z', 0, "b"},
		{"one slot", "a0", 'z', 0, "a"},
		{"one slot, its own", "a0", 'a', 0, ""},
	} {
		x := asHints(drawn(c.was))
		b := balOf(noting(0, add(2, 5)), x)
		f := named(len(x.Slots), c.letter, c.home)
		got := mustLearn(t, b, 30, f, 1)
		gone := ""
		for i, s := range drawn(c.was).Slots {
			if s.Used && impl.Hint(got, s.Flow) < 0 {
				gone += string(strings.Fields(c.was)[i][0])
			}
		}
		if gone != c.gone {
			t.Errorf("%s: %q go, not %q", c.why, gone, c.gone)
		}
	}
}

// mustBalTick wants just the hints to go that are due.
func mustBalTick(t *testing.T, b impl.Bal, now int) impl.Bal {
	t.Helper()
	x, n := expireOf(b.Hints, now)
	want := impl.Bal{Journal: b.Journal, Pool: b.Pool, Hints: x}
	got, went := impl.BalTick(b, now)
	if went != n || !sameBal(got, want) || !impl.BalOk(got) {
		t.Fatalf("BalTick(%v, %d) = %v, %d, not %v, %d", b, now, got, went, want, n)
	}
	mustKeepJust(t, "Hints behind a tick", got.Hints, len(b.Hints.Slots), notDue(b.Hints, now))
	for f, s := range keptIn(b.Hints) {
		if hint := impl.Hint(got, f); s.Until <= now && hint != -1 || s.Until > now && hint != s.Val {
			t.Fatalf("behind BalTick(%v, %d) the hint of %v is %d", b, now, f, hint)
		}
	}
	return got
}

func TestBalTickDropsJustWhatIsDue(t *testing.T) {
	for _, b := range goodBals() {
		nows := map[int]bool{0: true, 1: true, 25: true, 99999: true, 100000: true}
		for _, s := range keptIn(b.Hints) {
			for now := s.Until - 1; now <= s.Until+1; now++ {
				nows[min(max(now, 0), 100000)] = true
			}
		}
		for now := range nows {
			mustBalTick(t, b, now)
		}
	}
}

func TestBalTickWhateverIsDue(t *testing.T) {
	for _, x := range goodShapes(4) {
		b := balOf(noting(0), asHints(x))
		for bits := range 1 << len(x.Slots) {
			b.Hints = asHints(withUntils(x, bits))
			for now := 4; now <= 6; now++ {
				mustBalTick(t, b, now)
			}
		}
	}
}

// In a full table those that are left may move more than once, and the times have nothing to do with the slots.
func TestBalTickInTablesThatAreFull(t *testing.T) {
	draws := lot(5)
	for size := 2; size <= impl.MaxTable; size++ {
		for range 300 {
			x := impl.Table{Slots: make([]impl.Slot, size)}
			for at := range size {
				x.Slots[at] = slotNamed(size, byte('a'+at), draws.below(size))
				x.Slots[at].Until = 1 + draws.below(9)
			}
			mustBalTick(t, balOf(noting(0), asHints(x)), draws.below(10))
		}
	}
}

func TestBalTickAtItsEdges(t *testing.T) {
	for _, b := range someBals() {
		for _, now := range nowEdges {
			if now.in {
				mustBalTick(t, b, now.n)
				continue
			}
			if got, n := impl.BalTick(b, now.n); n != -1 || !sameBal(got, impl.Bal{}) {
				t.Fatalf("BalTick(b, %d) = %v, %d", now.n, got, n)
			}
		}
	}
}

func TestBalTickAtWhatIsDue(t *testing.T) {
	b := balOf(noting(0, add(2, 5)), hinting(4, 30, mine, strangers(1)[0]))
	for _, c := range []struct {
		now   int
		first bool
		next  bool
		n     int
	}{
		{0, true, true, 0}, {29, true, true, 0}, {30, false, true, 1}, {31, false, false, 2}, {32, false, false, 2}, {100000, false, false, 2},
	} {
		got, n := impl.BalTick(b, c.now)
		if n != c.n || (impl.Hint(got, mine) >= 0) != c.first || (impl.Hint(got, strangers(1)[0]) >= 0) != c.next {
			t.Errorf("at %d: %v, %d", c.now, got.Hints, n)
		}
	}
	never := balOf(noting(0), asHints(alone(impl.Slot{Used: true, Flow: mine, Val: 3, Until: 100001})))
	if got, n := impl.BalTick(never, 100000); n != 0 || !sameBal(got, never) {
		t.Errorf("what is due at 100001: %v, %d", got, n)
	}
}

func TestHintIsWhatIsKept(t *testing.T) {
	for _, b := range goodBals() {
		kept := keptIn(b.Hints)
		for _, f := range append(askedOf(b), newcomers(len(b.Hints.Slots))...) {
			want := -1
			if s, is := kept[f]; is {
				want = s.Val
			}
			if got := impl.Hint(b, f); got != want {
				t.Fatalf("Hint(%v, %v) = %d, not %d", b, f, got, want)
			}
		}
		for _, f := range badFlows() {
			if got := impl.Hint(b, f); got != -1 {
				t.Fatalf("Hint(%v, %v) = %d", b, f, got)
			}
		}
	}
}

func TestWhatIsNotUsedIsNobodysHint(t *testing.T) {
	for size := 1; size <= impl.MaxTable; size++ {
		b, _ := impl.BalNew(7, size)
		if hint := impl.Hint(b, flow(0, 0)); hint != -1 {
			t.Fatalf("of %d slots, 0:0 has the hint %d", size, hint)
		}
		b = mustLearn(t, b, 0, flow(0, 0), 0)
		if hint := impl.Hint(b, flow(0, 0)); hint != 0 {
			t.Fatalf("of %d slots, 0:0 learnt 0 and has %d", size, hint)
		}
	}
}
