package tests

import (
	"maps"
	"math"
	"slices"
	"strconv"
	"strings"
	"testing"

	"loop.example/g00607/impl"
)

var sizeEdges = []edge{{math.MinInt, false}, {-16, false}, {-1, false}, {0, false}, {1, true}, {2, true}, {impl.MaxTable - 1, true}, {impl.MaxTable, true}, {impl.MaxTable + 1, false}, {math.MaxInt, false}}

var valEdges = []edge{{math.MinInt, false}, {-1, false}, {0, true}, {1, true}, {99999, true}, {100000, true}, {100001, false}, {200000, false}, {math.MaxInt, false}}

var untilEdges = []edge{{math.MinInt, false}, {-1, false}, {0, true}, {1, true}, {100001, true}, {199999, true}, {200000, true}, {200001, false}, {math.MaxInt, false}}

// homeOf is the home of f among so many slots.
func homeOf(size int, f impl.Flow) int { return (31*f.Addr + f.Port) % size }

// named is the flow of a letter with a home among so many slots; no two letters have one flow.
func named(size int, letter byte, home int) impl.Flow {
	f := flow(int(letter-'a'), 0)
	for homeOf(size, f) != home {
		f.Port++
	}
	return f
}

// slotNamed is what the flow of a letter gets; the Until of a, b, c .. is 10, 20, 30 ..
func slotNamed(size int, letter byte, home int) impl.Slot {
	return impl.Slot{Used: true, Flow: named(size, letter, home), Val: 100 + int(letter), Until: 10 * (1 + int(letter-'a'))}
}

// drawn is the table of a picture: a word for each slot, a dot for one that is not Used, else
// a letter and its home, and its Until behind a stroke if it isn't that of slotNamed.
func drawn(picture string) impl.Table {
	words := strings.Fields(picture)
	x := impl.Table{Slots: make([]impl.Slot, len(words))}
	for at, word := range words {
		if word == "." {
			continue
		}
		place, until, told := strings.Cut(word[1:], "/")
		home, _ := strconv.Atoi(place)
		x.Slots[at] = slotNamed(len(words), word[0], home)
		if told {
			x.Slots[at].Until, _ = strconv.Atoi(until)
		}
	}
	return x
}

// letterIn is the flow of a letter that stands in a table.
func letterIn(t *testing.T, x impl.Table, letter byte) impl.Flow {
	t.Helper()
	for _, s := range x.Slots {
		if s.Used && s.Val == 100+int(letter) {
			return s.Flow
		}
	}
	t.Fatalf("%v has no %c", x, letter)
	return impl.Flow{}
}

func sameSlots(a impl.Table, b impl.Table) bool { return slices.Equal(a.Slots, b.Slots) }

// shapes are all tables of so many slots, each of them not Used or with a flow of any home:
// also those where a way ends elsewhere.
func shapes(size int) []impl.Table {
	all := []impl.Table{{}}
	for at := range size {
		var longer []impl.Table
		for _, x := range all {
			longer = append(longer, impl.Table{Slots: append(slices.Clip(x.Slots), impl.Slot{})})
			for home := range size {
				s := slotNamed(size, byte('a'+at), home)
				longer = append(longer, impl.Table{Slots: append(slices.Clip(x.Slots), s)})
			}
		}
		all = longer
	}
	return all
}

// waysEnd tells whether nothing between the home of each flow and its slot is free.
func waysEnd(x impl.Table) bool {
	size := len(x.Slots)
	for at, s := range x.Slots {
		if !s.Used {
			continue
		}
		for i := homeOf(size, s.Flow); i != at; i = (i + 1) % size {
			if !x.Slots[i].Used {
				return false
			}
		}
	}
	return true
}

// goodShapes are all shapes of up to so many slots that are tables.
func goodShapes(most int) []impl.Table {
	var all []impl.Table
	for size := 1; size <= most; size++ {
		for _, x := range shapes(size) {
			if waysEnd(x) {
				all = append(all, x)
			}
		}
	}
	return all
}

// fullTable has so many slots, all Used, each flow so many slots away from its home.
func fullTable(size int, away int) impl.Table {
	x := impl.Table{Slots: make([]impl.Slot, size)}
	for at := range size {
		x.Slots[at] = slotNamed(size, byte('a'+at), (at+size-away%size)%size)
	}
	return x
}

// goodTables are tables at and between all limits.
func goodTables() []impl.Table {
	all := goodShapes(3)
	for size := 1; size <= impl.MaxTable; size++ {
		all = append(all, impl.Table{Slots: make([]impl.Slot, size)}, fullTable(size, 0), fullTable(size, 1), fullTable(size, size/2), fullTable(size, size-1))
	}
	for _, picture := range pictures {
		all = append(all, drawn(picture))
	}
	for _, f := range []impl.Flow{flow(0, 0), flow(65535, 65535)} {
		all = append(all, alone(impl.Slot{Used: true, Flow: f}), alone(impl.Slot{Used: true, Flow: f, Val: 100000, Until: 200000}))
	}
	return all
}

// alone is a table of one slot.
func alone(s impl.Slot) impl.Table { return impl.Table{Slots: []impl.Slot{s}} }

var pictures = []string{
	". a1 b1 c2", "b3 c3 . a3", "b3 . . a3", "a0 b0 . . c4 d4", "c5 d5 e0 . . a5",
	". . . . a4 b4 c5 d4 e8 f8 . . . . . .", "d15 e15 f0 . . . . . . . . . . a13 b13 c14",
}

// badTables are tables of which one thing alone is wrong.
func badTables() map[string]impl.Table {
	many := impl.Table{Slots: make([]impl.Slot, impl.MaxTable+1)}
	bad := map[string]impl.Table{
		"the zero value":                    {},
		"an empty list":                     {Slots: []impl.Slot{}},
		"one slot too many":                 many,
		"one slot too many, full":           fullTable(impl.MaxTable+1, 0),
		"very many slots":                   {Slots: make([]impl.Slot, 1000)},
		"it stands behind a hole":           drawn(". . a1 ."),
		"it stands ahead of its home":       drawn(". a2 . ."),
		"a hole is on the way":              drawn("a0 . b0 ."),
		"a hole is on a long way":           drawn("a0 b0 . c0 d0 ."),
		"a hole is at the home":             drawn(". a1 b0 ."),
		"a hole at the end of the list":     drawn("a3 . . ."),
		"a hole behind the end of the list": drawn(". a3 . b3"),
		"all but its home are Used":         drawn("a2 b1 . c3"),
		"one flow twice":                    drawn(". a1 a1 ."),
		"one flow twice, other between":     drawn(". a1 b1 a1"),
		"one flow twice, from last on":      drawn("a3 . . a3"),
		"one flow twice, a hole between":    drawn(". a1 . a1"),
		"one flow in all slots":             drawn("a1 a1 a1"),
		"one flow twice in what is full":    drawn("a0 b1 c2 a0"),
	}
	twice := drawn("a0 a0 b2")
	twice.Slots[1].Val, twice.Slots[1].Until = 0, 7
	bad["one flow twice, not the same kept"] = twice
	for why, s := range badSlots() {
		bad["alone: "+why] = alone(s)
		for at := range 3 {
			x := drawn("a0 b1 c2")
			x.Slots[at] = s
			bad["place "+strconv.Itoa(at)+": "+why] = x
		}
		x := impl.Table{Slots: make([]impl.Slot, impl.MaxTable)}
		x.Slots[impl.MaxTable-1] = s
		bad["last: "+why] = x
	}
	return bad
}

// badSlots are slots of which one thing alone is wrong; the good rest of those that are Used
// is at home in the slot of a table of one.
func badSlots() map[string]impl.Slot {
	bad := map[string]impl.Slot{
		"not Used, with Addr":      {Flow: flow(1, 0)},
		"not Used, with Port":      {Flow: flow(0, 1)},
		"not Used, with Val":       {Val: 1},
		"not Used, with Until":     {Until: 1},
		"not Used, Addr below 0":   {Flow: flow(-1, 0)},
		"not Used, Port below 0":   {Flow: flow(0, -1)},
		"not Used, Val below 0":    {Val: -1},
		"not Used, Until below 0":  {Until: -1},
		"not Used, else all of it": {Flow: flow(1, 2), Val: 3, Until: 4},
	}
	for _, f := range badFlows() {
		name := strconv.Itoa(f.Addr) + ":" + strconv.Itoa(f.Port)
		bad["flow "+name] = impl.Slot{Used: true, Flow: f, Val: 1, Until: 1}
	}
	for _, val := range valEdges {
		if !val.in {
			bad["Val "+strconv.Itoa(val.n)] = impl.Slot{Used: true, Flow: flow(3, 3), Val: val.n, Until: 1}
		}
	}
	for _, until := range untilEdges {
		if !until.in {
			bad["Until "+strconv.Itoa(until.n)] = impl.Slot{Used: true, Flow: flow(3, 3), Val: 1, Until: until.n}
		}
	}
	return bad
}

// badFlows are not FlowOk by one of their numbers alone.
func badFlows() []impl.Flow {
	var all []impl.Flow
	for _, e := range wordEdges {
		if !e.in {
			all = append(all, flow(e.n, 3), flow(3, e.n))
		}
	}
	return all
}

// keptIn is what each flow has to get, by the slots themselves.
func keptIn(x impl.Table) map[impl.Flow]impl.Slot {
	kept := map[impl.Flow]impl.Slot{}
	for _, s := range x.Slots {
		if s.Used {
			kept[s.Flow] = s
		}
	}
	return kept
}

// mustKeepJust wants x to be TableOk, of so many slots, and to give each flow what is kept,
// and no other flow anything.
func mustKeepJust(t *testing.T, why string, x impl.Table, size int, kept map[impl.Flow]impl.Slot) {
	t.Helper()
	if !impl.TableOk(x) || len(x.Slots) != size {
		t.Fatalf("%s: %v is no table of %d slots", why, x, size)
	}
	for f, want := range kept {
		if s, ok := impl.Get(x, f); !ok || s != want {
			t.Fatalf("%s: of %v, %v gets %v, %v, not %v", why, x, f, s, ok, want)
		}
	}
	if !maps.Equal(keptIn(x), kept) || impl.CountOf(x) != len(kept) {
		t.Fatalf("%s: %v keeps not just %v", why, x, kept)
	}
	if l := impl.FlowsOf(x); !slices.Equal(l, ascending(kept)) {
		t.Fatalf("%s: %v has the flows %v", why, x, l)
	}
}

// ascending are the flows of what is kept, by Addr, then Port.
func ascending(kept map[impl.Flow]impl.Slot) []impl.Flow {
	return slices.SortedFunc(maps.Keys(kept), func(a impl.Flow, b impl.Flow) int {
		return (a.Addr-b.Addr)*65536 + a.Port - b.Port
	})
}

// newcomers are flows with each home among so many slots that no letter has.
func newcomers(size int) []impl.Flow {
	var all []impl.Flow
	for home := range size {
		all = append(all, named(size, 'z', home))
	}
	return all
}

func TestConstantsOfTables(t *testing.T) {
	if impl.MaxTable != 16 {
		t.Fatal("a constant is not as the document has it")
	}
}

func TestTableNewAtItsEdges(t *testing.T) {
	for _, size := range sizeEdges {
		x, ok := impl.TableNew(size.n)
		if ok != size.in || !ok && !sameSlots(x, impl.Table{}) {
			t.Fatalf("TableNew(%d) = %v, %v", size.n, x, ok)
		}
	}
}

func TestTableNewHasSoManyFreeSlots(t *testing.T) {
	for size := 1; size <= impl.MaxTable; size++ {
		x, ok := impl.TableNew(size)
		if !ok || !sameSlots(x, impl.Table{Slots: make([]impl.Slot, size)}) {
			t.Fatalf("TableNew(%d) = %v, %v", size, x, ok)
		}
		mustKeepJust(t, "TableNew", x, size, nil)
		for _, f := range append(newcomers(size), flow(0, 0)) {
			if s, ok := impl.Get(x, f); ok || s != (impl.Slot{}) {
				t.Fatalf("%v gets %v of an empty table", f, s)
			}
		}
	}
}

func TestTableOkWithinItsLimits(t *testing.T) {
	for _, x := range goodTables() {
		if !impl.TableOk(x) {
			t.Errorf("%v is refused", x)
		}
	}
	for why, x := range badTables() {
		if impl.TableOk(x) {
			t.Errorf("%s is accepted: %v", why, x)
		}
	}
}

func TestTableOkOfEachShape(t *testing.T) {
	for size := 1; size <= 5; size++ {
		for _, x := range shapes(size) {
			if impl.TableOk(x) != waysEnd(x) {
				t.Fatalf("TableOk(%v) = %v", x, !waysEnd(x))
			}
		}
	}
}

func TestTableOkOfEachNumber(t *testing.T) {
	for _, val := range valEdges {
		for _, until := range untilEdges {
			for _, addr := range wordEdges {
				for _, port := range wordEdges {
					x := alone(impl.Slot{Used: true, Flow: flow(addr.n, port.n), Val: val.n, Until: until.n})
					if want := val.in && until.in && addr.in && port.in; impl.TableOk(x) != want {
						t.Fatalf("TableOk(%v) = %v", x, !want)
					}
				}
			}
		}
	}
}

func TestTableOkTakesAFlowAtItsHomeAlone(t *testing.T) {
	for size := 1; size <= impl.MaxTable; size++ {
		for home := range size {
			for at := range size {
				x := impl.Table{Slots: make([]impl.Slot, size)}
				x.Slots[at] = slotNamed(size, 'c', home)
				if impl.TableOk(x) != (at == home) {
					t.Fatalf("of %d slots, home %d, it stands at %d: %v", size, home, at, at != home)
				}
			}
		}
	}
}

func TestHomeOfKnownFlows(t *testing.T) {
	for _, c := range []struct {
		size int
		f    impl.Flow
		want int
	}{
		{1, flow(0, 0), 0}, {1, flow(258, 80), 0}, {1, flow(65535, 65535), 0},
		{2, flow(1, 0), 1}, {2, flow(1, 1), 0}, {4, flow(0, 5), 1}, {4, flow(1, 0), 3}, {4, flow(1, 1), 0},
		{5, flow(258, 80), 3}, {7, flow(258, 80), 0}, {16, flow(258, 80), 14}, {16, flow(80, 258), 2},
		{16, flow(0, 15), 15}, {16, flow(0, 16), 0}, {16, flow(1, 0), 15}, {16, flow(65535, 0), 1},
		{16, flow(0, 65535), 15}, {16, flow(65535, 65535), 0}, {13, flow(65535, 65535), 12}, {11, flow(65535, 65535), 3},
	} {
		x, _ := impl.TableNew(c.size)
		if got := impl.Home(x, c.f); got != c.want {
			t.Errorf("Home of %v among %d = %d, not %d", c.f, c.size, got, c.want)
		}
		if got := impl.Home(fullTable(c.size, 1), c.f); got != c.want {
			t.Errorf("Home of %v among %d that are Used = %d, not %d", c.f, c.size, got, c.want)
		}
	}
}

func TestGetTellsTheSlotWhereverItStands(t *testing.T) {
	for _, x := range append(goodTables(), goodShapes(4)...) {
		size := len(x.Slots)
		mustKeepJust(t, "Get", x, size, keptIn(x))
		for _, f := range newcomers(size) {
			if s, ok := impl.Get(x, f); ok || s != (impl.Slot{}) {
				t.Fatalf("of %v, %v, that is not there, gets %v, %v", x, f, s, ok)
			}
		}
	}
}

func TestWhatIsNotUsedIsNobodysOwn(t *testing.T) {
	for size := 1; size <= impl.MaxTable; size++ {
		x, _ := impl.TableNew(size)
		if _, ok := impl.Get(x, flow(0, 0)); ok {
			t.Fatalf("of %d free slots, 0:0 has one", size)
		}
		if y, ok := impl.Drop(x, flow(0, 0)); ok || !sameSlots(x, y) {
			t.Fatalf("of %d free slots, 0:0 is dropped", size)
		}
		y, ok := impl.Put(x, flow(0, 0), 0, 0)
		if !ok || y.Slots[0] != (impl.Slot{Used: true}) || impl.CountOf(y) != 1 {
			t.Fatalf("0:0 is put: %v, %v", y, ok)
		}
		if s, ok := impl.Get(y, flow(0, 0)); !ok || s != (impl.Slot{Used: true}) {
			t.Fatalf("0:0 gets %v, %v", s, ok)
		}
		if z, ok := impl.Drop(y, flow(0, 0)); !ok || !sameSlots(z, x) {
			t.Fatalf("0:0 is dropped: %v, %v", z, ok)
		}
	}
}

// firstFree is the first slot that is not Used from a home on; -1, if there is none.
func firstFree(x impl.Table, home int) int {
	for i := range x.Slots {
		if at := (home + i) % len(x.Slots); !x.Slots[at].Used {
			return at
		}
	}
	return -1
}

// mustPut wants what a Put that can be done has to leave: all slots as they were but that at a place.
func mustPut(t *testing.T, x impl.Table, s impl.Slot, at int) {
	t.Helper()
	want := impl.Table{Slots: slices.Clone(x.Slots)}
	want.Slots[at] = s
	got, ok := impl.Put(x, s.Flow, s.Val, s.Until)
	if !ok || !sameSlots(got, want) {
		t.Fatalf("%v put into %v: %v, %v", s, x, got, ok)
	}
	kept := keptIn(x)
	kept[s.Flow] = s
	mustKeepJust(t, "Put", got, len(x.Slots), kept)
}

func TestWhatIsPutIsGot(t *testing.T) {
	for _, x := range append(goodTables(), goodShapes(4)...) {
		for home, f := range newcomers(len(x.Slots)) {
			at := firstFree(x, home)
			if at >= 0 {
				mustPut(t, x, impl.Slot{Used: true, Flow: f, Val: 7, Until: 9}, at)
				continue
			}
			if got, ok := impl.Put(x, f, 7, 9); ok || !sameSlots(got, x) {
				t.Fatalf("%v put into %v, which is full: %v, %v", f, x, got, ok)
			}
		}
	}
}

func TestPutOfOneThatIsThere(t *testing.T) {
	for _, x := range append(goodTables(), goodShapes(4)...) {
		for at, s := range x.Slots {
			if !s.Used {
				continue
			}
			mustPut(t, x, s, at)
			mustPut(t, x, impl.Slot{Used: true, Flow: s.Flow, Val: 100000, Until: 0}, at)
			mustPut(t, x, impl.Slot{Used: true, Flow: s.Flow, Val: 0, Until: 200000}, at)
		}
	}
}

func TestPutOfKnownTables(t *testing.T) {
	for _, c := range []struct {
		was    string
		letter byte
		home   int
		is     string
	}{
		{".", 'b', 0, "b0"},
		{". . . .", 'b', 2, ". . b2 ."},
		{". a1 . .", 'b', 1, ". a1 b1 ."},
		{". a1 . .", 'b', 2, ". a1 b2 ."},
		{". . . a3", 'b', 3, "b3 . . a3"},
		{"c3 . . a3", 'b', 3, "c3 b3 . a3"},
		{"c0 . d2 a3", 'b', 2, "c0 b2 d2 a3"},
		{"c0 d1 e2 .", 'b', 0, "c0 d1 e2 b0"},
		{". d1 e2 a3", 'b', 1, "b1 d1 e2 a3"},
	} {
		was, want := drawn(c.was), drawn(c.is)
		s := slotNamed(len(was.Slots), c.letter, c.home)
		if got, ok := impl.Put(was, s.Flow, s.Val, s.Until); !ok || !sameSlots(got, want) {
			t.Errorf("%c%d put into %q: %v, %v, not %q", c.letter, c.home, c.was, got, ok, c.is)
		}
	}
}

func TestPutAtTheEdgesOfItsNumbers(t *testing.T) {
	for _, x := range []impl.Table{drawn("."), drawn("a0"), drawn(". a1 b1 c2"), fullTable(impl.MaxTable, 3)} {
		for _, f := range []impl.Flow{x.Slots[len(x.Slots)-1].Flow, named(len(x.Slots), 'z', 0)} {
			for _, val := range valEdges {
				for _, until := range untilEdges {
					got, ok := impl.Put(x, f, val.n, until.n)
					if !val.in || !until.in {
						if ok || !sameSlots(got, impl.Table{}) {
							t.Fatalf("Put(%v, %v, %d, %d) = %v, %v", x, f, val.n, until.n, got, ok)
						}
						continue
					}
					s, is := impl.Get(got, f)
					if is != ok || ok && s != (impl.Slot{Used: true, Flow: f, Val: val.n, Until: until.n}) || !ok && !sameSlots(got, x) {
						t.Fatalf("Put(%v, %v, %d, %d) = %v, %v", x, f, val.n, until.n, got, ok)
					}
				}
			}
		}
	}
}

func TestATableOfOneSlot(t *testing.T) {
	x, _ := impl.TableNew(1)
	x, ok := impl.Put(x, flow(1, 1), 5, 6)
	if !ok || !sameSlots(x, alone(impl.Slot{Used: true, Flow: flow(1, 1), Val: 5, Until: 6})) {
		t.Fatal(x, ok)
	}
	if y, ok := impl.Put(x, flow(1, 2), 7, 8); ok || !sameSlots(x, y) {
		t.Fatal(y, ok)
	}
	if y, ok := impl.Put(x, flow(1, 1), 7, 8); !ok || !sameSlots(y, alone(impl.Slot{Used: true, Flow: flow(1, 1), Val: 7, Until: 8})) {
		t.Fatal(y, ok)
	}
	if y, ok := impl.Drop(x, flow(1, 2)); ok || !sameSlots(x, y) {
		t.Fatal(y, ok)
	}
	if y, ok := impl.Drop(x, flow(1, 1)); !ok || !sameSlots(y, alone(impl.Slot{})) {
		t.Fatal(y, ok)
	}
	if y, n := impl.Expire(x, 5); n != 0 || !sameSlots(x, y) {
		t.Fatal(y, n)
	}
	if y, n := impl.Expire(x, 6); n != 1 || !sameSlots(y, alone(impl.Slot{})) {
		t.Fatal(y, n)
	}
}

// mustRefuse wants of the four functions that take a flow what is told where t or f is not as it should be.
func mustRefuse(t *testing.T, why string, x impl.Table, f impl.Flow) {
	t.Helper()
	if got := impl.Home(x, f); got != -1 {
		t.Errorf("%s: Home tells %d", why, got)
	}
	if s, ok := impl.Get(x, f); ok || s != (impl.Slot{}) {
		t.Errorf("%s: Get tells %v, %v", why, s, ok)
	}
	if y, ok := impl.Put(x, f, 1, 1); ok || !sameSlots(y, impl.Table{}) {
		t.Errorf("%s: Put tells %v, %v", why, y, ok)
	}
	if y, ok := impl.Drop(x, f); ok || !sameSlots(y, impl.Table{}) {
		t.Errorf("%s: Drop tells %v, %v", why, y, ok)
	}
}

func TestNoTableHasOneFixedAnswer(t *testing.T) {
	for why, x := range badTables() {
		flows := append([]impl.Flow{flow(0, 0), flow(1, 2), flow(65535, 65535)}, badFlows()...)
		for _, s := range x.Slots[:min(len(x.Slots), 20)] {
			flows = append(flows, s.Flow)
		}
		for _, f := range flows {
			mustRefuse(t, why, x, f)
		}
		for _, now := range []int{math.MinInt, -1, 0, 30, 200001, math.MaxInt} {
			if y, n := impl.Expire(x, now); n != -1 || !sameSlots(y, impl.Table{}) {
				t.Errorf("%s: Expire tells %v, %d", why, y, n)
			}
		}
		if n := impl.CountOf(x); n != -1 {
			t.Errorf("%s: CountOf tells %d", why, n)
		}
		if l := impl.FlowsOf(x); len(l) != 0 {
			t.Errorf("%s: FlowsOf tells %v", why, l)
		}
		if s, ok := impl.Soonest(x); ok || s != (impl.Slot{}) {
			t.Errorf("%s: Soonest tells %v, %v", why, s, ok)
		}
	}
}

func TestNoFlowHasOneFixedAnswer(t *testing.T) {
	for _, x := range goodTables() {
		for _, f := range badFlows() {
			mustRefuse(t, "a flow", x, f)
		}
	}
}
