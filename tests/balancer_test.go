package tests

import (
	"math"
	"slices"
	"strconv"
	"testing"

	"loop.example/g00607/impl"
)

func sameBal(a impl.Bal, b impl.Bal) bool {
	return sameJournal(a.Journal, b.Journal) && samePool(a.Pool, b.Pool) && sameSlots(a.Hints, b.Hints)
}

// modelOf is what the commands of a journal come to, each of which is PoolCmdOk.
func modelOf(j impl.Journal) poolModel {
	m := newModel(j.Key)
	for _, c := range j.L {
		m, _ = m.done(c)
	}
	return m
}

// balOf is a balancer of a journal, with hints.
func balOf(j impl.Journal, x impl.Table) impl.Bal {
	return impl.Bal{Journal: j, Pool: modelOf(j).pool(), Hints: x}
}

// noting is a journal of key 7 of which the first so many are Safe.
func noting(safe int, cmds ...impl.PoolCmd) impl.Journal {
	return impl.Journal{Key: 7, L: cmds, Safe: safe}
}

// asHints is x with a Val that a hint may have, wherever the Val is one that a table may have.
func asHints(x impl.Table) impl.Table {
	slots := slices.Clone(x.Slots)
	for at, s := range slots {
		if s.Used && s.Val >= 0 && s.Val <= 100000 {
			slots[at].Val %= impl.MaxBack
		}
	}
	return impl.Table{Slots: slots}
}

// hinting is a table of so many slots with flows, each with a hint of its own, until a time of its own from one on.
func hinting(size int, until int, flows ...impl.Flow) impl.Table {
	return asHints(keeping(size, until, flows...))
}

// goodHints are tables of hints at and between all limits.
func goodHints() []impl.Table {
	all := goodTables()
	for i := range all {
		all[i] = asHints(all[i])
	}
	return all
}

// someBals are few: with nobody and with all, with no hint, some, and no room.
func someBals() []impl.Bal {
	all := []impl.Bal{fourServe()}
	journals := []impl.Journal{{}, noting(1, add(2, 5)), noting(0, add(2, 5), drain(2)), noting(1, add(2, 5), add(1, 1)), longJournal(mostNoted - 1), longJournal(mostNoted)}
	for i, key := range someKeys {
		journals = append(journals, impl.Journal{Key: key, L: walk(key, i+40, 3*i), Safe: i})
	}
	for i, j := range journals {
		size := 1 + 3*i%impl.MaxTable
		for _, n := range []int{0, size / 2, size} {
			all = append(all, balOf(j, hinting(size, 10, append([]impl.Flow{mine}, strangers(size)...)[:n]...)))
		}
	}
	return all
}

// goodBals have all journals and all tables that may be.
func goodBals() []impl.Bal {
	all, tables := someBals(), goodHints()
	for i, j := range goodJournals() {
		all = append(all, balOf(j, tables[i%len(tables)]))
	}
	for i, x := range tables {
		all = append(all, balOf(noting(i%2, add(i%impl.MaxBack, 5), drain(i%impl.MaxBack), add((i+1)%impl.MaxBack, 9)), x))
	}
	return all
}

// fourServe has Epochs tables, no two of which are alike, half of its commands Safe, and hints.
func fourServe() impl.Bal {
	return balOf(noting(2, add(1, 1), add(2, 5), add(4, 2), remove(2)), asHints(drawn(". a1 b1 c2")))
}

func changedBal(b impl.Bal, change func(b *impl.Bal)) impl.Bal {
	change(&b)
	return b
}

// badBals are balancers of which one thing alone is wrong.
func badBals() map[string]impl.Bal {
	good := fourServe()
	bad := map[string]impl.Bal{
		"the zero value":         {},
		"all but a table":        {Journal: good.Journal, Pool: good.Pool},
		"all but a pool":         {Journal: good.Journal, Hints: good.Hints},
		"all but a journal":      {Pool: good.Pool, Hints: good.Hints},
		"one command more":       changedBal(good, func(b *impl.Bal) { b.Journal.L = append(slices.Clip(b.Journal.L), weigh(1, 1)) }),
		"one command fewer":      changedBal(good, func(b *impl.Bal) { b.Journal.L = b.Journal.L[:3] }),
		"a journal of other Key": changedBal(good, func(b *impl.Bal) { b.Journal.Key = 8 }),
	}
	for why, j := range badJournals() {
		bad["Journal, no pool: "+why] = impl.Bal{Journal: j, Hints: good.Hints}
		if !slices.ContainsFunc(j.L, func(c impl.PoolCmd) bool { return !impl.PoolCmdOk(c) }) {
			bad["Journal: "+why] = balOf(j, good.Hints)
		}
	}
	for why, x := range badTables() {
		bad["Hints: "+why] = changedBal(good, func(b *impl.Bal) { b.Hints = asHints(x) })
	}
	for _, val := range []int{impl.MaxBack, impl.MaxBack + 1, 258, 100000} {
		for at := 1; at < len(good.Hints.Slots); at++ {
			x := asHints(good.Hints)
			x.Slots[at].Val = val
			bad["Val "+strconv.Itoa(val)+" in slot "+strconv.Itoa(at)] = changedBal(good, func(b *impl.Bal) { b.Hints = x })
		}
	}
	for why, b := range otherPools() {
		bad["Pool: "+why] = b
	}
	for why, p := range badPools() {
		bad["no Pool: "+why] = changedBal(good, func(b *impl.Bal) { b.Pool = p })
	}
	return bad
}

// withPool is a balancer of commands whose pool was changed behind that, and is a pool that may be still.
func withPool(change func(p *impl.Pool), cmds ...impl.PoolCmd) impl.Bal {
	b := balOf(noting(0, cmds...), hinting(2, 9, mine))
	change(&b.Pool)
	return b
}

// otherPools are balancers with a good pool that is not the one that their journal tells.
func otherPools() map[string]impl.Bal {
	four := fourServe().Journal.L
	bad := map[string]impl.Bal{
		"another Key":             withPool(func(p *impl.Pool) { p.Key = 8 }),
		"another Key of one":      withPool(func(p *impl.Pool) { p.Key = 999999 }, add(2, 5)),
		"another Weight":          withPool(func(p *impl.Pool) { p.Backs[0].Weight = 6 }, add(2, 5)),
		"another Id":              withPool(func(p *impl.Pool) { p.Backs[0].Id = 3 }, add(2, 5), drain(2)),
		"one more that drains":    withPool(func(p *impl.Pool) { p.Backs = append(p.Backs, drained(3, 1)) }, add(2, 5)),
		"one fewer that drained":  withPool(func(p *impl.Pool) { p.Backs = p.Backs[:1] }, add(2, 5), add(3, 5), drain(3)),
		"nobody, where one did":   withPool(func(p *impl.Pool) { p.Backs = nil }, add(2, 5), drain(2)),
		"a third table":           withPool(func(p *impl.Pool) { p.Ring = append(p.Ring, tableOfPairs()) }, add(2, 5)),
		"a second table":          withPool(func(p *impl.Pool) { p.Ring = append(p.Ring, tableOfPairs()) }),
		"no third table":          withPool(func(p *impl.Pool) { p.Ring = p.Ring[:2] }, four...),
		"one table alone":         withPool(func(p *impl.Pool) { p.Ring = p.Ring[:1] }, four...),
		"tables in another order": withPool(func(p *impl.Pool) { p.Ring[1], p.Ring[2] = p.Ring[2], p.Ring[1] }, four...),
		"the pool of fewer":       withPool(func(p *impl.Pool) { *p = modelOf(noting(0, four[:3]...)).pool() }, four...),
	}
	one := withPool(func(p *impl.Pool) { p.Backs[1].Drain, p.Ring[0] = true, tableOfPairs(1, 1) }, four...)
	bad["one drains"] = one
	for place := 1; place < impl.Epochs; place++ {
		for bucket := range impl.Buckets {
			at := " in bucket " + strconv.Itoa(bucket) + " of table " + strconv.Itoa(place)
			bad["turned round"+at] = withPool(func(p *impl.Pool) { slices.Reverse(p.Ring[place][bucket]) }, four...)
			bad["nobody"+at] = withPool(func(p *impl.Pool) { p.Ring[place][bucket] = nil }, four...)
			bad["others"+at] = withPool(func(p *impl.Pool) { p.Ring[place][bucket] = []int{5, 0} }, four...)
		}
	}
	return bad
}

func TestBalOkWithinItsLimits(t *testing.T) {
	for _, b := range goodBals() {
		if !impl.BalOk(b) {
			t.Errorf("%v is refused", b)
		}
	}
	for why, b := range badBals() {
		if impl.BalOk(b) {
			t.Errorf("%s is accepted: %v", why, b)
		}
	}
}

func TestAPoolMayBeAndNotBeTheOneThatIsTold(t *testing.T) {
	for why, b := range otherPools() {
		if !impl.PoolOk(b.Pool) || !impl.JournalOk(b.Journal) || !impl.TableOk(b.Hints) || impl.BalOk(b) {
			t.Errorf("%s: %v %v", why, impl.PoolOk(b.Pool), impl.BalOk(b))
		}
	}
}

func TestBalOkOfEachHint(t *testing.T) {
	for _, size := range []int{1, 2, impl.MaxTable} {
		for at := range size {
			for _, val := range []edge{{math.MinInt, false}, {-1, false}, {0, true}, {1, true}, {impl.MaxBack - 1, true}, {impl.MaxBack, false}, {impl.MaxBack + 1, false}, {100000, false}, {math.MaxInt, false}} {
				b := balOf(noting(0, add(2, 5)), asHints(fullTable(size, 1)))
				b.Hints.Slots[at].Val = val.n
				if got := impl.BalOk(b); got != val.in {
					t.Errorf("slot %d of %d, Val %d: %v", at, size, val.n, got)
				}
			}
		}
	}
}

func TestAnEmptyListAndNilAreTheSamePool(t *testing.T) {
	b := balOf(noting(0), hinting(1, 9))
	b.Journal.L, b.Pool.Backs = []impl.PoolCmd{}, []impl.Back{}
	for bucket := range impl.Buckets {
		b.Pool.Ring[0][bucket] = [][]int{nil, {}}[bucket%2]
	}
	if !impl.BalOk(b) {
		t.Fatalf("%v is refused", b)
	}
}

func TestBalNewAtItsEdges(t *testing.T) {
	for _, key := range keyEdges {
		for _, size := range sizeEdges {
			want := impl.Bal{}
			if key.in && size.in {
				want = impl.Bal{Journal: impl.Journal{Key: key.n}, Pool: newModel(key.n).pool(), Hints: impl.Table{Slots: make([]impl.Slot, size.n)}}
			}
			b, ok := impl.BalNew(key.n, size.n)
			if ok != (key.in && size.in) || !sameBal(b, want) || impl.BalOk(b) != ok {
				t.Errorf("BalNew(%d, %d) = %v, %v", key.n, size.n, b, ok)
			}
		}
	}
}

// mustCommand wants a command to be done and noted, or b as it was where it can't be.
func mustCommand(t *testing.T, b impl.Bal, m poolModel, c impl.PoolCmd) (impl.Bal, bool) {
	t.Helper()
	next, can := m.done(c)
	can = can && len(b.Journal.L) < mostNoted
	want := b
	if can {
		l := append(slices.Clone(b.Journal.L), c)
		want = impl.Bal{Journal: impl.Journal{Key: b.Journal.Key, L: l, Safe: len(l)}, Pool: next.pool(), Hints: b.Hints}
	}
	got, ok := impl.BalCmd(b, c)
	if ok != can || !sameBal(got, want) || !impl.BalOk(got) {
		t.Fatalf("BalCmd(%v, %v) = %v, %v, not %v, %v", b, c, got, ok, want, can)
	}
	return got, ok
}

func TestACommandIsDoneAndNoted(t *testing.T) {
	for i, b := range goodBals() {
		m := modelOf(b.Journal)
		for k, c := range allCmds() {
			if i%4 == k%4 {
				mustCommand(t, b, m, c)
			}
		}
	}
}

func TestCommandsOneBehindTheOther(t *testing.T) {
	for i, key := range someKeys {
		b, ok := impl.BalNew(key, 1+i)
		for n, c := range walk(key, i+70, mostNoted) {
			b, ok = mustCommand(t, b, modelOf(b.Journal), c)
			if !ok || len(b.Journal.L) != n+1 || b.Journal.Safe != n+1 || len(b.Pool.Ring) != min(n+2, impl.Epochs) {
				t.Fatalf("behind %d commands: %v", n+1, b)
			}
		}
	}
}

func TestCommandsOfEachKindToABalancer(t *testing.T) {
	b := balOf(noting(1, add(1, 1), add(2, 5), drain(2)), hinting(2, 9, mine))
	for _, c := range []struct {
		why  string
		c    impl.PoolCmd
		ok   bool
		left []impl.Back
	}{
		{"one comes", add(4, 9), true, []impl.Back{back(1, 1), drained(2, 5), back(4, 9)}},
		{"one comes that is there", add(1, 9), false, []impl.Back{back(1, 1), drained(2, 5)}},
		{"one comes that is there just so", add(1, 1), false, []impl.Back{back(1, 1), drained(2, 5)}},
		{"one comes that drains", add(2, 5), false, []impl.Back{back(1, 1), drained(2, 5)}},
		{"one is weighed", weigh(1, 100), true, []impl.Back{back(1, 100), drained(2, 5)}},
		{"one is weighed as it was", weigh(1, 1), true, []impl.Back{back(1, 1), drained(2, 5)}},
		{"one is weighed that is not there", weigh(4, 1), false, []impl.Back{back(1, 1), drained(2, 5)}},
		{"one drains", drain(1), true, []impl.Back{drained(1, 1), drained(2, 5)}},
		{"one drains that does", drain(2), true, []impl.Back{back(1, 1), drained(2, 5)}},
		{"one drains that is not there", drain(0), false, []impl.Back{back(1, 1), drained(2, 5)}},
		{"one goes", remove(1), true, []impl.Back{drained(2, 5)}},
		{"one goes that is not there", remove(5), false, []impl.Back{back(1, 1), drained(2, 5)}},
	} {
		got, ok := mustCommand(t, b, modelOf(b.Journal), c.c)
		if ok != c.ok || !slices.Equal(got.Pool.Backs, c.left) || !ok && !sameBal(got, b) {
			t.Errorf("%s: %v, %v", c.why, got, ok)
		}
		if ok && (!slices.Equal(got.Journal.L, append(slices.Clone(b.Journal.L), c.c)) || got.Journal.Safe != 4) {
			t.Errorf("%s: noted as %v", c.why, got.Journal)
		}
	}
}

func TestAsManyCommandsAsAJournalTakes(t *testing.T) {
	for _, safe := range []int{0, 50, mostNoted - 1} {
		j := longJournal(mostNoted - 1)
		j.Safe = safe
		b, ok := impl.BalCmd(balOf(j, hinting(2, 9, mine)), weigh(3, 77))
		if !ok || len(b.Journal.L) != mostNoted || b.Journal.Safe != mostNoted || !impl.BalOk(b) {
			t.Fatalf("the last one that a journal takes: %v, %v", b, ok)
		}
		for _, c := range []impl.PoolCmd{weigh(3, 77), remove(3), drain(0), add(0, 1)} {
			again, ok := impl.BalCmd(b, c)
			if ok || !sameBal(again, b) {
				t.Fatalf("%v, one more than a journal takes: %v, %v", c, again, ok)
			}
		}
		for why, c := range badCmds() {
			if again, ok := impl.BalCmd(b, c); ok || !sameBal(again, impl.Bal{}) {
				t.Fatalf("%s, one more than a journal takes: %v, %v", why, again, ok)
			}
		}
	}
}

func TestWhatIsNoCommandIsRefused(t *testing.T) {
	for _, b := range someBals() {
		for why, c := range badCmds() {
			if got, ok := impl.BalCmd(b, c); ok || !sameBal(got, impl.Bal{}) {
				t.Errorf("%s: %v, %v", why, got, ok)
			}
		}
	}
}

func TestNobodysBalancerHasOneFixedAnswer(t *testing.T) {
	none := impl.Bal{}
	for why, b := range badBals() {
		for _, c := range []impl.PoolCmd{add(0, 1), weigh(1, 1), {Kind: 4}} {
			if got, ok := impl.BalCmd(b, c); ok || !sameBal(got, none) {
				t.Errorf("%s: BalCmd %v, %v", why, got, ok)
			}
		}
		for _, p := range []impl.Packet{opening(), following(), {}, {Seq: -1}} {
			if segs := impl.RouteOf(b, p); len(segs) != 0 {
				t.Errorf("%s: RouteOf %v", why, segs)
			}
			if c, ok := impl.Send(b, 5, p); ok || !sameCarrier(c, impl.Carrier{}) {
				t.Errorf("%s: Send %v, %v", why, c, ok)
			}
		}
		for _, f := range []impl.Flow{mine, flow(0, 0), flow(3, 3), named(4, 'a', 1), flow(-1, 3)} {
			if got, ok := impl.Learn(b, 5, f, 1); ok || !sameBal(got, none) {
				t.Errorf("%s: Learn %v, %v", why, got, ok)
			}
			if hint := impl.Hint(b, f); hint != -1 {
				t.Errorf("%s: Hint %d", why, hint)
			}
		}
		for _, n := range []int{-1, 0, 9, 100000} {
			if got, went := impl.BalTick(b, n); went != -1 || !sameBal(got, none) {
				t.Errorf("%s: BalTick %v, %d", why, got, went)
			}
			if got := impl.Crash(b, n); !sameBal(got, none) {
				t.Errorf("%s: Crash %v", why, got)
			}
		}
	}
}

// mustCrash wants what is safe, and so many behind it, to be there, and no hint.
func mustCrash(t *testing.T, b impl.Bal, keep int) impl.Bal {
	t.Helper()
	left := len(b.Journal.L)
	if keep < left-b.Journal.Safe {
		left = b.Journal.Safe + keep
	}
	j := impl.Journal{Key: b.Journal.Key, L: b.Journal.L[:left], Safe: left}
	want := balOf(j, impl.Table{Slots: make([]impl.Slot, len(b.Hints.Slots))})
	got := impl.Crash(b, keep)
	if !sameBal(got, want) || !impl.BalOk(got) {
		t.Fatalf("Crash(%v, %d) = %v, not %v", b, keep, got, want)
	}
	told, ok := impl.Replay(got.Journal)
	if !ok || !samePool(got.Pool, told) || !sameJournal(got.Journal, impl.Cut(b.Journal, keep)) {
		t.Fatalf("Crash(%v, %d) = %v, which its journal does not tell", b, keep, got)
	}
	for _, f := range append(impl.FlowsOf(b.Hints), mine, flow(0, 0)) {
		if hint := impl.Hint(got, f); hint != -1 {
			t.Fatalf("behind a crash of %v, %v has the hint %d", b, f, hint)
		}
	}
	return got
}

func TestBehindACrashThereIsNoHint(t *testing.T) {
	for _, b := range goodBals() {
		behind := len(b.Journal.L) - b.Journal.Safe
		for _, keep := range []int{0, 1, behind - 1, behind, behind + 1, 100, math.MaxInt - 1, math.MaxInt} {
			if keep < 0 {
				continue
			}
			got := mustCrash(t, b, keep)
			if again := mustCrash(t, got, 0); !sameBal(again, got) {
				t.Fatalf("Crash(%v, %d) is not safe: %v", b, keep, again)
			}
		}
	}
}

func TestACrashWithLessThanNothing(t *testing.T) {
	for _, b := range someBals() {
		for _, keep := range []int{math.MinInt, -100, -1} {
			if got := impl.Crash(b, keep); !sameBal(got, impl.Bal{}) {
				t.Errorf("Crash(%v, %d) = %v", b, keep, got)
			}
		}
	}
}

func TestACrashWithEachKeep(t *testing.T) {
	b := fourServe()
	for keep, serve := range [][]impl.Back{
		{back(1, 1), back(2, 5)}, {back(1, 1), back(2, 5), back(4, 2)}, {back(1, 1), back(4, 2)}, {back(1, 1), back(4, 2)},
	} {
		got := impl.Crash(b, keep)
		noted := min(2+keep, 4)
		if !slices.Equal(got.Pool.Backs, serve) || len(got.Journal.L) != noted || got.Journal.Safe != noted || len(got.Hints.Slots) != 4 || impl.CountOf(got.Hints) != 0 {
			t.Errorf("keep %d: %v", keep, got)
		}
	}
}

func TestWhatCommandsDidIsThereBehindACrash(t *testing.T) {
	for i, b := range goodBals() {
		m := modelOf(b.Journal)
		for k, c := range allCmds() {
			if i%8 != k%8 {
				continue
			}
			done, ok := mustCommand(t, b, m, c)
			for _, keep := range []int{0, 1, 100} {
				got := impl.Crash(done, keep)
				if ok && (!sameJournal(got.Journal, done.Journal) || !samePool(got.Pool, done.Pool)) {
					t.Fatalf("%v, done to %v, is lost behind a crash with %d: %v", c, b, keep, got)
				}
			}
		}
	}
}

// life is a balancer that commands, learning, ticks and crashes are done to.
type life struct {
	b     impl.Bal
	now   int
	draws lot
}

func (l *life) step(t *testing.T) string {
	t.Helper()
	size := len(l.b.Hints.Slots)
	switch l.draws.below(20) {
	case 0, 1, 2:
		c := allCmds()[l.draws.below(len(allCmds()))]
		l.b, _ = mustCommand(t, l.b, modelOf(l.b.Journal), c)
		return "a command"
	case 3, 4:
		l.now += l.draws.below(30)
		l.b = mustBalTick(t, l.b, l.now)
		return "a tick"
	case 5:
		if l.draws.below(4) == 0 {
			l.b = mustCrash(t, l.b, l.draws.below(3))
		}
		return "a crash"
	case 6, 7, 8, 9:
		f := somebody(&l.draws, size)
		mustRoute(t, l.b, impl.Packet{Flow: f, Flags: impl.FlSyn})
		mustRoute(t, l.b, impl.Packet{Flow: f, Flags: impl.FlAck})
		return "a route"
	}
	l.b = mustLearn(t, l.b, l.now, somebody(&l.draws, size), l.draws.below(impl.MaxBack))
	return "a hint"
}

func TestALongLifeOfABalancer(t *testing.T) {
	for size := 1; size <= impl.MaxTable; size++ {
		b, _ := impl.BalNew(1000*size, size)
		l := life{b: b, draws: lot(size)}
		for range 600 {
			if what := l.step(t); !impl.BalOk(l.b) {
				t.Fatalf("behind %s: %v", what, l.b)
			}
		}
	}
}
