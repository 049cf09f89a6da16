package tests

import (
	"math"
	"slices"
	"strconv"
	"testing"

	"loop.example/g00607/impl"
)

var kindEdges = []edge{{math.MinInt, false}, {-1, false}, {impl.PcAdd, true}, {impl.PcWeight, true}, {impl.PcDrain, true}, {impl.PcRemove, true}, {4, false}, {256, false}, {math.MaxInt, false}}

func add(id int, weight int) impl.PoolCmd {
	return impl.PoolCmd{Kind: impl.PcAdd, Id: id, Weight: weight}
}

func weigh(id int, weight int) impl.PoolCmd {
	return impl.PoolCmd{Kind: impl.PcWeight, Id: id, Weight: weight}
}

func drain(id int) impl.PoolCmd { return impl.PoolCmd{Kind: impl.PcDrain, Id: id} }

func remove(id int) impl.PoolCmd { return impl.PoolCmd{Kind: impl.PcRemove, Id: id} }

// allCmds are the commands of each kind for each Id, with weights at and between their limits.
func allCmds() []impl.PoolCmd {
	var all []impl.PoolCmd
	for id := range impl.MaxBack {
		all = append(all, add(id, 1), add(id, 100), add(id, 10+9*id), weigh(id, 1), weigh(id, 100), weigh(id, 60-7*id), drain(id), remove(id))
	}
	return all
}

// badCmds are commands of which one thing alone is wrong.
func badCmds() map[string]impl.PoolCmd {
	return map[string]impl.PoolCmd{
		"Kind -1":               {Kind: -1, Id: 2},
		"Kind 4":                {Kind: 4, Id: 2},
		"Kind 4 with a Weight":  {Kind: 4, Id: 2, Weight: 1},
		"Kind 256":              {Kind: 256, Id: 2, Weight: 1},
		"Id -1 that is added":   add(-1, 1),
		"Id MaxBack, added":     add(impl.MaxBack, 1),
		"Id -1 that is removed": remove(-1),
		"Id MaxBack, drained":   drain(impl.MaxBack),
		"Id 258, removed":       remove(258),
		"added with Weight 0":   add(2, 0),
		"added with Weight 101": add(2, 101),
		"added with Weight -1":  add(2, -1),
		"Weight 0":              weigh(2, 0),
		"Weight 101":            weigh(2, 101),
		"Weight 257":            weigh(2, 257),
		"drained with Weight":   {Kind: impl.PcDrain, Id: 2, Weight: 1},
		"drained with -1":       {Kind: impl.PcDrain, Id: 2, Weight: -1},
		"removed with Weight":   {Kind: impl.PcRemove, Id: 2, Weight: 100},
		"removed with 256":      {Kind: impl.PcRemove, Id: 2, Weight: 256},
	}
}

func samePool(a impl.Pool, b impl.Pool) bool {
	return a.Key == b.Key && slices.Equal(a.Backs, b.Backs) && slices.EqualFunc(a.Ring, b.Ring, sameTable)
}

// poolModel says in its own way what commands come to: who serves stands at its
// Id, with Weight 0 if it is not there, and no table is ever thrown away.
type poolModel struct {
	key    int
	serves [impl.MaxBack]impl.Back
	tables [][][]int
}

func newModel(key int) poolModel {
	return poolModel{key: key, tables: [][][]int{impl.TableOf(key, nil)}}
}

func (m poolModel) backs() []impl.Back {
	var l []impl.Back
	for _, b := range m.serves {
		if b.Weight != 0 {
			l = append(l, b)
		}
	}
	return l
}

func (m poolModel) pool() impl.Pool {
	return impl.Pool{Key: m.key, Backs: m.backs(), Ring: slices.Clone(m.tables[:min(len(m.tables), impl.Epochs)])}
}

// done is m behind a command that is PoolCmdOk.
func (m poolModel) done(c impl.PoolCmd) (poolModel, bool) {
	b := &m.serves[c.Id]
	if (c.Kind == impl.PcAdd) != (b.Weight == 0) {
		return m, false
	}
	switch c.Kind {
	case impl.PcAdd:
		*b = back(c.Id, c.Weight)
	case impl.PcWeight:
		b.Weight = c.Weight
	case impl.PcDrain:
		b.Drain = true
	case impl.PcRemove:
		*b = impl.Back{}
	}
	m.tables = append([][][]int{impl.TableOf(m.key, m.backs())}, m.tables...)
	return m, true
}

// lot draws numbers that are the same each time.
type lot uint32

func (l *lot) below(n int) int {
	*l = *l*1664525 + 1013904223
	return int(*l>>8) % n
}

// walk draws n commands that can be done one behind the other.
func walk(key int, seed int, n int) []impl.PoolCmd {
	m, draws := newModel(key), lot(seed)
	var l []impl.PoolCmd
	for len(l) < n {
		c := allCmds()[draws.below(len(allCmds()))]
		next, ok := m.done(c)
		if ok {
			m, l = next, append(l, c)
		}
	}
	return l
}

// poolBehind is the pool that commands leave, which all have to be done.
func poolBehind(t *testing.T, key int, cmds ...impl.PoolCmd) impl.Pool {
	t.Helper()
	p, ok := impl.PoolNew(key)
	for _, c := range cmds {
		if !ok {
			break
		}
		p, ok = impl.PoolDo(p, c)
	}
	if !ok {
		t.Fatalf("key %d: %v are not all done", key, cmds)
	}
	return p
}

// somePools are pools with one up to Epochs tables, with nobody and with all, some of them draining.
func somePools(t *testing.T) []impl.Pool {
	t.Helper()
	var all []impl.Pool
	for i, key := range someKeys {
		cmds := walk(key, i+1, 12)
		for _, n := range []int{0, 1, 2, 3, 7, 12} {
			all = append(all, poolBehind(t, key, cmds[:n]...))
		}
		all = append(all, poolBehind(t, key, add(0, 1), add(1, 50), add(2, 100), add(3, 7), add(4, 8), add(5, 9)))
		all = append(all, poolBehind(t, key, add(3, 7), drain(3)))
	}
	return all
}

// threeServe is a good pool with Epochs tables, no two of which are alike.
func threeServe() impl.Pool {
	l := []impl.Back{back(1, 50), back(2, 60), drained(4, 9), back(5, 70)}
	return impl.Pool{Key: 7, Backs: l, Ring: [][][]int{impl.TableOf(7, l), impl.TableOf(7, l[:2]), impl.TableOf(7, l[:1])}}
}

// changed is threeServe behind a change.
func changed(change func(p *impl.Pool)) impl.Pool {
	p := threeServe()
	change(&p)
	return p
}

// badPools are pools of which one thing alone is wrong.
func badPools() map[string]impl.Pool {
	bad := map[string]impl.Pool{
		"the zero value":           {},
		"no table":                 changed(func(p *impl.Pool) { p.Ring = nil }),
		"an empty ring":            changed(func(p *impl.Pool) { p.Ring = [][][]int{} }),
		"no table and nobody":      {Key: 7},
		"one table too many":       changed(func(p *impl.Pool) { p.Ring = append(p.Ring, tableOfPairs(1, 2)) }),
		"twice the tables":         changed(func(p *impl.Pool) { p.Ring = append(p.Ring, p.Ring...) }),
		"the table of another key": changed(func(p *impl.Pool) { p.Key = 8 }),
		"the tables turned round":  changed(func(p *impl.Pool) { slices.Reverse(p.Ring) }),
		"the table is the next":    changed(func(p *impl.Pool) { p.Ring = p.Ring[1:] }),
		"the table of nobody":      changed(func(p *impl.Pool) { p.Ring[0] = tableOfPairs() }),
		"a table for nobody":       {Key: 7, Ring: [][][]int{tableOfPairs(1, 1)}},
		"one drains too many":      changed(func(p *impl.Pool) { p.Backs[0].Drain = true }),
		"nobody serves, all told":  changed(func(p *impl.Pool) { p.Backs = nil }),
	}
	for _, key := range keyEdges {
		if !key.in {
			bad["Key "+strconv.Itoa(key.n)] = impl.Pool{Key: key.n, Ring: [][][]int{tableOfPairs()}}
			bad["Key with no table "+strconv.Itoa(key.n)] = impl.Pool{Key: key.n, Ring: [][][]int{nil}}
		}
	}
	for why, l := range badLists() {
		bad["Backs: "+why] = impl.Pool{Key: 7, Backs: l, Ring: [][][]int{tableOfPairs()}}
		bad["Backs, with no table: "+why] = impl.Pool{Key: 7, Backs: l, Ring: [][][]int{nil}}
	}
	for place := range impl.Epochs {
		at := " in table " + strconv.Itoa(place)
		bad["one list too few"+at] = changed(func(p *impl.Pool) { p.Ring[place] = p.Ring[place][:impl.Buckets-1] })
		bad["one list too many"+at] = changed(func(p *impl.Pool) { p.Ring[place] = append(p.Ring[place], []int{1, 2}) })
		bad["one empty list too many"+at] = changed(func(p *impl.Pool) { p.Ring[place] = append(p.Ring[place], nil) })
		bad["no list"+at] = changed(func(p *impl.Pool) { p.Ring[place] = nil })
		for bucket := range impl.Buckets {
			for why, list := range badPairs() {
				bad["bucket "+strconv.Itoa(bucket)+": "+why+at] = changed(func(p *impl.Pool) { p.Ring[place][bucket] = list })
			}
		}
	}
	for bucket := range impl.Buckets {
		bad["turned round in bucket "+strconv.Itoa(bucket)] = changed(func(p *impl.Pool) { slices.Reverse(p.Ring[0][bucket]) })
		bad["nobody in bucket "+strconv.Itoa(bucket)] = changed(func(p *impl.Pool) { p.Ring[0][bucket] = nil })
		bad["twice the first in bucket "+strconv.Itoa(bucket)] = changed(func(p *impl.Pool) { p.Ring[0][bucket][1] = p.Ring[0][bucket][0] })
	}
	return bad
}

// badPairs are lists that no table may have.
func badPairs() map[string][]int {
	return map[string][]int{
		"one":            {1},
		"three":          {1, 2, 5},
		"four":           {1, 2, 1, 2},
		"-1 first":       {-1, 1},
		"-1 behind":      {1, -1},
		"-1 twice":       {-1, -1},
		"MaxBack first":  {impl.MaxBack, 1},
		"MaxBack behind": {1, impl.MaxBack},
		"far off":        {math.MinInt, math.MaxInt},
	}
}

func TestConstantsOfPools(t *testing.T) {
	if impl.Epochs != 3 || impl.PcAdd != 0 || impl.PcWeight != 1 || impl.PcDrain != 2 || impl.PcRemove != 3 {
		t.Fatal("a constant is not as the document has it")
	}
}

func TestPoolCmdOkAtItsEdges(t *testing.T) {
	for _, kind := range kindEdges {
		for _, id := range idEdges {
			for _, weight := range weightEdges {
				c := impl.PoolCmd{Kind: kind.n, Id: id.n, Weight: weight.n}
				want := kind.in && id.in && weight.n == 0
				if kind.n == impl.PcAdd || kind.n == impl.PcWeight {
					want = id.in && weight.in
				}
				if got := impl.PoolCmdOk(c); got != want {
					t.Errorf("%v: %v", c, got)
				}
			}
		}
	}
	for why, c := range badCmds() {
		if impl.PoolCmdOk(c) {
			t.Errorf("%s is accepted", why)
		}
	}
	for _, c := range allCmds() {
		if !impl.PoolCmdOk(c) {
			t.Errorf("%v is refused", c)
		}
	}
}

func TestPoolNewHasNobodyAndTheirTable(t *testing.T) {
	for _, key := range keyEdges {
		p, ok := impl.PoolNew(key.n)
		want := impl.Pool{}
		if key.in {
			want = impl.Pool{Key: key.n, Ring: [][][]int{make([][]int, impl.Buckets)}}
		}
		if ok != key.in || !samePool(p, want) || impl.PoolOk(p) != key.in {
			t.Errorf("PoolNew(%d) = %v, %v", key.n, p, ok)
		}
	}
}

func TestPoolOkWithinItsLimits(t *testing.T) {
	for _, p := range somePools(t) {
		if !impl.PoolOk(p) {
			t.Errorf("%v is refused", p)
		}
	}
	for why, p := range badPools() {
		if impl.PoolOk(p) {
			t.Errorf("%s is accepted: %v", why, p)
		}
	}
}

func TestPoolOkAtEachCountOfTables(t *testing.T) {
	for n := range impl.Epochs + 3 {
		p := changed(func(p *impl.Pool) {
			p.Ring = append(p.Ring, p.Ring...)[:n]
		})
		if got := impl.PoolOk(p); got != (n >= 1 && n <= impl.Epochs) {
			t.Errorf("%d tables: %v", n, got)
		}
	}
}

func TestPoolOkLetsOtherTablesStandBehind(t *testing.T) {
	for _, table := range [][][]int{tableOfPairs(), tableOfPairs(0, 0), tableOfPairs(0, impl.MaxBack-1), tableOfPairs(impl.MaxBack-1, 3), make([][]int, impl.Buckets), {nil, {}, {1, 2}, {2, 1}, {3, 3}, nil, {0, 5}, {}}} {
		for place := 1; place < impl.Epochs; place++ {
			if p := changed(func(p *impl.Pool) { p.Ring[place] = table }); !impl.PoolOk(p) {
				t.Errorf("%v is refused as table %d", table, place)
			}
		}
	}
	for _, l := range listsOfBacks(5) {
		p := impl.Pool{Key: 999999, Backs: l, Ring: [][][]int{impl.TableOf(999999, l), tableOfPairs(4, 0)}}
		if !impl.PoolOk(p) {
			t.Fatalf("%v is refused", p)
		}
	}
}

// mustBeBehind wants p, and that a command left it behind was.
func mustBeBehind(t *testing.T, was impl.Pool, c impl.PoolCmd, p impl.Pool) {
	t.Helper()
	if !impl.PoolOk(p) || p.Key != was.Key {
		t.Fatalf("%v behind %v is no pool: %v", c, was, p)
	}
	if !sameTable(p.Ring[0], impl.TableOf(p.Key, p.Backs)) {
		t.Fatalf("%v behind %v: the first table is %v", c, was, p.Ring[0])
	}
	if !slices.EqualFunc(p.Ring[1:], was.Ring[:min(len(was.Ring), impl.Epochs-1)], sameTable) {
		t.Fatalf("%v behind %v: what was does not stand behind: %v", c, was, p.Ring)
	}
}

func TestACommandLeavesAPoolThatMayBe(t *testing.T) {
	done, not := 0, 0
	for seed, key := range someKeys {
		m := newModel(key)
		for _, step := range walk(key, seed+77, 25) {
			was := m.pool()
			for _, c := range allCmds() {
				next, can := m.done(c)
				p, ok := impl.PoolDo(was, c)
				if ok != can || !samePool(p, next.pool()) {
					t.Fatalf("%v behind %v: %v, %v, not %v, %v", c, was, p, ok, next.pool(), can)
				}
				if ok {
					mustBeBehind(t, was, c, p)
					done++
				} else {
					not++
				}
			}
			m, _ = m.done(step)
		}
	}
	if done < 1000 || not < 1000 {
		t.Fatalf("%d were done, %d were not", done, not)
	}
}

func TestPoolDoOfEachKind(t *testing.T) {
	all := []impl.PoolCmd{add(3, 30), add(0, 1), add(5, 100), add(4, 7), drain(4)}
	known := []impl.Back{back(0, 1), back(3, 30), drained(4, 7), back(5, 100)}
	for _, c := range []struct {
		cmd  impl.PoolCmd
		want []impl.Back
	}{
		{add(1, 9), []impl.Back{back(0, 1), back(1, 9), back(3, 30), drained(4, 7), back(5, 100)}},
		{add(2, 100), []impl.Back{back(0, 1), back(2, 100), back(3, 30), drained(4, 7), back(5, 100)}},
		{weigh(3, 31), []impl.Back{back(0, 1), back(3, 31), drained(4, 7), back(5, 100)}},
		{weigh(3, 30), known},
		{weigh(4, 8), []impl.Back{back(0, 1), back(3, 30), drained(4, 8), back(5, 100)}},
		{drain(0), []impl.Back{drained(0, 1), back(3, 30), drained(4, 7), back(5, 100)}},
		{drain(4), known},
		{remove(0), []impl.Back{back(3, 30), drained(4, 7), back(5, 100)}},
		{remove(4), []impl.Back{back(0, 1), back(3, 30), back(5, 100)}},
		{remove(5), []impl.Back{back(0, 1), back(3, 30), drained(4, 7)}},
	} {
		was := poolBehind(t, 7, all...)
		if !slices.Equal(was.Backs, known) {
			t.Fatalf("%v serve", was.Backs)
		}
		p, ok := impl.PoolDo(was, c.cmd)
		if !ok || !slices.Equal(p.Backs, c.want) {
			t.Fatalf("%v: %v, %v, not %v", c.cmd, p.Backs, ok, c.want)
		}
		mustBeBehind(t, was, c.cmd, p)
	}
	again := poolBehind(t, 7, append(slices.Clone(all), remove(4), add(4, 6))...)
	if !slices.Equal(again.Backs, []impl.Back{back(0, 1), back(3, 30), back(4, 6), back(5, 100)}) {
		t.Errorf("who comes again drains: %v", again.Backs)
	}
}

func TestPoolDoOfWhatCannotBe(t *testing.T) {
	for _, p := range append(somePools(t), threeServe()) {
		for id := range impl.MaxBack {
			there := slices.ContainsFunc(p.Backs, func(b impl.Back) bool { return b.Id == id })
			cannot := []impl.PoolCmd{weigh(id, 1), drain(id), remove(id)}
			if there {
				cannot = []impl.PoolCmd{add(id, 1), add(id, 100)}
			}
			for _, c := range cannot {
				if got, ok := impl.PoolDo(p, c); ok || !samePool(got, p) {
					t.Fatalf("%v of %v: %v, %v", c, p, got, ok)
				}
			}
		}
	}
}

func TestPoolDoOfWrongArguments(t *testing.T) {
	for why, c := range badCmds() {
		for _, p := range somePools(t) {
			if got, ok := impl.PoolDo(p, c); ok || !samePool(got, impl.Pool{}) {
				t.Fatalf("%s: %v, %v", why, got, ok)
			}
		}
	}
	for why, p := range badPools() {
		for _, c := range []impl.PoolCmd{add(1, 1), add(3, 1), weigh(1, 1), drain(1), remove(1), remove(3), {Kind: 4}} {
			if got, ok := impl.PoolDo(p, c); ok || !samePool(got, impl.Pool{}) {
				t.Fatalf("%s, %v: %v, %v", why, c, got, ok)
			}
		}
	}
}

// Tables behind the first may be any, and are taken along as they are.
func TestTablesThatWereAreTakenAlong(t *testing.T) {
	odd := [][]int{nil, {0, 0}, {5, 0}, {}, {3, 4}, {4, 3}, {1, 1}, {2, 5}}
	was := changed(func(p *impl.Pool) { p.Ring[1], p.Ring[2] = odd, tableOfPairs(3, 0) })
	for _, c := range []impl.PoolCmd{add(0, 1), weigh(1, 2), drain(5), remove(2)} {
		p, ok := impl.PoolDo(was, c)
		if !ok || len(p.Ring) != impl.Epochs || !sameTable(p.Ring[1], was.Ring[0]) || !sameTable(p.Ring[2], odd) {
			t.Fatalf("%v: %v, %v", c, p.Ring, ok)
		}
		p, ok = impl.PoolDo(p, weigh(1, 3))
		if !ok || len(p.Ring) != impl.Epochs || !sameTable(p.Ring[2], was.Ring[0]) {
			t.Fatalf("%v: %v, %v", c, p.Ring, ok)
		}
	}
}

func TestOfTablesSoManyAreKept(t *testing.T) {
	m := newModel(7)
	for i, c := range walk(7, 5, 30) {
		m, _ = m.done(c)
		p := poolBehind(t, 7, walk(7, 5, 30)[:i+1]...)
		if len(p.Ring) != min(i+2, impl.Epochs) || !slices.EqualFunc(p.Ring, m.tables[:len(p.Ring)], sameTable) {
			t.Fatalf("behind %d commands: %v", i+1, p.Ring)
		}
	}
}

// mustBeCandidates wants each of that bucket's lists, once, in order of the tables.
func mustBeCandidates(t *testing.T, p impl.Pool, bucket int, got []int) {
	t.Helper()
	var want []int
	for _, table := range p.Ring {
		want = append(want, table[bucket]...)
	}
	seen := map[int]int{}
	for _, id := range got {
		seen[id]++
	}
	last := -1
	for _, id := range want {
		at := slices.Index(got, id)
		if seen[id] != 1 || at > last+1 {
			t.Fatalf("bucket %d of %v: %v", bucket, p.Ring, got)
		}
		last = max(last, at)
	}
	if last != len(got)-1 {
		t.Fatalf("bucket %d of %v: %v has more", bucket, p.Ring, got)
	}
}

func TestCandidatesAreAllOfTheLastPairs(t *testing.T) {
	greatest := 0
	for seed, key := range someKeys {
		for n := range 20 {
			p := poolBehind(t, key, walk(key, seed+5, 20)[:n]...)
			for bucket := range impl.Buckets {
				got := impl.Candidates(p, bucket)
				mustBeCandidates(t, p, bucket, got)
				greatest = max(greatest, len(got))
			}
		}
	}
	if greatest < 4 {
		t.Fatalf("never more than %d", greatest)
	}
}

func TestCandidatesOfKnownTables(t *testing.T) {
	l := []impl.Back{back(2, 5)}
	for _, c := range []struct {
		second, third []int
		want          []int
	}{
		{nil, nil, []int{2}},
		{[]int{2, 2}, []int{2, 2}, []int{2}},
		{[]int{1, 0}, nil, []int{2, 1, 0}},
		{nil, []int{1, 0}, []int{2, 1, 0}},
		{[]int{0, 1}, []int{1, 0}, []int{2, 0, 1}},
		{[]int{5, 2}, []int{4, 5}, []int{2, 5, 4}},
		{[]int{5, 3}, []int{4, 0}, []int{2, 5, 3, 4, 0}},
		{[]int{0, 0}, []int{5, 5}, []int{2, 0, 5}},
		{[]int{3, 2}, []int{3, 1}, []int{2, 3, 1}},
	} {
		for bucket := range impl.Buckets {
			p := impl.Pool{Key: 7, Backs: l, Ring: [][][]int{impl.TableOf(7, l), tableOfPairs(4, 3), tableOfPairs(3, 4)}}
			p.Ring[1][bucket], p.Ring[2][bucket] = c.second, c.third
			if got := impl.Candidates(p, bucket); !slices.Equal(got, c.want) {
				t.Fatalf("%v and %v in bucket %d: %v, not %v", c.second, c.third, bucket, got, c.want)
			}
		}
	}
	p := impl.Pool{Key: 7, Ring: [][][]int{tableOfPairs(), tableOfPairs(), tableOfPairs(4, 1)}}
	if got := impl.Candidates(p, 3); !slices.Equal(got, []int{4, 1}) {
		t.Errorf("those who only were: %v", got)
	}
}

func TestCandidatesAtWrongArguments(t *testing.T) {
	for _, bucket := range bucketEdges {
		if got := impl.Candidates(threeServe(), bucket.n); (len(got) != 0) != bucket.in {
			t.Errorf("bucket %d: %v", bucket.n, got)
		}
	}
	for why, p := range badPools() {
		for _, bucket := range []int{-1, 0, 3, impl.Buckets - 1, impl.Buckets} {
			if got := impl.Candidates(p, bucket); len(got) != 0 {
				t.Errorf("%s, bucket %d: %v", why, bucket, got)
			}
		}
	}
	for _, key := range someKeys {
		p, _ := impl.PoolNew(key)
		if got := impl.Candidates(p, 0); len(got) != 0 {
			t.Errorf("nobody serves, but %v", got)
		}
	}
}
