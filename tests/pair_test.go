package tests

import (
	"math"
	"slices"
	"testing"

	"loop.example/g00607/impl"
)

// edge is a number around a limit, and whether it is within.
type edge struct {
	n  int
	in bool
}

var keyEdges = []edge{{math.MinInt, false}, {-2, false}, {-1, false}, {0, true}, {1, true}, {999998, true}, {999999, true}, {1000000, false}, {1000001, false}, {math.MaxInt, false}}

var hashedEdges = []edge{{math.MinInt, false}, {-impl.HashP, false}, {-1, false}, {0, true}, {1, true}, {impl.HashP - 1, true}, {impl.HashP, false}, {impl.HashP + 1, false}, {2 * impl.HashP, false}, {math.MaxInt, false}}

var bucketEdges = []edge{{math.MinInt, false}, {-8, false}, {-1, false}, {0, true}, {1, true}, {impl.Buckets - 1, true}, {impl.Buckets, false}, {impl.Buckets + 1, false}, {math.MaxInt, false}}

var idEdges = []edge{{math.MinInt, false}, {-1, false}, {0, true}, {1, true}, {impl.MaxBack - 1, true}, {impl.MaxBack, false}, {64, false}, {math.MaxInt, false}}

var weightEdges = []edge{{math.MinInt, false}, {-1, false}, {0, false}, {1, true}, {2, true}, {99, true}, {100, true}, {101, false}, {math.MaxInt, false}}

func back(id int, weight int) impl.Back { return impl.Back{Id: id, Weight: weight} }

func drained(id int, weight int) impl.Back { return impl.Back{Id: id, Weight: weight, Drain: true} }

// someKeys are keys at and between their limits.
var someKeys = []int{0, 1, 7, 577, 4902, 123456, 500000, 879879, 999998, 999999}

// listsOfBacks are all lists of which the weights go by one rule, with each who may drain.
func listsOfBacks(rule int) [][]impl.Back {
	var all [][]impl.Back
	for there := range 1 << impl.MaxBack {
		var l []impl.Back
		for id := range impl.MaxBack {
			if there>>id&1 == 1 {
				l = append(l, back(id, 1+(rule*(id+3)*(id+1))%100))
			}
		}
		for drains := range 1 << len(l) {
			some := slices.Clone(l)
			for i := range some {
				some[i].Drain = drains>>i&1 == 1
			}
			all = append(all, some)
		}
	}
	return all
}

// badLists are lists of which one thing alone is wrong.
func badLists() map[string][]impl.Back {
	return map[string][]impl.Back{
		"Id -1":                   {back(-1, 1)},
		"Id MaxBack":              {back(impl.MaxBack, 1)},
		"Id MaxBack at the end":   {back(0, 1), back(impl.MaxBack, 1)},
		"Id -1 that drains":       {drained(-1, 1), back(2, 1)},
		"two with one Id":         {back(2, 1), back(2, 1)},
		"two with one Id, unlike": {back(2, 1), drained(2, 9)},
		"two with one Id at last": {back(0, 1), back(1, 1), back(5, 1), back(5, 1)},
		"Ids that descend":        {back(3, 1), back(2, 1)},
		"one Id that descends":    {back(0, 1), back(4, 1), back(3, 1), back(5, 1)},
		"all Ids turned round":    {back(5, 1), back(4, 1), back(3, 1), back(2, 1), back(1, 1), back(0, 1)},
		"one Id again, far off":   {back(1, 1), back(2, 1), back(1, 1)},
		"Weight 0":                {back(1, 0)},
		"Weight -1":               {back(1, -1)},
		"Weight 101":              {back(1, 101)},
		"Weight 0 at the end":     {back(1, 1), back(2, 1), back(3, 0)},
		"Weight 101 that drains":  {back(1, 1), drained(2, 101), back(3, 1)},
		"one too many":            {back(0, 1), back(1, 1), back(2, 1), back(3, 1), back(4, 1), back(5, 1), back(6, 1)},
	}
}

// serving are the Ids of those who do not drain.
func serving(l []impl.Back) []int {
	var ids []int
	for _, b := range l {
		if !b.Drain {
			ids = append(ids, b.Id)
		}
	}
	return ids
}

// sameTable holds tables against each other list by list.
func sameTable(a [][]int, b [][]int) bool { return slices.EqualFunc(a, b, slices.Equal) }

func TestConstantsOfPairs(t *testing.T) {
	if impl.HashP != 2147483647 || impl.Buckets != 8 {
		t.Fatal("a constant is not as the document has it")
	}
}

func TestHashOfKnownNumbers(t *testing.T) {
	cases := []struct{ key, x, want int }{
		{0, 0, 1153105965},
		{0, 1, 1335711759},
		{0, 2, 1518317553},
		{7, 0, 1603273476},
		{7, 258, 1470928094},
		{999999, 0, 40448183},
		{0, 2147483646, 970500171},
		{999999, 2147483646, 2005326036},
		{123456, 1000000000, 91747186},
	}
	for _, c := range cases {
		for range 3 {
			if got := impl.HashOf(c.key, c.x); got != c.want {
				t.Errorf("HashOf(%d, %d) = %d, not %d", c.key, c.x, got, c.want)
			}
		}
	}
}

func TestHashOfAtItsEdges(t *testing.T) {
	for _, key := range keyEdges {
		for _, x := range hashedEdges {
			got := impl.HashOf(key.n, x.n)
			if key.in && x.in && (got < 0 || got >= impl.HashP) || !(key.in && x.in) && got != -1 {
				t.Errorf("HashOf(%d, %d) = %d", key.n, x.n, got)
			}
		}
	}
}

// A stir has one way back, so that with one key no two numbers are stirred to the same.
func TestHashOfStaysWithinAndKeepsNumbersApart(t *testing.T) {
	for _, key := range someKeys {
		from := map[int]int{}
		for i := range 20000 {
			x := i * 107374 % impl.HashP
			h := impl.HashOf(key, x)
			if h < 0 || h > impl.HashP-1 || h != impl.HashOf(key, x) {
				t.Fatalf("HashOf(%d, %d) = %d", key, x, h)
			}
			if other, is := from[h]; is {
				t.Fatalf("key %d: %d and %d are stirred to the same", key, other, x)
			}
			from[h] = x
		}
	}
	if impl.HashOf(3, 5) == impl.HashOf(4, 5) || impl.HashOf(3, 5) == impl.HashOf(5, 3) {
		t.Error("the key is not heeded")
	}
}

func TestBucketOfKnownFlows(t *testing.T) {
	cases := []struct {
		key  int
		f    impl.Flow
		want int
	}{
		{0, flow(0, 0), 3},
		{0, flow(0, 1), 5},
		{7, flow(1, 2), 0},
		{7, flow(2, 1), 0},
		{999999, flow(65535, 65535), 6},
		{5, flow(258, 80), 4},
		{123456, flow(0, 65535), 1},
		{123456, flow(65535, 0), 3},
	}
	for _, c := range cases {
		for range 3 {
			if got := impl.BucketOf(c.key, c.f); got != c.want {
				t.Errorf("BucketOf(%d, %v) = %d, not %d", c.key, c.f, got, c.want)
			}
		}
	}
}

func TestBucketOfAtItsEdges(t *testing.T) {
	for _, key := range keyEdges {
		for _, addr := range wordEdges {
			for _, port := range wordEdges {
				got := impl.BucketOf(key.n, flow(addr.n, port.n))
				in := key.in && addr.in && port.in
				if in && (got < 0 || got >= impl.Buckets) || !in && got != -1 {
					t.Errorf("BucketOf(%d, %d:%d) = %d", key.n, addr.n, port.n, got)
				}
			}
		}
	}
}

func TestBucketOfIsWhatItsHashesTell(t *testing.T) {
	for _, key := range someKeys {
		hit := [impl.Buckets]int{}
		for i := range 4000 {
			f := flow(i*7919%65536, i*104729%65536)
			got := impl.BucketOf(key, f)
			want := impl.HashOf(key, impl.HashOf(key, f.Addr)^f.Port) / 7 % impl.Buckets
			if got != want || got != impl.BucketOf(key, f) {
				t.Fatalf("BucketOf(%d, %v) = %d, not %d", key, f, got, want)
			}
			hit[got]++
		}
		if slices.Min(hit[:]) < 300 {
			t.Errorf("key %d: the buckets have %v", key, hit)
		}
	}
}

// With these the bits that are turned over make HashP of the first hash: HashOf
// refuses that, BucketOf takes it modulo HashP, which is 0.
func TestBucketOfWhereTheHashGoesBeyond(t *testing.T) {
	cases := []struct {
		key  int
		f    impl.Flow
		want int
	}{
		{0, flow(8414, 34571), 7},
		{7, flow(14127, 18380), 4},
		{999999, flow(12054, 49116), 7},
	}
	for _, c := range cases {
		x := impl.HashOf(c.key, c.f.Addr) ^ c.f.Port
		if x != impl.HashP || impl.HashOf(c.key, x) != -1 {
			t.Fatalf("key %d, %v: %d is not beyond", c.key, c.f, x)
		}
		got := impl.BucketOf(c.key, c.f)
		if got != c.want || got != impl.HashOf(c.key, 0)/7%impl.Buckets {
			t.Errorf("BucketOf(%d, %v) = %d, not %d", c.key, c.f, got, c.want)
		}
	}
}

func TestBacksOkWithinItsLimits(t *testing.T) {
	if !impl.BacksOk(nil) || !impl.BacksOk([]impl.Back{}) {
		t.Error("nobody is refused")
	}
	for _, l := range listsOfBacks(7) {
		if !impl.BacksOk(l) {
			t.Errorf("%v is refused", l)
		}
	}
	for why, l := range badLists() {
		if impl.BacksOk(l) {
			t.Errorf("%s is accepted", why)
		}
	}
}

func TestBacksOkAtItsEdges(t *testing.T) {
	for _, id := range idEdges {
		for _, weight := range weightEdges {
			for _, drain := range []bool{false, true} {
				b := impl.Back{Id: id.n, Weight: weight.n, Drain: drain}
				if got := impl.BacksOk([]impl.Back{b}); got != (id.in && weight.in) {
					t.Errorf("%v: %v", b, got)
				}
			}
		}
	}
	for one := range impl.MaxBack {
		for two := range impl.MaxBack {
			if got := impl.BacksOk([]impl.Back{back(one, 100), back(two, 1)}); got != (one < two) {
				t.Errorf("Id %d ahead of %d: %v", one, two, got)
			}
		}
	}
}

func TestScoreOfKnownBacks(t *testing.T) {
	cases := []struct {
		key, bucket int
		b           impl.Back
		want        int
	}{
		{0, 0, back(0, 1), 9008640},
		{0, 0, back(0, 100), 900864000},
		{0, 0, back(5, 1), 16141679},
		{0, 7, back(0, 1), 10594711},
		{7, 3, back(1, 1), 2648200},
		{7, 3, back(2, 5), 20374040},
		{7, 3, drained(2, 5), 20374040},
		{999999, 7, back(5, 100), 903511100},
		{123456, 4, back(3, 37), 572734766},
	}
	for _, c := range cases {
		if got := impl.Score(c.key, c.bucket, c.b); got != c.want {
			t.Errorf("Score(%d, %d, %v) = %d, not %d", c.key, c.bucket, c.b, got, c.want)
		}
	}
}

func TestScoreAtItsEdges(t *testing.T) {
	for _, key := range keyEdges {
		for _, bucket := range bucketEdges {
			for _, id := range idEdges {
				for _, weight := range weightEdges {
					want := -1
					if key.in && bucket.in && id.in && weight.in {
						want = impl.HashOf(key.n, 64*bucket.n+id.n) / 128 * weight.n
					}
					if got := impl.Score(key.n, bucket.n, back(id.n, weight.n)); got != want {
						t.Fatalf("Score(%d, %d, {%d %d}) = %d, not %d", key.n, bucket.n, id.n, weight.n, got, want)
					}
				}
			}
		}
	}
}

// scoreOf is Score of the one in l with that Id.
func scoreOf(t *testing.T, key int, bucket int, l []impl.Back, id int) int {
	t.Helper()
	for _, b := range l {
		if b.Id == id {
			return impl.Score(key, bucket, b)
		}
	}
	t.Fatalf("%d is not in %v", id, l)
	return -1
}

// mustBeTheBest wants the pair to be of those who serve, and nobody else of them to be better.
func mustBeTheBest(t *testing.T, key int, bucket int, l []impl.Back, pair []int) {
	t.Helper()
	ids := serving(l)
	if len(ids) == 0 {
		if len(pair) != 0 {
			t.Fatalf("key %d, bucket %d: nobody of %v serves, but %v is chosen", key, bucket, l, pair)
		}
		return
	}
	if len(pair) != 2 || !slices.Contains(ids, pair[0]) || !slices.Contains(ids, pair[1]) || (pair[0] == pair[1]) != (len(ids) == 1) {
		t.Fatalf("key %d, bucket %d: %v is no pair of %v", key, bucket, pair, l)
	}
	first, second := scoreOf(t, key, bucket, l, pair[0]), scoreOf(t, key, bucket, l, pair[1])
	if first < second || first == second && pair[0] > pair[1] {
		t.Fatalf("key %d, bucket %d: %v of %v is turned round", key, bucket, pair, l)
	}
	for _, id := range ids {
		score := scoreOf(t, key, bucket, l, id)
		if id != pair[0] && id != pair[1] && (score > second || score == second && id < pair[1]) {
			t.Fatalf("key %d, bucket %d: %d is better than %v of %v", key, bucket, id, pair, l)
		}
	}
}

func TestTheTwoBestAreAPair(t *testing.T) {
	for rule := range 4 {
		for _, l := range listsOfBacks(rule) {
			for i, key := range someKeys {
				bucket := (i + rule + len(l)) % impl.Buckets
				mustBeTheBest(t, key, bucket, l, impl.PairOf(key, bucket, l))
			}
		}
	}
}

func TestPairOfKnownLists(t *testing.T) {
	all := []impl.Back{back(0, 1), back(1, 1), back(2, 1), back(3, 1), back(4, 1), back(5, 1)}
	for _, c := range []struct {
		key, bucket int
		l           []impl.Back
		want        []int
	}{
		{0, 0, all, []int{5, 4}},
		{7, 3, []impl.Back{back(1, 1), back(2, 5), drained(4, 2)}, []int{2, 1}},
		{7, 3, []impl.Back{back(1, 100), back(2, 5)}, []int{1, 2}},
		{7, 3, []impl.Back{back(1, 1), drained(2, 5)}, []int{1, 1}},
		{7, 0, []impl.Back{back(2, 5)}, []int{2, 2}},
		{7, 0, []impl.Back{back(0, 100)}, []int{0, 0}},
		{7, 0, []impl.Back{drained(2, 5)}, nil},
		{7, 0, []impl.Back{drained(0, 1), drained(1, 1), drained(5, 100)}, nil},
		{7, 0, []impl.Back{drained(0, 100), drained(1, 100), back(5, 1)}, []int{5, 5}},
		{7, 0, nil, nil},
		{7, 0, []impl.Back{}, nil},
	} {
		for range 3 {
			if got := impl.PairOf(c.key, c.bucket, c.l); !slices.Equal(got, c.want) {
				t.Errorf("PairOf(%d, %d, %v) = %v, not %v", c.key, c.bucket, c.l, got, c.want)
			}
		}
	}
}

func TestPairOfIsNothingAtWrongArguments(t *testing.T) {
	l := []impl.Back{back(0, 1), back(3, 100)}
	for _, key := range keyEdges {
		for _, bucket := range bucketEdges {
			if got := impl.PairOf(key.n, bucket.n, l); (len(got) == 2) != (key.in && bucket.in) || len(got) != 2 && len(got) != 0 {
				t.Errorf("PairOf(%d, %d) = %v", key.n, bucket.n, got)
			}
		}
	}
	for why, bad := range badLists() {
		if got := impl.PairOf(7, 0, bad); len(got) != 0 {
			t.Errorf("%s: %v", why, got)
		}
	}
}

// With this key, in this bucket, all four of alikeFour score alike.
const alikeKey = 879879
const alikeBucket = 3

func alikeFour() []impl.Back {
	return []impl.Back{back(1, 60), back(2, 45), back(3, 36), back(4, 30)}
}

func TestOfAlikeOnesTheFirstIsTaken(t *testing.T) {
	for _, b := range alikeFour() {
		if got := impl.Score(alikeKey, alikeBucket, b); got != 256789440 {
			t.Fatalf("%v scores %d", b, got)
		}
	}
	for drains := range 16 {
		l := alikeFour()
		for i := range l {
			l[i].Drain = drains>>i&1 == 1
		}
		want := serving(l)
		if len(want) == 1 {
			want = append(want, want[0])
		}
		want = want[:min(2, len(want))]
		if got := impl.PairOf(alikeKey, alikeBucket, l); !slices.Equal(got, want) {
			t.Errorf("%v: %v, not %v", l, got, want)
		}
	}
}

func TestOfAlikeOnesTheFirstIsTheNext(t *testing.T) {
	for _, id := range []int{0, 5} {
		for weight := 1; weight <= 100; weight++ {
			other := back(id, weight)
			l := alikeFour()
			if id == 0 {
				l = slices.Insert(l, 0, other)
			} else {
				l = append(l, other)
			}
			want := []int{1, 2}
			if impl.Score(alikeKey, alikeBucket, other) > 256789440 {
				want = []int{id, 1}
			}
			if got := impl.PairOf(alikeKey, alikeBucket, l); !slices.Equal(got, want) {
				t.Errorf("%v: %v, not %v", l, got, want)
			}
		}
	}
	for _, c := range []struct {
		key, bucket int
		l           []impl.Back
	}{
		{577, 2, []impl.Back{back(2, 63), back(3, 55)}},
		{577, 2, []impl.Back{back(4, 79), back(5, 71)}},
		{2001, 0, []impl.Back{back(0, 16), back(3, 99)}},
		{3147, 2, []impl.Back{back(0, 1), back(2, 8)}},
	} {
		if impl.Score(c.key, c.bucket, c.l[0]) != impl.Score(c.key, c.bucket, c.l[1]) {
			t.Fatalf("key %d, bucket %d: %v do not score alike", c.key, c.bucket, c.l)
		}
		if got := impl.PairOf(c.key, c.bucket, c.l); !slices.Equal(got, []int{c.l[0].Id, c.l[1].Id}) {
			t.Errorf("key %d, bucket %d, %v: %v", c.key, c.bucket, c.l, got)
		}
	}
}

func TestTableOfHasThePairOfEachBucket(t *testing.T) {
	for _, l := range listsOfBacks(3) {
		for _, key := range []int{0, 7, 999999} {
			table := impl.TableOf(key, l)
			if len(table) != impl.Buckets {
				t.Fatalf("key %d, %v: %v", key, l, table)
			}
			for bucket, pair := range table {
				mustBeTheBest(t, key, bucket, l, pair)
				if !slices.Equal(pair, impl.PairOf(key, bucket, l)) {
					t.Fatalf("key %d, %v, bucket %d: %v", key, l, bucket, pair)
				}
			}
		}
	}
}

func TestTableOfNobodyHasEmptyLists(t *testing.T) {
	for _, l := range [][]impl.Back{nil, {}, {drained(3, 4)}, {drained(0, 1), drained(1, 1), drained(2, 1), drained(3, 1), drained(4, 1), drained(5, 1)}} {
		table := impl.TableOf(7, l)
		if len(table) != impl.Buckets {
			t.Errorf("%v: %v", l, table)
		}
		for _, pair := range table {
			if len(pair) != 0 {
				t.Errorf("%v: %v", l, table)
			}
		}
	}
}

func TestTableOfIsNothingAtWrongArguments(t *testing.T) {
	for _, key := range keyEdges {
		for _, l := range [][]impl.Back{nil, {back(2, 3)}, {drained(2, 3)}} {
			table := impl.TableOf(key.n, l)
			if key.in && len(table) != impl.Buckets || !key.in && len(table) != 0 {
				t.Errorf("TableOf(%d, %v) = %v", key.n, l, table)
			}
		}
	}
	for why, bad := range badLists() {
		if table := impl.TableOf(7, bad); len(table) != 0 {
			t.Errorf("%s: %v", why, table)
		}
	}
}

// mustMoveItsOwnAlone wants that what changed from one table to the other are just the pairs that id was in.
func mustMoveItsOwnAlone(t *testing.T, was [][]int, is [][]int, id int) int {
	t.Helper()
	own := 0
	for bucket := range impl.Buckets {
		had := slices.Contains(was[bucket], id)
		if had {
			own++
		}
		if slices.Contains(is[bucket], id) {
			t.Fatalf("%d went, but is in %v", id, is)
		}
		if slices.Equal(was[bucket], is[bucket]) == had {
			t.Fatalf("%d went: bucket %d had %v, has %v", id, bucket, was[bucket], is[bucket])
		}
	}
	if impl.Moved(was, is) != own || impl.Moved(is, was) != own {
		t.Fatalf("%d went: %d and %d moved, not %d", id, impl.Moved(was, is), impl.Moved(is, was), own)
	}
	return own
}

func TestWhoGoesChangesItsOwnPairsAlone(t *testing.T) {
	moved, stayed := 0, 0
	for rule := range 3 {
		for _, l := range listsOfBacks(rule) {
			key := someKeys[(len(l)+rule)%len(someKeys)]
			was := impl.TableOf(key, l)
			for i, b := range l {
				gone := slices.Delete(slices.Clone(l), i, i+1)
				own := mustMoveItsOwnAlone(t, was, impl.TableOf(key, gone), b.Id)
				draining := slices.Clone(l)
				draining[i].Drain = true
				mustMoveItsOwnAlone(t, was, impl.TableOf(key, draining), b.Id)
				moved += own
				stayed += impl.Buckets - own
			}
		}
	}
	if moved < 1000 || stayed < 1000 {
		t.Fatalf("%d moved, %d stayed", moved, stayed)
	}
}

func TestWhoGoesOfAlikeOnesChangesItsOwnPairsAlone(t *testing.T) {
	was := impl.TableOf(alikeKey, alikeFour())
	for i, b := range alikeFour() {
		mustMoveItsOwnAlone(t, was, impl.TableOf(alikeKey, slices.Delete(alikeFour(), i, i+1)), b.Id)
	}
}

// tableOfPairs is a table of Buckets lists that are all alike.
func tableOfPairs(pair ...int) [][]int {
	table := make([][]int, impl.Buckets)
	for i := range table {
		table[i] = slices.Clone(pair)
	}
	return table
}

func TestMovedCountsTheListsThatAreUnlike(t *testing.T) {
	a := tableOfPairs(1, 2)
	others := map[string][]int{
		"turned round": {2, 1}, "shorter": {1}, "longer": {1, 2, 3}, "longer by the same": {1, 2, 2}, "none": {}, "nil": nil,
		"another first": {0, 2}, "another second": {1, 3}, "below 0": {-1, 2}, "very great": {1, math.MaxInt},
	}
	for why, other := range others {
		for changed := range 1 << impl.Buckets {
			b, want := tableOfPairs(1, 2), 0
			for i := range b {
				if changed>>i&1 == 1 {
					b[i] = other
					want++
				}
			}
			if impl.Moved(a, b) != want || impl.Moved(b, a) != want || impl.Moved(b, b) != 0 {
				t.Fatalf("%s: of %v and %v %d moved, not %d", why, a, b, impl.Moved(a, b), want)
			}
		}
	}
	nils := make([][]int, impl.Buckets)
	if impl.Moved(nils, tableOfPairs()) != 0 || impl.Moved(tableOfPairs(), nils) != 0 || impl.Moved(nils, a) != impl.Buckets {
		t.Error("an empty list and nil are not the same")
	}
}

func TestMovedOfTablesThatHaveNotBuckets(t *testing.T) {
	for n := range 2*impl.Buckets + 2 {
		for m := range 2*impl.Buckets + 2 {
			if got := impl.Moved(make([][]int, n), make([][]int, m)); (got == 0) != (n == 8 && m == 8) || got != 0 && got != -1 {
				t.Errorf("%d and %d lists: %d", n, m, got)
			}
		}
	}
	full := tableOfPairs(1, 2)
	if impl.Moved(nil, nil) != -1 || impl.Moved(nil, full) != -1 || impl.Moved(full, nil) != -1 || impl.Moved(full[:7], full[:7]) != -1 {
		t.Error("too few lists are held against each other")
	}
}
