package tests

import (
	"bytes"
	"reflect"
	"slices"
	"testing"

	"loop.example/g00607/impl"
)

// stretch is the memory of one list, its spare room too.
type stretch struct {
	from uintptr
	to   uintptr
}

// stretchesOf are those of all lists in a value, as deep as they lie.
func stretchesOf(v reflect.Value) []stretch {
	var all []stretch
	switch v.Kind() {
	case reflect.Struct:
		for i := range v.NumField() {
			all = append(all, stretchesOf(v.Field(i))...)
		}
	case reflect.Slice:
		if v.Cap() > 0 {
			all = append(all, stretch{v.Pointer(), v.Pointer() + uintptr(v.Cap())*v.Type().Elem().Size()})
		}
		for i := range v.Len() {
			all = append(all, stretchesOf(v.Index(i))...)
		}
	}
	return all
}

// mustBeApart wants that no two lists of an answer share memory, and none with an argument.
func mustBeApart(t *testing.T, why string, answer any, arguments ...any) {
	t.Helper()
	own := stretchesOf(reflect.ValueOf(answer))
	others := own
	for _, a := range arguments {
		others = append(slices.Clip(others), stretchesOf(reflect.ValueOf(a))...)
	}
	for i, one := range own {
		for _, other := range others[i+1:] {
			if one.from < other.to && other.from < one.to {
				t.Fatalf("%s: %v shares memory", why, answer)
			}
		}
	}
}

// wholeOf is a copy of a value in which each list goes on to the end of its memory.
func wholeOf(v reflect.Value) reflect.Value {
	is := reflect.New(v.Type()).Elem()
	switch v.Kind() {
	case reflect.Struct:
		for i := range v.NumField() {
			is.Field(i).Set(wholeOf(v.Field(i)))
		}
	case reflect.Slice:
		v = v.Slice(0, v.Cap())
		is.Set(reflect.MakeSlice(v.Type(), v.Len(), v.Len()))
		for i := range v.Len() {
			is.Index(i).Set(wholeOf(v.Index(i)))
		}
	default:
		is.Set(v)
	}
	return is
}

// mustBeUntouched calls do and wants all memory of what is given to stay as it was.
func mustBeUntouched(t *testing.T, why string, given any, do func()) {
	t.Helper()
	was := wholeOf(reflect.ValueOf(given)).Interface()
	do()
	if is := wholeOf(reflect.ValueOf(given)).Interface(); !reflect.DeepEqual(was, is) {
		t.Fatalf("%s: %v became %v", why, was, is)
	}
}

// roomyPool is a copy of p with spare room behind each list, full of what could be taken for a part of it.
func roomyPool(p impl.Pool) impl.Pool {
	room := impl.Pool{Key: p.Key}
	room.Backs, _ = roomyBacks(p.Backs)
	for _, table := range p.Ring {
		own, _ := roomyTable(table)
		room.Ring = append(room.Ring, own)
	}
	room.Ring = append(room.Ring, tableOfPairs(4, 5), tableOfPairs(5, 4))[:len(p.Ring)]
	return room
}

func roomyJournal(j impl.Journal) impl.Journal {
	whole := append(slices.Clone(j.L), slices.Repeat([]impl.PoolCmd{add(0, 77), remove(0)}, 3)...)
	j.L = whole[:len(j.L)]
	return j
}

// poolsForMemory are good ones, ones whose lists share memory, and ones that are none.
func poolsForMemory(t *testing.T) []impl.Pool {
	t.Helper()
	all := somePools(t)
	for _, bad := range badPools() {
		all = append(all, bad)
	}
	for i := range all {
		all[i] = roomyPool(all[i])
	}
	return append(all, sharingPool(), emptyWithRoom())
}

// sharingPool is a good pool all of whose lists are one.
func sharingPool() impl.Pool {
	one := []int{2, 2}
	table := slices.Repeat([][]int{one}, impl.Buckets)
	return impl.Pool{Key: 7, Backs: []impl.Back{back(2, 5)}, Ring: slices.Repeat([][][]int{table}, impl.Epochs)}
}

// emptyWithRoom is a good pool whose empty lists have memory behind them.
func emptyWithRoom() impl.Pool {
	table := make([][]int, impl.Buckets)
	for i := range table {
		table[i] = []int{1, 2}[:0]
	}
	return impl.Pool{Key: 7, Backs: []impl.Back{back(2, 5)}[:0], Ring: [][][]int{table}}
}

func journalsForMemory() []impl.Journal {
	all := goodJournals()
	for _, bad := range badJournals() {
		all = append(all, bad)
	}
	for i := range all {
		all[i] = roomyJournal(all[i])
	}
	return append(all, impl.Journal{Key: 7, L: []impl.PoolCmd{add(1, 1)}[:0]})
}

// cmdsForMemory are some that can be done, some that can't, and one that is none.
func cmdsForMemory() []impl.PoolCmd {
	var all []impl.PoolCmd
	for id := range impl.MaxBack {
		all = append(all, add(id, 9), weigh(id, 9), drain(id), remove(id))
	}
	return append(all, impl.PoolCmd{Kind: 4})
}

func TestTheMemoryTestsThemselves(t *testing.T) {
	if len(stretchesOf(reflect.ValueOf(threeServe()))) != 2+impl.Epochs+impl.Epochs*impl.Buckets || !impl.PoolOk(sharingPool()) || !impl.PoolOk(emptyWithRoom()) {
		t.Fatal("not each list is seen")
	}
	mustBeApart(t, "two pools", threeServe(), threeServe())
	p, whole := threeServe(), []impl.Back{back(0, 1), back(1, 1)}
	p.Backs = whole[:1]
	was := wholeOf(reflect.ValueOf(p)).Interface()
	whole[1].Weight = 2
	if reflect.DeepEqual(was, wholeOf(reflect.ValueOf(p)).Interface()) {
		t.Fatal("spare room is not seen")
	}
}

func TestNoPoolIsWrittenIntoNorItsSpareRoom(t *testing.T) {
	for _, p := range poolsForMemory(t) {
		mustBeUntouched(t, "a pool", p, func() {
			impl.PoolOk(p)
			for bucket := -1; bucket <= impl.Buckets; bucket++ {
				impl.Candidates(p, bucket)
			}
			for _, c := range cmdsForMemory() {
				impl.PoolDo(p, c)
			}
		})
	}
}

func TestNoJournalIsWrittenIntoNorItsSpareRoom(t *testing.T) {
	for _, j := range journalsForMemory() {
		mustBeUntouched(t, "a journal", j, func() {
			impl.JournalOk(j)
			impl.Replay(j)
			impl.JournalBytes(j)
			for _, keep := range []int{-1, 0, 1, 100} {
				impl.Cut(j, keep)
			}
			for _, c := range cmdsForMemory() {
				impl.Note(j, c)
			}
		})
	}
}

func TestWhatIsToldOfPoolsIsNewMemory(t *testing.T) {
	for _, p := range poolsForMemory(t) {
		for _, c := range cmdsForMemory() {
			got, _ := impl.PoolDo(p, c)
			again, _ := impl.PoolDo(p, c)
			mustBeApart(t, "PoolDo", got, again, p)
		}
		for bucket := range impl.Buckets {
			mustBeApart(t, "Candidates", impl.Candidates(p, bucket), impl.Candidates(p, bucket), p)
		}
	}
	for _, key := range someKeys {
		p, _ := impl.PoolNew(key)
		again, _ := impl.PoolNew(key)
		mustBeApart(t, "PoolNew", p, again)
	}
}

func TestWhatIsToldOfJournalsIsNewMemory(t *testing.T) {
	for _, j := range journalsForMemory() {
		for _, c := range cmdsForMemory() {
			got, _ := impl.Note(j, c)
			again, _ := impl.Note(j, c)
			mustBeApart(t, "Note", got, again, j)
		}
		for _, keep := range []int{0, 1, 2, 100} {
			mustBeApart(t, "Cut", impl.Cut(j, keep), impl.Cut(j, keep), j)
		}
		p, _ := impl.Replay(j)
		next, _ := impl.Replay(j)
		mustBeApart(t, "Replay", p, next, j)
		b, _ := impl.JournalBytes(j)
		more, _ := impl.JournalBytes(j)
		mustBeApart(t, "JournalBytes", b, more, j)
	}
}

func TestJournalReadIsNewMemory(t *testing.T) {
	for _, j := range goodJournals() {
		b, whole := roomy(journalBytes(t, j))
		before := bytes.Clone(whole)
		got, ok := impl.JournalRead(b)
		again, _ := impl.JournalRead(b)
		mustBeApart(t, "JournalRead", got, again, b)
		if !ok || !bytes.Equal(whole, before) {
			t.Fatalf("%v: reading wrote", j)
		}
		impl.JournalRead(b[:len(b)-1])
		if !bytes.Equal(whole, before) {
			t.Fatalf("%v: reading in vain wrote", j)
		}
	}
}

func TestPoolsAndJournalsAreNotReadFromSpareRoom(t *testing.T) {
	for _, p := range somePools(t) {
		room := roomyPool(p)
		if !impl.PoolOk(room) || !slices.Equal(impl.Candidates(p, 3), impl.Candidates(room, 3)) {
			t.Fatalf("%v: spare room is seen", p)
		}
		for _, c := range cmdsForMemory() {
			want, can := impl.PoolDo(p, c)
			if got, ok := impl.PoolDo(room, c); ok != can || !samePool(got, want) {
				t.Fatalf("%v of %v: spare room is seen", c, p)
			}
		}
	}
	for _, j := range goodJournals() {
		room := roomyJournal(j)
		want, _ := impl.Replay(j)
		p, ok := impl.Replay(room)
		if !ok || !samePool(p, want) || !bytes.Equal(journalBytes(t, room), journalBytes(t, j)) || !sameJournal(impl.Cut(room, 100), impl.Cut(j, 100)) {
			t.Fatalf("%v: spare room is seen", j)
		}
		b, _ := roomy(journalBytes(t, j))
		if got, ok := impl.JournalRead(b); !ok || !sameJournal(got, j) {
			t.Fatalf("%v: spare room behind its bytes is seen", j)
		}
	}
}

func TestNothingOfAPoolIsKept(t *testing.T) {
	j := impl.Journal{Key: 7, L: walk(7, 4, 9), Safe: 3}
	p, _ := impl.Replay(j)
	next, _ := impl.PoolDo(p, zeroTurns(p))
	seen := impl.Candidates(p, 3)
	for _, other := range goodJournals() {
		q, _ := impl.Replay(other)
		impl.PoolDo(q, zeroTurns(q))
		impl.Candidates(q, 3)
		impl.Note(other, add(1, 1))
	}
	again, _ := impl.Replay(j)
	behind, _ := impl.PoolDo(p, zeroTurns(p))
	if !samePool(p, again) || !samePool(next, behind) || !slices.Equal(seen, impl.Candidates(p, 3)) {
		t.Fatal("the same call answers something else")
	}
}

// zeroTurns is a command that can be done: whoever has Id 0 goes, or comes.
func zeroTurns(p impl.Pool) impl.PoolCmd {
	if len(p.Backs) > 0 && p.Backs[0].Id == 0 {
		return remove(0)
	}
	return add(0, 5)
}
