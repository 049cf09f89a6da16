package tests

import (
	"slices"
	"testing"

	"loop.example/g00607/impl"
)

// roomyBacks is a copy of l with spare room behind it that is full of good ones, and all of that memory.
func roomyBacks(l []impl.Back) ([]impl.Back, []impl.Back) {
	whole := append(slices.Clone(l), slices.Repeat([]impl.Back{back(5, 100)}, 10)...)
	return whole[:len(l)], whole
}

// roomyTable is a copy of a table with spare room behind it and behind each of its lists, and all of that memory.
func roomyTable(table [][]int) ([][]int, [][]int) {
	var whole [][]int
	for _, pair := range table {
		room := append(slices.Clone(pair), 77, 78, 79)
		whole = append(whole, room[:len(pair)])
	}
	for range 4 {
		whole = append(whole, []int{80, 81})
	}
	return whole[:len(table)], whole
}

// allOf is a copy of a table with what lies behind each of its lists.
func allOf(table [][]int) [][]int {
	var all [][]int
	for _, pair := range table {
		all = append(all, slices.Clone(pair[:cap(pair)]))
	}
	return all
}

// scribbleInts writes over all memory of an answer, its spare room too.
func scribbleInts(l []int) {
	l = l[:cap(l)]
	for i := range l {
		l[i] = -9
	}
}

func scribbleTable(table [][]int) {
	for i, pair := range table {
		scribbleInts(pair)
		table[i] = nil
	}
}

// backsForMemory are good lists and ones that are none.
func backsForMemory() [][]impl.Back {
	all := listsOfBacks(11)
	for _, bad := range badLists() {
		all = append(all, bad)
	}
	return all
}

func TestNoListOfBacksIsWrittenIntoNorItsSpareRoom(t *testing.T) {
	for _, l := range backsForMemory() {
		given, whole := roomyBacks(l)
		kept := slices.Clone(whole)
		impl.BacksOk(given)
		pair := impl.PairOf(7, 3, given)
		table := impl.TableOf(7, given)
		if !slices.Equal(whole, kept) {
			t.Fatalf("%v was written into", l)
		}
		scribbleInts(pair)
		scribbleTable(table)
		if !slices.Equal(whole, kept) {
			t.Fatalf("%v shares memory with an answer", l)
		}
	}
}

func TestBacksAreNotReadFromSpareRoom(t *testing.T) {
	for _, l := range backsForMemory() {
		given, _ := roomyBacks(l)
		if impl.BacksOk(given) != impl.BacksOk(l) || !slices.Equal(impl.PairOf(7, 3, given), impl.PairOf(7, 3, l)) || !sameTable(impl.TableOf(7, given), impl.TableOf(7, l)) {
			t.Fatalf("%v: spare room is seen", l)
		}
	}
}

func TestPairsAndTablesAreNewMemory(t *testing.T) {
	for _, l := range listsOfBacks(11) {
		pair, again := impl.PairOf(7, 3, l), impl.PairOf(7, 3, l)
		table, next := impl.TableOf(7, l), impl.TableOf(7, l)
		keptPair, kept := slices.Clone(again), allOf(next)
		scribbleInts(pair)
		scribbleTable(table)
		if !slices.Equal(again, keptPair) || !sameTable(allOf(next), kept) {
			t.Fatalf("%v: two answers share memory", l)
		}
	}
}

func TestNoTwoListsOfATableShareMemory(t *testing.T) {
	for _, l := range listsOfBacks(5) {
		table := impl.TableOf(999999, l)
		kept := allOf(table)
		for i, pair := range table {
			scribbleInts(pair)
			for j := i + 1; j < len(table); j++ {
				if !slices.Equal(table[j][:cap(table[j])], kept[j]) {
					t.Fatalf("%v: lists %d and %d share memory", l, i, j)
				}
			}
		}
	}
}

func TestMovedWritesIntoNoTable(t *testing.T) {
	for _, l := range listsOfBacks(2) {
		plain, other := impl.TableOf(7, l), impl.TableOf(8, l)
		a, wholeA := roomyTable(plain)
		b, wholeB := roomyTable(other)
		keptA, keptB := allOf(wholeA), allOf(wholeB)
		got := impl.Moved(a, b)
		if got != impl.Moved(plain, other) {
			t.Fatalf("%v and %v: spare room is seen", plain, other)
		}
		impl.Moved(a[:7], b)
		impl.Moved(a, wholeB)
		if !sameTable(allOf(wholeA), keptA) || !sameTable(allOf(wholeB), keptB) {
			t.Fatalf("%v and %v: one was written into", plain, other)
		}
	}
}

func TestNothingOfAPairIsKept(t *testing.T) {
	l := []impl.Back{back(1, 60), back(2, 45), drained(3, 36), back(5, 30)}
	hash, bucket, pair, table := impl.HashOf(7, 258), impl.BucketOf(7, flow(258, 80)), impl.PairOf(7, 3, l), impl.TableOf(7, l)
	for _, other := range backsForMemory() {
		for _, key := range someKeys {
			impl.HashOf(key, 9)
			impl.BucketOf(key, flow(258, 81))
			impl.PairOf(key, 3, other)
		}
		impl.TableOf(7, other)
	}
	if impl.HashOf(7, 258) != hash || impl.BucketOf(7, flow(258, 80)) != bucket || !slices.Equal(impl.PairOf(7, 3, l), pair) || !sameTable(impl.TableOf(7, l), table) {
		t.Fatal("the same call answers something else")
	}
}
