package tests

import (
	"bytes"
	"math"
	"slices"
	"strconv"
	"testing"

	"loop.example/g00607/impl"
)

// mostNoted is how many commands a journal may hold.
const mostNoted = 100

func sameJournal(a impl.Journal, b impl.Journal) bool {
	return a.Key == b.Key && slices.Equal(a.L, b.L) && a.Safe == b.Safe
}

// longJournal has n commands that can all be done, all Safe.
func longJournal(n int) impl.Journal {
	j := impl.Journal{Key: 7, Safe: n}
	for i := range n {
		if i < impl.MaxBack {
			j.L = append(j.L, add(i, 1+i))
		} else {
			j.L = append(j.L, weigh(i%impl.MaxBack, 1+i%100))
		}
	}
	return j
}

// goodJournals are journals at and between all limits.
func goodJournals() []impl.Journal {
	all := []impl.Journal{{}, {Key: 999999}, longJournal(mostNoted - 1), longJournal(mostNoted)}
	for i, key := range someKeys {
		for _, n := range []int{0, 1, 2, 5, 30, 99, 100} {
			for _, safe := range []int{0, n / 2, n} {
				all = append(all, impl.Journal{Key: key, L: walk(key, i+n, n), Safe: safe})
			}
		}
	}
	return all
}

// badJournals are journals of which one thing alone is wrong.
func badJournals() map[string]impl.Journal {
	bad := map[string]impl.Journal{
		"one too many":              longJournal(mostNoted + 1),
		"one too many, none Safe":   {Key: 7, L: longJournal(mostNoted + 1).L},
		"very many":                 longJournal(1000),
		"Safe -1":                   {Key: 7, Safe: -1},
		"Safe -1 of some":           {Key: 7, L: []impl.PoolCmd{add(1, 1)}, Safe: -1},
		"Safe 1 of none":            {Key: 7, Safe: 1},
		"Safe 2 of one":             {Key: 7, L: []impl.PoolCmd{add(1, 1)}, Safe: 2},
		"Safe 101 of 100":           {Key: 7, L: longJournal(mostNoted).L, Safe: 101},
		"Safe very great":           {Key: 7, L: []impl.PoolCmd{add(1, 1)}, Safe: math.MaxInt},
		"Safe very small":           {Key: 7, L: []impl.PoolCmd{add(1, 1)}, Safe: math.MinInt},
		"weighed, not there":        {Key: 7, L: []impl.PoolCmd{weigh(1, 1)}},
		"drained, not there":        {Key: 7, L: []impl.PoolCmd{drain(1)}},
		"removed, not there":        {Key: 7, L: []impl.PoolCmd{remove(1)}},
		"added twice":               {Key: 7, L: []impl.PoolCmd{add(1, 1), add(1, 1)}},
		"added twice, far apart":    {Key: 7, L: []impl.PoolCmd{add(1, 1), add(2, 1), weigh(1, 5), drain(2), add(2, 9), remove(1)}},
		"added while it drains":     {Key: 7, L: []impl.PoolCmd{add(1, 1), drain(1), add(1, 1)}},
		"removed twice":             {Key: 7, L: []impl.PoolCmd{add(1, 1), remove(1), remove(1)}},
		"another is there":          {Key: 7, L: []impl.PoolCmd{add(1, 1), weigh(2, 1)}},
		"the order is turned round": {Key: 7, L: []impl.PoolCmd{drain(1), add(1, 1)}},
	}
	for _, key := range keyEdges {
		if !key.in {
			bad["Key "+strconv.Itoa(key.n)] = impl.Journal{Key: key.n}
			bad["Key with some "+strconv.Itoa(key.n)] = impl.Journal{Key: key.n, L: []impl.PoolCmd{add(1, 1)}, Safe: 1}
		}
	}
	for why, c := range badCmds() {
		bad[why+" first"] = impl.Journal{Key: 7, L: []impl.PoolCmd{c, add(1, 1)}}
		bad[why+" at last"] = impl.Journal{Key: 7, L: []impl.PoolCmd{add(1, 1), add(3, 1), c}, Safe: 2}
		bad[why+" of one that is there"] = impl.Journal{Key: 7, L: []impl.PoolCmd{add(2, 1), c}, Safe: 2}
	}
	for at := range mostNoted - impl.MaxBack {
		j := longJournal(mostNoted)
		j.L[impl.MaxBack+at] = add(at%impl.MaxBack, 1)
		bad["would be false at "+strconv.Itoa(impl.MaxBack+at)] = j
	}
	return bad
}

func TestJournalOkWithinItsLimits(t *testing.T) {
	for _, j := range goodJournals() {
		if !impl.JournalOk(j) {
			t.Errorf("%v is refused", j)
		}
	}
	for why, j := range badJournals() {
		if impl.JournalOk(j) {
			t.Errorf("%s is accepted: %v", why, j)
		}
	}
}

func TestJournalOkAtItsEdges(t *testing.T) {
	for _, key := range keyEdges {
		for _, n := range []int{0, 1, 99, 100, 101, 102} {
			for _, safe := range []int{math.MinInt, -1, 0, 1, n - 1, n, n + 1, math.MaxInt} {
				j := impl.Journal{Key: key.n, L: longJournal(n).L, Safe: safe}
				want := key.in && n <= mostNoted && safe >= 0 && safe <= n
				if got := impl.JournalOk(j); got != want {
					t.Errorf("Key %d, %d commands, Safe %d: %v", key.n, n, safe, got)
				}
			}
		}
	}
}

func TestReplayIsWhatCommandsLeave(t *testing.T) {
	for _, j := range goodJournals() {
		m := newModel(j.Key)
		for _, c := range j.L {
			m, _ = m.done(c)
		}
		want := m.pool()
		p, ok := impl.Replay(j)
		if !ok || !samePool(p, want) || !samePool(p, poolBehind(t, j.Key, j.L...)) || !impl.PoolOk(p) {
			t.Fatalf("%v is replayed as %v, %v, not %v", j, p, ok, want)
		}
	}
}

func TestReplayPlaysNoHeedToSafe(t *testing.T) {
	for n := range 8 {
		want := poolBehind(t, 7, walk(7, 3, n)...)
		for safe := range n + 1 {
			if p, ok := impl.Replay(impl.Journal{Key: 7, L: walk(7, 3, n), Safe: safe}); !ok || !samePool(p, want) {
				t.Fatalf("%d commands, %d Safe: %v, %v", n, safe, p, ok)
			}
		}
	}
}

func TestWhatIsNotedIsReplayed(t *testing.T) {
	noted, not := 0, 0
	for _, j := range goodJournals() {
		was, _ := impl.Replay(j)
		for _, c := range allCmds() {
			want, can := impl.PoolDo(was, c)
			can = can && len(j.L) < mostNoted
			got, ok := impl.Note(j, c)
			if ok != can {
				t.Fatalf("Note(%v, %v): %v", j, c, ok)
			}
			if !ok {
				not++
				if !sameJournal(got, j) {
					t.Fatalf("Note(%v, %v) is not done, but %v", j, c, got)
				}
				continue
			}
			noted++
			whole := impl.Journal{Key: j.Key, L: append(slices.Clone(j.L), c), Safe: len(j.L) + 1}
			p, fine := impl.Replay(got)
			if !sameJournal(got, whole) || !impl.JournalOk(got) || !fine || !samePool(p, want) {
				t.Fatalf("Note(%v, %v) = %v, replayed as %v", j, c, got, p)
			}
		}
	}
	if noted < 1000 || not < 1000 {
		t.Fatalf("%d were noted, %d were not", noted, not)
	}
}

func TestNoteWhereThereAreSoMany(t *testing.T) {
	for n := mostNoted - 2; n <= mostNoted; n++ {
		for _, safe := range []int{0, 50, n} {
			j := impl.Journal{Key: 7, L: longJournal(n).L, Safe: safe}
			for _, c := range []impl.PoolCmd{weigh(1, 1), drain(0), remove(5)} {
				got, ok := impl.Note(j, c)
				if ok != (n < mostNoted) || ok && (len(got.L) != n+1 || got.Safe != n+1) || !ok && !sameJournal(got, j) {
					t.Errorf("of %d, %d Safe, %v: %v, %v", n, safe, c, got, ok)
				}
			}
			if got, ok := impl.Note(j, add(3, 1)); ok || !sameJournal(got, j) {
				t.Errorf("of %d, %d Safe, one that is there: %v, %v", n, safe, got, ok)
			}
			if got, ok := impl.Note(j, add(3, 0)); ok || !sameJournal(got, impl.Journal{}) {
				t.Errorf("of %d, %d Safe, one that is none: %v, %v", n, safe, got, ok)
			}
		}
	}
}

func TestNoteOfWrongArguments(t *testing.T) {
	for why, c := range badCmds() {
		for _, j := range []impl.Journal{{}, {Key: 7}, {Key: 7, L: []impl.PoolCmd{add(2, 1)}, Safe: 1}, longJournal(99)} {
			if got, ok := impl.Note(j, c); ok || !sameJournal(got, impl.Journal{}) {
				t.Errorf("%s behind %v: %v, %v", why, j, got, ok)
			}
		}
	}
	for why, j := range badJournals() {
		for _, c := range []impl.PoolCmd{add(0, 1), weigh(1, 1), drain(1), remove(3), {Kind: 4}} {
			if got, ok := impl.Note(j, c); ok || !sameJournal(got, impl.Journal{}) {
				t.Errorf("%v behind %s: %v, %v", c, why, got, ok)
			}
		}
	}
}

func TestWhatIsSafeIsThereBehindACut(t *testing.T) {
	for _, j := range goodJournals() {
		n := len(j.L)
		for _, keep := range []int{0, 1, 2, n - j.Safe - 1, n - j.Safe, n - j.Safe + 1, n, n + 1, 1000, math.MaxInt - n, math.MaxInt - 1, math.MaxInt} {
			if keep < 0 {
				continue
			}
			left := n
			if keep < n-j.Safe {
				left = j.Safe + keep
			}
			got := impl.Cut(j, keep)
			if got.Key != j.Key || !slices.Equal(got.L, j.L[:left]) || got.Safe != left || left < j.Safe || !impl.JournalOk(got) {
				t.Fatalf("Cut(%v, %d) = %v", j, keep, got)
			}
			for _, again := range []int{0, 1, math.MaxInt} {
				if !sameJournal(impl.Cut(got, again), got) {
					t.Fatalf("Cut(%v, %d), cut again: not all was Safe", j, keep)
				}
			}
		}
	}
}

func TestCutKeepsWhatWasNoted(t *testing.T) {
	j := impl.Journal{Key: 7}
	for _, c := range walk(7, 9, mostNoted) {
		var ok bool
		j, ok = impl.Note(j, c)
		if !ok || !sameJournal(impl.Cut(j, 0), j) {
			t.Fatalf("%v, noted last in %v, is lost", c, j)
		}
	}
}

func TestCutAtWrongArguments(t *testing.T) {
	for _, j := range goodJournals() {
		for _, keep := range []int{math.MinInt, -100, -1} {
			if got := impl.Cut(j, keep); !sameJournal(got, impl.Journal{}) {
				t.Fatalf("Cut(%v, %d) = %v", j, keep, got)
			}
		}
	}
	for why, j := range badJournals() {
		for _, keep := range []int{-1, 0, 1, 100, math.MaxInt} {
			if got := impl.Cut(j, keep); !sameJournal(got, impl.Journal{}) {
				t.Errorf("%s, keep %d: %v", why, keep, got)
			}
		}
	}
}

func TestNoJournalHasOneFixedAnswer(t *testing.T) {
	for why, j := range badJournals() {
		if p, ok := impl.Replay(j); ok || !samePool(p, impl.Pool{}) {
			t.Errorf("%s is replayed as %v, %v", why, p, ok)
		}
		if b, ok := impl.JournalBytes(j); ok || len(b) != 0 {
			t.Errorf("%s: % x, %v", why, b, ok)
		}
	}
}

func TestJournalBytesOfKnownJournals(t *testing.T) {
	for _, c := range []struct {
		j    impl.Journal
		want []byte
	}{
		{impl.Journal{}, []byte{0, 0, 0, 0}},
		{impl.Journal{Key: 7}, []byte{0, 0, 7, 0}},
		{impl.Journal{Key: 258}, []byte{0, 1, 2, 0}},
		{impl.Journal{Key: 66051}, []byte{1, 2, 3, 0}},
		{impl.Journal{Key: 999999}, []byte{0x0f, 0x42, 0x3f, 0}},
		{impl.Journal{Key: 7, L: []impl.PoolCmd{add(2, 5)}, Safe: 1}, []byte{0, 0, 7, 1, 0, 2, 5}},
		{impl.Journal{Key: 7, L: []impl.PoolCmd{add(5, 100), weigh(5, 1), drain(5), remove(5)}, Safe: 3}, []byte{0, 0, 7, 3, 0, 5, 100, 1, 5, 1, 2, 5, 0, 3, 5, 0}},
	} {
		b, ok := impl.JournalBytes(c.j)
		if !ok || !bytes.Equal(b, c.want) {
			t.Errorf("%v: % x, %v, not % x", c.j, b, ok, c.want)
		}
	}
}

// journalBytes is JournalBytes of what has to be a journal.
func journalBytes(t *testing.T, j impl.Journal) []byte {
	t.Helper()
	b, ok := impl.JournalBytes(j)
	if !ok || len(b) != 4+3*len(j.L) {
		t.Fatalf("%v: % x, %v", j, b, ok)
	}
	return b
}

// mustBeNoJournal wants the zero value and false.
func mustBeNoJournal(t *testing.T, why string, b []byte) {
	t.Helper()
	j, ok := impl.JournalRead(b)
	if ok || !sameJournal(j, impl.Journal{}) {
		t.Fatalf("%s: % x was read as %v, %v", why, b, j, ok)
	}
}

// readJustItself tells whether b is read; what is read has to have just these bytes.
func readJustItself(t *testing.T, b []byte) bool {
	t.Helper()
	j, ok := impl.JournalRead(b)
	if !ok {
		mustBeNoJournal(t, "refused", b)
		return false
	}
	if !impl.JournalOk(j) || !bytes.Equal(journalBytes(t, j), b) {
		t.Fatalf("% x was read as %v", b, j)
	}
	return true
}

func TestJournalsComeBackFromTheirBytes(t *testing.T) {
	for _, j := range goodJournals() {
		got, ok := impl.JournalRead(journalBytes(t, j))
		if !ok || !sameJournal(got, j) {
			t.Fatalf("%v came back as %v, %v", j, got, ok)
		}
	}
}

func TestBytesOfAnotherLengthAreNoJournal(t *testing.T) {
	mustBeNoJournal(t, "nil", nil)
	for _, j := range goodJournals() {
		b := journalBytes(t, j)
		j.Safe = len(j.L)
		whole := journalBytes(t, j)
		for n := range b {
			mustBeNoJournal(t, "cut short with all Safe", whole[:n])
			if readJustItself(t, b[:n]) && (n < 4 || n%3 != 1) {
				t.Fatalf("% x is read", b[:n])
			}
		}
		for _, last := range []byte{0, 1, 2, 3, 255} {
			mustBeNoJournal(t, "one too many", append(bytes.Clone(b), last))
			mustBeNoJournal(t, "two too many", append(bytes.Clone(b), 1, last))
		}
		mustBeNoJournal(t, "one more that is none", append(bytes.Clone(b), 4, 0, 0))
	}
	full := journalBytes(t, longJournal(mostNoted))
	mustBeNoJournal(t, "one command too many", append(full, 1, 0, 9))
	mustBeNoJournal(t, "very many", slices.Concat(full, bytes.Repeat([]byte{1, 0, 9}, 1000)))
}

func TestJournalBytesWithAnyNumberOutOfItsPlace(t *testing.T) {
	for i, j := range goodJournals() {
		// Of long ones not each number is tried, as there are too many.
		step := 1
		if len(j.L) > 5 {
			step = 51
		}
		if len(j.L) > 5 && i%8 != 3 {
			continue
		}
		b := journalBytes(t, j)
		for at := range b {
			for more := step; more < 256; more += step {
				turned := bytes.Clone(b)
				turned[at] += byte(more)
				got, ok := impl.JournalRead(turned)
				if want := journalOf(turned); ok != impl.JournalOk(want) || ok && !sameJournal(got, want) {
					t.Fatalf("% x was read as %v, %v", turned, got, ok)
				}
				readJustItself(t, turned)
			}
		}
	}
}

// journalOf reads bytes of the right length, be it a journal or not.
func journalOf(b []byte) impl.Journal {
	j := impl.Journal{Key: 65536*int(b[0]) + 256*int(b[1]) + int(b[2]), Safe: int(b[3])}
	for rest := b[4:]; len(rest) > 0; rest = rest[3:] {
		j.L = append(j.L, impl.PoolCmd{Kind: int(rest[0]), Id: int(rest[1]), Weight: int(rest[2])})
	}
	return j
}

func TestBytesThatNoJournalHas(t *testing.T) {
	for why, b := range map[string][]byte{
		"Key 1000000":             {0x0f, 0x42, 0x40, 0},
		"Key of three bytes":      {255, 255, 255, 0},
		"Safe 1 of none":          {0, 0, 7, 1},
		"Safe 2 of one":           {0, 0, 7, 2, 0, 2, 5},
		"Safe 255 of one":         {0, 0, 7, 255, 0, 2, 5},
		"Kind 4":                  {0, 0, 7, 1, 4, 2, 0},
		"Kind 255":                {0, 0, 7, 1, 255, 2, 5},
		"Id MaxBack":              {0, 0, 7, 1, 0, impl.MaxBack, 5},
		"Id 255":                  {0, 0, 7, 1, 0, 255, 5},
		"Weight 0":                {0, 0, 7, 1, 0, 2, 0},
		"Weight 101":              {0, 0, 7, 1, 0, 2, 101},
		"weighed, not there":      {0, 0, 7, 1, 1, 2, 5},
		"drained, not there":      {0, 0, 7, 1, 2, 2, 0},
		"removed, not there":      {0, 0, 7, 1, 3, 2, 0},
		"drained with Weight":     {0, 0, 7, 2, 0, 2, 5, 2, 2, 5},
		"removed with Weight":     {0, 0, 7, 2, 0, 2, 5, 3, 2, 1},
		"added twice":             {0, 0, 7, 2, 0, 2, 5, 0, 2, 5},
		"a command of two bytes":  {0, 0, 7, 1, 0, 2},
		"a command of one byte":   {0, 0, 7, 0, 0},
		"a head of three bytes":   {0, 0, 7},
		"another byte at the end": {0, 0, 7, 1, 0, 2, 5, 0},
	} {
		mustBeNoJournal(t, why, b)
	}
}

func TestWhateverIsReadAsAJournalIsJustItsBytes(t *testing.T) {
	draws, read := lot(11), 0
	for range 20000 {
		b := []byte{byte(draws.below(16)), byte(draws.below(256)), byte(draws.below(256)), byte(draws.below(3))}
		for range draws.below(5) {
			b = append(b, byte(draws.below(5)), byte(draws.below(3)), byte(draws.below(3)))
		}
		for range draws.below(20) / 18 {
			b = append(b, byte(draws.below(256)))
		}
		if readJustItself(t, b) {
			read++
		}
	}
	if read < 1000 {
		t.Fatalf("of all only %d were read", read)
	}
}
