package tests

import (
	"fmt"
	"math"
	"strings"
	"testing"

	"loop.example/g00607/impl"
)

// poolLines says in its own way what lines a good pool has.
func poolLines(p impl.Pool) []string {
	var lines []string
	for _, b := range p.Backs {
		line := fmt.Sprintf("back %d weight %d", b.Id, b.Weight)
		if b.Drain {
			line += " drains"
		}
		lines = append(lines, line)
	}
	for bucket := range impl.Buckets {
		words := append([]string{"bucket", fmt.Sprint(bucket)}, strings.Fields(strings.Trim(fmt.Sprint(p.Ring[0][bucket]), "[]"))...)
		lines = append(lines, strings.Join(words, " "))
	}
	return lines
}

// clusterLines says in its own way what lines a good cluster has.
func clusterLines(c impl.Cluster) []string {
	lines := []string{fmt.Sprint("now ", c.Now, " got ", len(c.Got), " rst ", c.Rst, " gone ", c.Gone)}
	for _, a := range c.Agents {
		lines = append(lines, strings.TrimSuffix(string(impl.AgentText(a)), "\n"))
	}
	for _, m := range c.Bag {
		line := fmt.Sprintf("word %d:%d %d", m.Flow.Addr, m.Flow.Port, m.Back)
		if m.Kind == impl.MlCarrier {
			line = string(impl.CarrierText(m.C))
		}
		lines = append(lines, line)
	}
	return lines
}

// mustBeLines wants each line to have its end, and no blank ahead of that.
func mustBeLines(t *testing.T, text []byte, lines []string) {
	t.Helper()
	if want := strings.Join(lines, "\n") + "\n"; string(text) != want {
		t.Fatalf("%q, not %q", text, want)
	}
	if strings.Count(string(text), "\n") != len(lines) || strings.Contains(string(text), " \n") {
		t.Fatalf("not %d lines: %q", len(lines), text)
	}
}

func TestPoolTextHasALineForEachPart(t *testing.T) {
	drained, empty := 0, 0
	for _, p := range append(somePools(t), sharingPool(), emptyWithRoom()) {
		text := impl.PoolText(p)
		mustBeLines(t, text, poolLines(p))
		if n := strings.Count(string(text), "\n"); n != len(p.Backs)+impl.Buckets {
			t.Fatalf("%v: %d lines", p, n)
		}
		drained += strings.Count(string(text), " drains\n")
		empty += strings.Count(string(text), "bucket 0\n")
	}
	if drained < 5 || empty < 2 {
		t.Errorf("%d drained, %d buckets were empty", drained, empty)
	}
}

func TestPoolTextOfKnownPools(t *testing.T) {
	nobody := "bucket 0\nbucket 1\nbucket 2\nbucket 3\nbucket 4\nbucket 5\nbucket 6\nbucket 7\n"
	alone := "bucket 0 3 3\nbucket 1 3 3\nbucket 2 3 3\nbucket 3 3 3\nbucket 4 3 3\nbucket 5 3 3\nbucket 6 3 3\nbucket 7 3 3\n"
	pairs := "bucket 0 2 1\nbucket 1 2 4\nbucket 2 2 4\nbucket 3 2 4\nbucket 4 2 4\nbucket 5 2 4\nbucket 6 2 4\nbucket 7 1 4\n"
	for _, s := range []struct {
		why  string
		p    impl.Pool
		want string
	}{
		{"nobody was ever there", poolBehind(t, 7), nobody},
		{"all went", poolBehind(t, 7, add(3, 9), remove(3)), nobody},
		{"one is there", poolBehind(t, 7, add(3, 9)), "back 3 weight 9\n" + alone},
		{"one drains", poolBehind(t, 7, add(3, 100), drain(3)), "back 3 weight 100 drains\n" + nobody},
		{"one of two drains", poolBehind(t, 7, add(3, 1), add(5, 100), drain(5)), "back 3 weight 1\nback 5 weight 100 drains\n" + alone},
		{"one of two drained, and went", poolBehind(t, 7, add(3, 1), add(0, 5), drain(0), remove(0)), "back 3 weight 1\n" + alone},
		{"three are there", poolBehind(t, 7, add(4, 2), add(1, 1), add(2, 5)), "back 1 weight 1\nback 2 weight 5\nback 4 weight 2\n" + pairs},
		{"three are there, and a fourth drains", poolBehind(t, 7, add(4, 2), add(1, 1), add(2, 5), add(0, 50), drain(0)), "back 0 weight 50 drains\nback 1 weight 1\nback 2 weight 5\nback 4 weight 2\n" + pairs},
	} {
		if text := string(impl.PoolText(s.p)); text != s.want {
			t.Errorf("%s: %q, not %q", s.why, text, s.want)
		}
	}
}

func TestPoolTextTellsTheFirstTableAlone(t *testing.T) {
	p := poolBehind(t, 7, add(3, 9), add(1, 9), add(4, 9))
	one := p
	one.Ring = p.Ring[:1]
	if string(impl.PoolText(p)) != string(impl.PoolText(one)) || len(p.Ring) != impl.Epochs {
		t.Fatalf("%q, not %q", impl.PoolText(p), impl.PoolText(one))
	}
}

func TestPoolTextOfNoPool(t *testing.T) {
	bad := badPools()
	bad["the zero value"] = impl.Pool{}
	for _, n := range []int{0, 1, 3} {
		p := poolBehind(t, 7, add(3, 9))
		p.Ring[0][5] = []int{3, 3, 3}[:n]
		bad[fmt.Sprint("a bucket of ", n)] = p
		q := poolBehind(t, 7, add(3, 9), add(4, 9))
		q.Ring[1][5] = []int{3, 3, 3}[:n]
		if n != 0 {
			bad[fmt.Sprint("a bucket of ", n, " that was")] = q
		}
	}
	for why, p := range bad {
		if text := impl.PoolText(p); len(text) != 0 {
			t.Errorf("%s: %q", why, text)
		}
	}
}

func TestClusterTextHasALineForEachPart(t *testing.T) {
	words, carriers := 0, 0
	for _, c := range append(goodClusters(), sharingCluster(), hollowCluster()) {
		text := impl.ClusterText(c)
		mustBeLines(t, text, clusterLines(c))
		if n := strings.Count(string(text), "\n"); n != 1+impl.MaxBack+len(c.Bag) {
			t.Fatalf("%v: %d lines", c, n)
		}
		words += strings.Count(string(text), "\nword ")
		carriers += strings.Count(string(text), ">")
	}
	if words < 50 || carriers < 50 {
		t.Errorf("%d words and %d carriers were told", words, carriers)
	}
}

func TestClusterTextOfKnownClusters(t *testing.T) {
	c, _ := impl.ClusterNew(7, 4, []int{0, 1, 16, 3, 0, 9})
	agents := "agent 0 limit 0\nagent 1 limit 1\nagent 2 limit 16\nagent 3 limit 3\nagent 4 limit 0\nagent 5 limit 9\n"
	said := impl.Packet{Flow: flow(1, 65535), Flags: impl.FlSyn, Seq: 9, Body: []byte{1, 2, 3}}
	for _, s := range []struct {
		why  string
		l    []impl.Cmd
		want string
	}{
		{"nothing is on the way", nil, "now 0 got 0 rst 0 gone 0\n" + agents},
		{"one is gone, and time went", []impl.Cmd{toSay(said), toTick(), toTick()}, "now 2 got 0 rst 0 gone 1\n" + agents},
		{"one is on the way", []impl.Cmd{toCommand(add(2, 1)), toSay(said)}, "now 0 got 0 rst 0 gone 0\n" + agents + "1:65535 s #9 +3 >o2 h2 h2\n"},
		{"one is on the way twice, and at two places", []impl.Cmd{toCommand(add(2, 1)), toSay(said), toDouble(0), toDeliver(0)},
			"now 0 got 0 rst 0 gone 0\n" + agents + "1:65535 s #9 +3 >o2 h2 h2\n1:65535 s #9 +3 o2 >h2 h2\n"},
		{"one is made, and word of it on the way", []impl.Cmd{toCommand(add(2, 1)), toTick(), toSay(said), toSay(impl.Packet{Flow: flow(0, 0)}), toDeliver(0), toDeliver(1)},
			"now 1 got 1 rst 0 gone 0\n" + strings.Replace(agents, "limit 16", "limit 16 1:65535", 1) + "0:0  #0 +0 >o2\nword 1:65535 2\n"},
		{"one is refused, and who drains has one", []impl.Cmd{toCommand(add(2, 1)), toSay(said), toDeliver(0), toDeliver(0), toLose(0), toSay(impl.Packet{}), toDeliver(0), toCommand(drain(2)), toLimit(0, 7)},
			"now 0 got 1 rst 1 gone 0\n" + strings.Replace(strings.Replace(agents, "limit 16", "limit 16 drains 1:65535", 1), "0 limit 0", "0 limit 7", 1)},
	} {
		d, _ := mustRun(t, c, s.l)
		if text := string(impl.ClusterText(d)); text != s.want {
			t.Errorf("%s: %q, not %q", s.why, text, s.want)
		}
	}
}

func TestClusterTextOfEachNumber(t *testing.T) {
	c := with(func(c *impl.Cluster) {
		c.Now, c.Bag, c.Got, c.Rst, c.Gone = lastNow, []impl.Mail{word(flow(65535, 0), 5)}, given(mostGot), mostTally, mostTally-1
	})
	text := string(impl.ClusterText(c))
	if !strings.HasPrefix(text, "now 99000 got 1000 rst 100000 gone 99999\nagent 0 ") || !strings.HasSuffix(text, "\nword 65535:0 5\n") {
		t.Fatalf("%q", text)
	}
}

func TestClusterTextOfNoCluster(t *testing.T) {
	for why, c := range badClusters() {
		if text := impl.ClusterText(c); len(text) != 0 {
			t.Errorf("%s: %q", why, text)
		}
	}
}

func TestVerdictText(t *testing.T) {
	for vd, want := range map[int]string{
		impl.VdTake: "take", impl.VdMake: "make", impl.VdPass: "pass", impl.VdRst: "rst", impl.VdOld: "old", impl.VdFull: "full", impl.VdLost: "lost",
		-1: "", -2: "", 7: "", 8: "", 256: "", math.MinInt: "", math.MaxInt: "",
	} {
		if text := string(impl.VerdictText(vd)); text != want {
			t.Errorf("%d: %q, not %q", vd, text, want)
		}
	}
}
