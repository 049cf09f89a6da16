package tests

import (
	"fmt"
	"maps"
	"slices"
	"strconv"
	"testing"

	"loop.example/g00607/impl"
)

// What is told beside an answer, as a number: Deliver's verdict, or one of these.
const (
	yes     = 100
	no      = 101
	refused = -2
)

func toldBy(ok bool) int {
	if ok {
		return yes
	}
	return no
}

// deed is one thing that may happen to a cluster that is ClusterOk: how it is done, what the document says of it,
// the parts that it may change where that is told, and what of promise 9 it broke, if that is more than others promise.
type deed struct {
	name   string
	do     func(c impl.Cluster) (impl.Cluster, int)
	by     func(c impl.Cluster) (impl.Cluster, int)
	may    func(c impl.Cluster, told int) []string
	broken func(c impl.Cluster, d impl.Cluster, told int) string
}

// within is what is behind a deed, or what was, if that is beyond a limit.
func within(was impl.Cluster, is impl.Cluster, told int, beyond int) (impl.Cluster, int) {
	if is.Now > lastNow || len(is.Got) > mostGot || is.Rst > mostTally || is.Gone > mostTally {
		return was, beyond
	}
	return is, told
}

func mailedTo(c impl.Cluster, m impl.Mail) impl.Cluster {
	if len(c.Bag) >= impl.MaxBag {
		c.Gone++
		return c
	}
	c.Bag = append(slices.Clone(c.Bag), m)
	return c
}

func withoutMail(c impl.Cluster, i int) impl.Cluster {
	c.Bag = slices.Concat(c.Bag[:i], c.Bag[i+1:])
	return c
}

func withAgent(c impl.Cluster, a impl.Agent) impl.Cluster {
	c.Agents = slices.Clone(c.Agents)
	c.Agents[a.Id] = a
	return c
}

func saying(p impl.Packet) deed {
	return deed{
		name: "Client of " + string(impl.PacketText(p)),
		do: func(c impl.Cluster) (impl.Cluster, int) {
			d, ok := impl.Client(c, p)
			return d, toldBy(ok)
		},
		by: func(c impl.Cluster) (impl.Cluster, int) {
			if !impl.PacketOk(p) {
				return impl.Cluster{}, no
			}
			sent, ok := impl.Send(c.Bal, c.Now, p)
			if !ok || len(c.Bag) == 60 {
				d := c
				d.Gone++
				return within(c, d, no, no)
			}
			return mailedTo(c, carried(sent)), yes
		},
		may: func(c impl.Cluster, told int) []string {
			if told == yes {
				return []string{"Bag"}
			}
			return []string{"Gone"}
		},
		broken: sayingBroken,
	}
}

func delivering(i int) deed {
	return deed{
		name: "Deliver of " + strconv.Itoa(i),
		do:   func(c impl.Cluster) (impl.Cluster, int) { return impl.Deliver(c, i) },
		by: func(c impl.Cluster) (impl.Cluster, int) {
			if i < 0 || i >= len(c.Bag) {
				return c, refused
			}
			d, told := deliveredBy(withoutMail(c, i), c.Bag[i])
			return within(c, d, told, refused)
		},
		may: func(c impl.Cluster, told int) []string {
			if told == refused {
				return nil
			}
			m := c.Bag[i]
			if m.Kind == impl.MlAck {
				return []string{"Bag", "Hints"}
			}
			id := strconv.Itoa(m.C.Segs[m.C.At].Back)
			switch told {
			case impl.VdTake:
				return []string{"Bag", "Got", "Conns " + id, "Tombs " + id}
			case impl.VdMake:
				return []string{"Bag", "Got", "Conns " + id}
			case impl.VdPass:
				return []string{"Bag", "Tombs " + id}
			case impl.VdRst:
				return []string{"Bag", "Rst"}
			}
			return []string{"Bag", "Gone"}
		},
		broken: func(c impl.Cluster, d impl.Cluster, told int) string {
			if told == refused {
				return givingBroken(c, d, told)
			}
			return deliveryBroken(c, d, c.Bag[i], told)
		},
	}
}

// deliveredBy is what becomes of a mail that went from the bag of c.
func deliveredBy(c impl.Cluster, m impl.Mail) (impl.Cluster, int) {
	if m.Kind == impl.MlAck {
		c.Bal, _ = impl.Learn(c.Bal, c.Now, m.Flow, m.Back)
		return c, -1
	}
	here, _ := impl.Here(m.C)
	a, vd := impl.Handle(c.Agents[here.Back], c.Now, m.C)
	c = withAgent(c, a)
	switch vd {
	case impl.VdTake, impl.VdMake:
		c.Got = append(slices.Clone(c.Got), impl.Got{Flow: m.C.P.Flow, Back: here.Back, Seq: m.C.P.Seq})
		if impl.Opens(m.C.P) {
			c = mailedTo(c, word(m.C.P.Flow, here.Back))
		}
	case impl.VdPass:
		next, _ := impl.Next(m.C)
		c = mailedTo(c, carried(next))
	case impl.VdRst:
		c.Rst++
	default:
		c.Gone++
	}
	return c, vd
}

func losing(i int) deed {
	return deed{
		name: "Lose of " + strconv.Itoa(i),
		do: func(c impl.Cluster) (impl.Cluster, int) {
			d, ok := impl.Lose(c, i)
			return d, toldBy(ok)
		},
		by: func(c impl.Cluster) (impl.Cluster, int) {
			if i < 0 || i >= len(c.Bag) {
				return impl.Cluster{}, no
			}
			return withoutMail(c, i), yes
		},
		may: func(impl.Cluster, int) []string { return []string{"Bag"} },
	}
}

func doubling(i int) deed {
	return deed{
		name: "Twice of " + strconv.Itoa(i),
		do: func(c impl.Cluster) (impl.Cluster, int) {
			d, ok := impl.Twice(c, i)
			return d, toldBy(ok)
		},
		by: func(c impl.Cluster) (impl.Cluster, int) {
			if i < 0 || i >= len(c.Bag) || len(c.Bag) == 60 {
				return impl.Cluster{}, no
			}
			return mailedTo(c, c.Bag[i]), yes
		},
		may: func(impl.Cluster, int) []string { return []string{"Bag"} },
	}
}

func ticking() deed {
	return deed{
		name: "Tick",
		do: func(c impl.Cluster) (impl.Cluster, int) {
			d, ok := impl.Tick(c)
			return d, toldBy(ok)
		},
		by: func(c impl.Cluster) (impl.Cluster, int) {
			d := c
			d.Now++
			for _, a := range c.Agents {
				a.Conns, _ = expireOf(a.Conns, d.Now)
				a.Tombs, _ = expireOf(a.Tombs, d.Now)
				d = withAgent(d, a)
			}
			d.Bal.Hints, _ = expireOf(d.Bal.Hints, d.Now)
			return within(c, d, yes, no)
		},
		may: func(c impl.Cluster, told int) []string {
			if told == no {
				return nil
			}
			all := []string{"Now", "Hints"}
			for id := range impl.MaxBack {
				all = append(all, "Conns "+strconv.Itoa(id), "Tombs "+strconv.Itoa(id))
			}
			return all
		},
	}
}

func commanding(k impl.PoolCmd) deed {
	return deed{
		name: fmt.Sprint("Command ", k),
		do: func(c impl.Cluster) (impl.Cluster, int) {
			d, ok := impl.Command(c, k)
			return d, toldBy(ok)
		},
		by: func(c impl.Cluster) (impl.Cluster, int) {
			if !impl.PoolCmdOk(k) {
				return impl.Cluster{}, no
			}
			b, ok := impl.BalCmd(c.Bal, k)
			if !ok {
				return c, no
			}
			a := c.Agents[k.Id]
			a.Drain = k.Kind == impl.PcDrain || k.Kind != impl.PcAdd && a.Drain
			c.Bal = b
			return withAgent(c, a), yes
		},
		may: func(c impl.Cluster, told int) []string {
			if told == no {
				return nil
			}
			if k.Kind == impl.PcAdd || k.Kind == impl.PcDrain {
				return []string{"Journal", "Pool", "Drain " + strconv.Itoa(k.Id)}
			}
			return []string{"Journal", "Pool"}
		},
	}
}

func restarting(keep int) deed {
	return deed{
		name: "Restart with " + strconv.Itoa(keep),
		do: func(c impl.Cluster) (impl.Cluster, int) {
			d, ok := impl.Restart(c, keep)
			return d, toldBy(ok)
		},
		by: func(c impl.Cluster) (impl.Cluster, int) {
			if keep < 0 {
				return impl.Cluster{}, no
			}
			c.Bal = impl.Crash(c.Bal, keep)
			return c, yes
		},
		may: func(impl.Cluster, int) []string { return []string{"Journal", "Pool", "Hints"} },
	}
}

func limiting(id int, limit int) deed {
	return deed{
		name: fmt.Sprint("SetLimit of ", id, " to ", limit),
		do: func(c impl.Cluster) (impl.Cluster, int) {
			d, ok := impl.SetLimit(c, id, limit)
			return d, toldBy(ok)
		},
		by: func(c impl.Cluster) (impl.Cluster, int) {
			if id < 0 || id >= 6 || limit < 0 || limit > 16 {
				return impl.Cluster{}, no
			}
			return withAgent(c, limited(c.Agents[id], limit)), yes
		},
		may: func(impl.Cluster, int) []string { return []string{"Limit " + strconv.Itoa(id)} },
	}
}

// partsUnlike are the names of the parts of a cluster that are not as in another.
func partsUnlike(c impl.Cluster, d impl.Cluster) []string {
	same := map[string]bool{
		"Now":     c.Now == d.Now,
		"Journal": sameJournal(c.Bal.Journal, d.Bal.Journal),
		"Pool":    samePool(c.Bal.Pool, d.Bal.Pool),
		"Hints":   sameSlots(c.Bal.Hints, d.Bal.Hints),
		"Bag":     slices.EqualFunc(c.Bag, d.Bag, sameMail),
		"Got":     slices.Equal(c.Got, d.Got),
		"Rst":     c.Rst == d.Rst,
		"Gone":    c.Gone == d.Gone,
		"Agents":  len(c.Agents) == len(d.Agents),
	}
	for id := range min(len(c.Agents), len(d.Agents)) {
		a, b, n := c.Agents[id], d.Agents[id], strconv.Itoa(id)
		same["Id "+n] = a.Id == b.Id
		same["Limit "+n] = a.Limit == b.Limit
		same["Drain "+n] = a.Drain == b.Drain
		same["Conns "+n] = sameSlots(a.Conns, b.Conns)
		same["Tombs "+n] = sameSlots(a.Tombs, b.Tombs)
	}
	maps.DeleteFunc(same, func(part string, is bool) bool { return is })
	return slices.Sorted(maps.Keys(same))
}

// mustDo wants a deed to be what the document says of it, to do one thing alone, and to keep promise 9.
func mustDo(t *testing.T, c impl.Cluster, k deed) (impl.Cluster, int) {
	t.Helper()
	d, told := k.do(c)
	want, wanted := k.by(c)
	if told != wanted || !sameCluster(d, want) {
		t.Fatalf("%s of %v: %v, %d, not %v, %d", k.name, c, d, told, want, wanted)
	}
	if sameCluster(d, impl.Cluster{}) {
		return c, told
	}
	if !impl.ClusterOk(d) {
		t.Fatalf("%s of %v: %v is none", k.name, c, d)
	}
	may := k.may(c, told)
	for _, part := range partsUnlike(c, d) {
		if !slices.Contains(may, part) {
			t.Fatalf("%s of %v: %s is not as it was", k.name, c, part)
		}
	}
	broken := givingBroken
	if k.broken != nil {
		broken = k.broken
	}
	if why := broken(c, d, told); why != "" {
		t.Fatalf("%s of %v: %v, %d: %s", k.name, c, d, told, why)
	}
	return d, told
}

// mailed are those behind all that were in the bag of c, of which one may have gone.
func mailed(c impl.Cluster, d impl.Cluster, went int) []impl.Mail {
	return d.Bag[min(len(d.Bag), len(c.Bag)-went):]
}

// givingBroken wants nothing to be given without a delivery.
func givingBroken(c impl.Cluster, d impl.Cluster, told int) string {
	if !slices.Equal(d.Got, c.Got) {
		return "something is given"
	}
	return ""
}

// sayingBroken wants what is said to be on the way once or gone once.
func sayingBroken(c impl.Cluster, d impl.Cluster, told int) string {
	bag, gone := len(d.Bag)-len(c.Bag), d.Gone-c.Gone
	switch {
	case told == yes && (bag != 1 || gone != 0):
		return "it is not on the way once"
	case told == no && (bag != 0 || gone != 1 && c.Gone < mostTally):
		return "it is not gone once"
	}
	return givingBroken(c, d, told)
}

// holding are the agents that have a flow.
func holding(c impl.Cluster, f impl.Flow) []int {
	var ids []int
	for id, a := range c.Agents {
		if impl.Holds(a, f) {
			ids = append(ids, id)
		}
	}
	return ids
}

func deliveryBroken(c impl.Cluster, d impl.Cluster, m impl.Mail, told int) string {
	gave := told == impl.VdTake || told == impl.VdMake
	if len(d.Got) != len(c.Got) && !gave || len(d.Got) != len(c.Got)+1 && gave {
		return "not one more is behind Got just where it is taken or made"
	}
	if m.Kind == impl.MlAck {
		return ""
	}
	f, here := m.C.P.Flow, m.C.Segs[m.C.At]
	had, has := impl.Holds(c.Agents[here.Back], f), impl.Holds(d.Agents[here.Back], f)
	behind := mailed(c, d, 1)
	acked := len(behind) == 1 && sameMail(behind[0], word(f, here.Back))
	switch {
	case gave && d.Got[len(c.Got)] != impl.Got{Flow: f, Back: here.Back, Seq: m.C.P.Seq}:
		return "another thing is behind Got"
	case gave && !slices.Equal(d.Got[:len(c.Got)], c.Got):
		return "what was given is not as it was"
	case told == impl.VdTake && !had, told == impl.VdMake && (had || !has):
		return "it is given to who has it not"
	case gave && impl.Opens(m.C.P) && !acked, gave && !impl.Opens(m.C.P) && len(behind) != 0:
		return "the balancer is not told just where it opens"
	case !gave && told != impl.VdPass && len(behind) != 0:
		return "something is mailed"
	}
	if !impl.Opens(m.C.P) || here.Fn != impl.SgHunt {
		for id := range c.Agents {
			for _, g := range impl.FlowsOf(d.Agents[id].Conns) {
				if !impl.Holds(c.Agents[id], g) {
					return "what does not open, or is not hunted, makes something"
				}
			}
		}
	}
	return ""
}

// deedsTo are deeds of every kind, at and beyond the limits of what they are given.
func deedsTo(c impl.Cluster) []deed {
	all := []deed{ticking(), saying(opening()), saying(following()), saying(flagged(impl.FlRst)), saying(impl.Packet{Flags: impl.FlSyn, Body: counting(impl.MaxBody, 3)})}
	for _, f := range append(strangers(3), impl.FlowsOf(c.Bal.Hints)...) {
		all = append(all, saying(impl.Packet{Flow: f, Flags: impl.FlSyn}), saying(impl.Packet{Flow: f, Flags: impl.FlAck}))
	}
	for i := -1; i <= len(c.Bag); i++ {
		all = append(all, delivering(i), losing(i), doubling(i))
	}
	for i, k := range allCmds() {
		if i%4 == len(c.Bag)%4 {
			all = append(all, commanding(k))
		}
	}
	for id := -1; id <= impl.MaxBack; id++ {
		all = append(all, limiting(id, 0), limiting(id, impl.MaxTable), limiting(id, impl.MaxTable+1), limiting(id, -1))
	}
	for _, keep := range []int{-1, 0, 1, 100} {
		all = append(all, restarting(keep))
	}
	return all
}

func TestEachDeedDoesOneThingAlone(t *testing.T) {
	seen := map[int]int{}
	for _, c := range goodClusters() {
		for _, k := range deedsTo(c) {
			_, told := mustDo(t, c, k)
			seen[told]++
		}
	}
	for _, told := range []int{yes, no, refused, -1, impl.VdTake, impl.VdMake, impl.VdPass, impl.VdRst, impl.VdOld, impl.VdFull} {
		if seen[told] < 50 {
			t.Errorf("%d was told %d times", told, seen[told])
		}
	}
}
