package tests

import (
	"fmt"
	"math"
	"slices"
	"testing"

	"loop.example/kith/impl"
)

// tierWorld is both parts, all who believe that they lead them, the newest first, two tiers, and what is on its way.
type tierWorld struct {
	t      *testing.T
	c      *chooser
	parts  [2]impl.Shard
	leads  [2][]impl.Lead
	tiers  [2]tierModel
	joined [2][2]bool  // which parts each tier was answered that it may join, in this life
	last   [2][24]int  // what each tier told last of each key, in this life
	ever   [2][24]bool // whether it told anything of it, in any life
	net    []impl.Msg
	came   map[string]int
}

func newTierWorld(t *testing.T, c *chooser, came map[string]int) *tierWorld {
	w := &tierWorld{t: t, c: c, came: came}
	for which := range 2 {
		w.parts[which] = impl.ShardOpen(which)
		w.tiers[which].id = which
		w.rise(which)
	}
	return w
}

func (w *tierWorld) rise(which int) {
	l, s, sent := impl.LeadRise(w.parts[which])
	w.parts[which], w.leads[which] = s, append([]impl.Lead{l}, w.leads[which]...)
	w.net = append(w.net, sent...)
}

// asks has a tier do something, and holds what it tells against promise 8.
func (w *tierWorld) asks(id int, st tierStep) {
	w.t.Helper()
	before := w.tiers[id]
	next, a := wantTier(w.t, "some", before, st)
	w.tiers[id] = next
	w.net = append(w.net, a.sent...)
	m := st.msg
	old := st.what == "take" && m.Inc != before.inc && (m.Kind == 2 || m.Kind == 4 || m.Kind == 8)
	if old && (!sameTier(before.tier(), next.tier()) || len(a.sent)+len(a.told) > 0) {
		w.t.Fatalf("%v: an answer of another life: got %s, %v", st, tierText(next.tier()), a)
	}
	if m.Kind == 8 && m.Inc == before.inc {
		w.joined[id][m.Part] = true
	}
	if st.what == "fall" {
		w.joined[id], w.last[id] = [2]bool{}, [24]int{}
	}
	for _, told := range a.told {
		w.tells(id, told)
	}
	what := fmt.Sprint(st.what, " ", m.Kind, " in ", before.waits, " sent ", len(a.sent), " told ", len(a.told))
	if old {
		what = fmt.Sprint("another life ", m.Kind, " in ", before.waits)
	}
	w.came[what]++
	if m.Kind == 2 && !old && m.Item.Ver < before.cache.floor[m.Item.Key] {
		w.came["below the floor"]++
	}
}

// tells is promise 8: nothing older than what was told of that key in this life, nothing of a part that was not joined in it but what was written.
func (w *tierWorld) tells(id int, told impl.Told) {
	w.t.Helper()
	it := told.Item
	if told.Tier != id || it.Ver < w.last[id][it.Key] || !told.Wrote && !w.joined[id][it.Key%2] {
		w.t.Fatalf("%+v: told %d last, joined %v: %s", told, w.last[id][it.Key], w.joined[id], tierText(w.tiers[id].tier()))
	}
	if it.Ver > w.last[id][it.Key] {
		w.came["newer"]++
	} else if w.ever[id][it.Key] {
		w.came["as old"]++
	}
	w.last[id][it.Key], w.ever[id][it.Key] = it.Ver, true
	was := it.Ver == 0 && isNothing(it.Val)
	for _, c := range w.parts[it.Key%2].Log {
		was = was || sameItem(impl.Item(c), it)
	}
	if !was {
		w.t.Fatalf("%+v was never so: %s", told, partText(w.parts[it.Key%2]))
	}
	w.came[fmt.Sprint("wrote ", told.Wrote, " code ", told.Code)]++
}

// takes brings a message to whom it goes to; of those who believe that they lead, to any.
func (w *tierWorld) takes(m impl.Msg) {
	w.t.Helper()
	if !impl.MsgUp(m) {
		w.asks(m.Tier, asksTake(m))
		return
	}
	which, who := m.Part, w.c.pick(2)*w.c.pick(len(w.leads[m.Part]))
	l, s, sent := impl.LeadTake(w.leads[which][who], w.parts[which], m)
	w.leads[which][who], w.parts[which] = l, s
	w.net = append(w.net, sent...)
}

// person is what somebody asks of a tier.
func (w *tierWorld) person() tierStep {
	a := w.c.pick(4)
	b := (a + 1 + w.c.pick(3)) % 4
	switch w.c.pick(9) {
	case 0:
		return asksWrite(set(a, w.c.pick(99)))
	case 1, 2:
		return asksWrite(bind(a, b, w.c.pick(9)))
	case 3:
		return asksWrite(part(a, b))
	}
	return asksRead([]int{0, 8, 16}[w.c.pick(3)] + a)
}

// step is whatever happens next: messages are lost, come twice and late, tiers fall, and their caches are dropped from.
func (w *tierWorld) step() {
	w.t.Helper()
	which := w.c.pick(2)
	who := w.c.pick(len(w.leads[which]))
	switch w.c.pick(60) {
	case 0:
		w.rise(which)
	case 1:
		w.net = append(w.net, impl.LeadTell(w.leads[which][who], w.parts[which])...)
	case 2:
		w.net = append(w.net, impl.LeadAgain(w.leads[which][who], w.parts[which])...)
	case 3:
		w.asks(which, asksFall())
	case 4, 5, 6, 7:
		w.tiers[which].cache = w.tiers[which].cache.after(drops(w.c.pick(24)))
	case 8, 9, 10, 11, 12:
		w.asks(which, asksRetry())
	case 13, 14, 15, 16, 17, 18, 19, 20, 21, 22, 23, 24:
		w.asks(which, w.person())
	}
	if len(w.net) == 0 {
		return
	}
	place := w.c.pick(min(len(w.net), 30))
	m := keptMsg(w.net[place])
	if w.c.pick(4) > 0 || len(w.net) > 30 {
		w.net = slices.Delete(w.net, place, place+1)
	}
	if w.c.pick(8) > 0 {
		w.takes(m)
	}
}

// TestTierAlways is promise 8: whatever is lost, comes twice, late or of an earlier life.
func TestTierAlways(t *testing.T) {
	c, came := chooser(8), map[string]int{}
	for range 200 {
		w := newTierWorld(t, &c, came)
		for range 600 {
			w.step()
		}
	}
	for _, what := range []string{
		"read 0 in  sent 0 told 1", "read 0 in  sent 1 told 0", "write 0 in  sent 1 told 0", "retry 0 in read sent 1 told 0", "retry 0 in write sent 1 told 0",
		"take 2 in read sent 0 told 1", "take 2 in read sent 0 told 0", "take 4 in write sent 0 told 1", "take 4 in write sent 0 told 0", "take 4 in  sent 0 told 0",
		"take 5 in read sent 0 told 0", "take 6 in read sent 0 told 0", "take 8 in read sent 1 told 0", "take 8 in read sent 0 told 0", "take 8 in read sent 0 told 1",
		"another life 2 in ", "another life 2 in read", "another life 4 in write", "another life 8 in read",
		"wrote false code 0", "wrote true code 0", "wrote true code 3", "newer", "as old", "below the floor",
	} {
		if came[what] < 20 {
			t.Errorf("%s came but %d times: %v", what, came[what], came)
		}
	}
}

// tier is some tier that is ok, with a cache that was asked some things.
func (c *chooser) tier() tierModel {
	var m tierModel
	for range c.pick(12) {
		m.cache = m.cache.after(c.cacheStep(m.cache, 9))
	}
	m.id, m.inc, m.seq = c.pick(2), min(max(c.near(1000), 0), 1000), min(max(c.near(1000), 0), 1000)
	m.joined = [2]bool{c.pick(2) > 0, c.pick(2) > 0}
	if m.seq == 0 {
		return m
	}
	switch c.pick(3) {
	case 0:
		m.waits, m.key = "read", []int{11, 3, 20, 7, 8, 0, 15, 16, 23, c.pick(24)}[c.pick(10)]
	case 1:
		if op := c.op(c.pick(2)); opTold(op) {
			m.waits, m.op = "write", op
		}
	}
	return m
}

// TestTierSome has some messages to some tiers: what comes of them is that of the model, and a read never tells what is below its floor.
func TestTierSome(t *testing.T) {
	c, came := chooser(88), map[string]int{}
	for range 20000 {
		m := c.tier()
		for range 6 {
			msg := c.msg()
			if c.pick(4) > 0 {
				msg.Tier, msg.Inc, msg.Seq = m.id, m.inc, m.seq
				switch msg.Kind {
				case 5, 6:
					msg.Inc = 0
					fallthrough
				case 8:
					msg.Seq = 0
				}
			}
			next, a := wantTier(t, "some", m, asksTake(msg))
			for _, told := range a.told {
				if !told.Wrote && (told.Item.Ver < m.cache.floor[told.Item.Key] || !next.joined[told.Item.Key%2]) {
					t.Fatalf("%s: told %+v", tierText(m.tier()), told)
				}
			}
			came[fmt.Sprint(msg.Kind, " ok ", msgTold(msg), " told ", len(a.told))]++
			m = next
		}
	}
	for _, what := range []string{"2 ok true told 0", "2 ok true told 1", "4 ok true told 0", "4 ok true told 1", "5 ok true told 0", "5 ok true told 1", "6 ok true told 0", "6 ok true told 1", "8 ok true told 0", "8 ok true told 1", "2 ok false told 0", "3 ok true told 0"} {
		if came[what] < 5 {
			t.Errorf("%s came but %d times: %v", what, came[what], came)
		}
	}
}

// TestTierAny has any numbers at all in a tier and in what it is asked: it answers as the document says, and doesn't panic.
func TestTierAny(t *testing.T) {
	c, oks := chooser(888), map[bool]int{}
	some := func() int { return []int{0, 0, 1, 1, 2, 23, 24, 1000, 1001, -1, math.MinInt, math.MaxInt}[c.pick(12)] }
	for range 60000 {
		tier := c.tier().tier()
		for _, num := range []*int{&tier.Id, &tier.Inc, &tier.Seq, &tier.Key, &tier.Op.Kind, &tier.Op.A, &tier.Op.B, &tier.Op.N} {
			if c.pick(16) == 0 {
				*num = some()
			}
		}
		for _, is := range []*bool{&tier.Busy, &tier.Reads} {
			if c.pick(16) == 0 {
				*is = !*is
			}
		}
		if c.pick(16) == 0 {
			tier.Cache.Floors[c.pick(24)] += c.pick(5) - 2
		}
		ok := tierTold(tier)
		oks[ok]++
		if got := impl.TierOk(tier); got != ok {
			t.Fatalf("%s: ok is %v", tierText(tier), got)
		}
		if !ok {
			wantNothingOf(t, tierText(tier), tier, asksTake(c.msg()), asksRead(some()), asksWrite(impl.Op{Kind: some(), A: some(), B: some(), N: some()}), asksRetry(), asksFall())
		}
	}
	if oks[true] < 10000 || oks[false] < 10000 {
		t.Errorf("%v", oks)
	}
}
