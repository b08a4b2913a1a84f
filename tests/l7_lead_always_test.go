package tests

import (
	"fmt"
	"testing"

	"loop.example/kith/impl"
)

// ledWorld is both parts, all who believe that they lead them, the newest first, and what is on its way to them.
type ledWorld struct {
	t     *testing.T
	c     *chooser
	parts [2]partModel
	leads [2][]leadModel
	net   []impl.Msg
	last  [2]impl.Msg       // the last write of each tier
	done  map[impl.Req]int  // how many commits each request made
	came  map[string]int    // what happened
	fine  map[impl.Req]bool // which were answered as done
}

func newLedWorld(t *testing.T, c *chooser, came map[string]int) *ledWorld {
	w := &ledWorld{t: t, c: c, done: map[impl.Req]int{}, came: came, fine: map[impl.Req]bool{}}
	for which := range 2 {
		w.parts[which].part = which
		w.rise(which)
	}
	return w
}

// send puts messages to who lead on their way; to tiers nothing is told but what was so.
func (w *ledWorld) send(p partModel, msgs []impl.Msg) {
	w.t.Helper()
	for _, m := range msgs {
		switch {
		case msgKinds[m.Kind].up:
			w.net = append(w.net, m)
		case msgKinds[m.Kind].val:
			if !sameItem(m.Item, p.itemAt(m.Item.Key, m.Item.Ver)) {
				w.t.Fatalf("%s was never so: %s", msgTextTold(m), partText(p.shard()))
			}
		case m.Kind == 6:
			if m.Item.Ver != len(p.had[m.Item.Key]) {
				w.t.Fatalf("%s isn't so: %s", msgTextTold(m), partText(p.shard()))
			}
		}
		if m.Kind == 4 && m.Code == 0 {
			w.fine[req(m.Tier, m.Inc, m.Seq)] = true
		}
	}
}

func (w *ledWorld) rise(which int) {
	w.t.Helper()
	l, s, sent := impl.LeadRise(w.parts[which].shard())
	next, p, want := w.parts[which].rise()
	wantLead(w.t, "rise", l, s, sent, next, p, want)
	w.parts[which], w.leads[which] = p, append([]leadModel{next}, w.leads[which]...)
	w.send(p, want)
}

// tells has somebody who may lead tell all that was written, or send the other ends once more.
func (w *ledWorld) tells(which int, who int) {
	w.t.Helper()
	l, p := w.leads[which][who], w.parts[which]
	tell, again := impl.LeadTell(l.lead(), p.shard()), impl.LeadAgain(l.lead(), p.shard())
	if !sameMsgs(tell, l.tell(p)) || !sameMsgs(again, l.again(p)) {
		w.t.Fatalf("%s: got %s, %s", leadText(l.lead()), msgLines(tell), msgLines(again))
	}
	// Each other end is sent till it is known to have come.
	if l.up && len(again) != len(p.intents) {
		w.t.Fatalf("%d sent of %d", len(again), len(p.intents))
	}
	w.send(p, tell)
	if w.c.pick(2) == 0 {
		w.send(p, again)
	}
}

// takes brings a message to somebody who may lead, and holds what comes of it against promise 7.
func (w *ledWorld) takes(m impl.Msg, who int) {
	w.t.Helper()
	which := m.Part
	l, p := w.leads[which][who], w.parts[which]
	next, behind, sent := wantTake(w.t, "some", l, p, m)
	w.leads[which][who], w.parts[which] = next, behind
	if l.term != p.fence && (!samePart(p.shard(), behind.shard()) || next.up && l.up && (m.Kind == 3 || m.Kind >= 9)) {
		w.t.Fatalf("%s: who is put off wrote, or is up", msgTextTold(m))
	}
	if m.Kind == 3 && len(behind.log) > len(p.log) {
		w.done[req(m.Tier, m.Inc, m.Seq)]++
	}
	w.send(behind, sent)
	w.wantKnown(m, p, behind)
	w.came[fmt.Sprint(m.Kind, " leads ", l.term == p.fence, " up ", next.up, " sent ", len(sent))]++
	if m.Kind == 1 && len(sent) > 0 && sent[0].Item.Ver < len(behind.had[m.Item.Key]) {
		w.came[fmt.Sprint("old ", l.term == p.fence)]++
	}
}

// wantKnown tells an intent that is gone although its other end never came.
func (w *ledWorld) wantKnown(m impl.Msg, before partModel, behind partModel) {
	w.t.Helper()
	for _, in := range before.intents {
		gone := true
		for _, still := range behind.intents {
			gone = gone && still != in
		}
		if gone && w.parts[in.Op.B%2].seen[in.Op.A][in.Op.B] < in.Stamp {
			w.t.Fatalf("%s: %v is forgotten, and never came", msgTextTold(m), in)
		}
	}
}

// asks is some message of a tier: a new write, the last one once more, or something to fill or join.
func (w *ledWorld) asks() impl.Msg {
	tier, which := w.c.pick(2), w.c.pick(2)
	switch w.c.pick(8) {
	case 0, 1, 2, 3:
		return itemMsg(msgOf(1, tier, which, 0, w.c.pick(9)), item([]int{0, 2, 8, 16, 18}[w.c.pick(5)]+which, 0, impl.Val{}))
	case 4:
		return msgOf(7, tier, which, w.c.pick(9), 0)
	case 5:
		if w.last[tier].Kind != 0 {
			return w.last[tier]
		}
	}
	a := w.c.pick(4)
	b := (a + 1 + w.c.pick(3)) % 4
	op := []impl.Op{set(a, w.c.pick(99)), bind(a, b, w.c.pick(9)), bind(a, b, w.c.pick(9)), part(a, b)}[w.c.pick(4)]
	w.last[tier] = opMsg(msgOf(3, tier, a%2, 0, w.last[tier].Seq+1), op)
	return w.last[tier]
}

// step is whatever happens next: messages are lost, come twice and late, to whoever believes that he leads.
func (w *ledWorld) step() {
	w.t.Helper()
	which := w.c.pick(2)
	switch w.c.pick(24) {
	case 0:
		w.rise(which)
		return
	case 1, 2:
		w.tells(which, w.c.pick(len(w.leads[which])))
		return
	case 3, 4, 5, 6, 7, 8:
		w.net = append(w.net, w.asks())
	}
	if len(w.net) == 0 {
		return
	}
	place := w.c.pick(len(w.net))
	m := w.net[place]
	if w.c.pick(4) > 0 {
		w.net = append(w.net[:place], w.net[place+1:]...)
	}
	if w.c.pick(6) > 0 {
		who := w.c.pick(2) * w.c.pick(len(w.leads[m.Part]))
		w.takes(m, who)
	}
}

// calm has somebody new in both parts send the other ends, and all that comes of it, till nothing is on its way.
func (w *ledWorld) calm() {
	w.t.Helper()
	w.net = nil
	w.rise(0)
	w.rise(1)
	for len(w.net) > 0 {
		m := w.net[0]
		w.net = w.net[1:]
		w.takes(m, 0)
	}
}

// TestLeadAlways is promise 7: whoever leads, and whatever is lost, comes twice or late, who is put off writes nothing more, what is answered was so, and each other end comes.
func TestLeadAlways(t *testing.T) {
	c, came, bonds := chooser(7), map[string]int{}, 0
	for range 200 {
		w := newLedWorld(t, &c, came)
		for range 200 {
			w.step()
			if len(w.parts[0].log) > 50 || len(w.parts[1].log) > 50 {
				break
			}
		}
		w.calm()
		for r, times := range w.done {
			if times > 1 {
				t.Fatalf("%v is done %d times", r, times)
			}
		}
		for r := range w.fine {
			if w.done[r] != 1 {
				t.Fatalf("%v was answered as done, and is done %d times", r, w.done[r])
			}
		}
		bonds += w.wantBonds()
	}
	for _, what := range []string{"1 leads true up true sent 1", "1 leads false up true sent 1", "1 leads false up false sent 0", "3 leads true up true sent 1", "3 leads true up true sent 2", "3 leads true up true sent 3",
		"3 leads false up false sent 0", "7 leads true up true sent 1", "7 leads false up true sent 1", "9 leads true up true sent 1", "9 leads true up true sent 3", "9 leads false up false sent 0",
		"10 leads true up true sent 0", "10 leads false up false sent 0", "old false"} {
		if came[what] < 20 {
			t.Errorf("%s came but %d times: %v", what, came[what], came)
		}
	}
	// All that was written since he rose went through him.
	if came["old true"] > 0 {
		t.Errorf("who leads told %d times what is not so any more", came["old true"])
	}
	if bonds < 200 {
		t.Errorf("%d bonds", bonds)
	}
}

// wantBonds tells a bond that is not known from both ends, or an intent that is left, and counts the bonds.
func (w *ledWorld) wantBonds() int {
	w.t.Helper()
	many := 0
	for a := range 8 {
		for b := range 8 {
			young, is := impl.EdgeHas(w.parts[a%2].has(keyTable[2][a]).Kin, b)
			elder, has := impl.EdgeHas(w.parts[b%2].has(keyTable[1][b]).Kin, a)
			if young != elder || is != has {
				w.t.Fatalf("%d and %d: young since %d, %v, elder since %d, %v", a, b, young, is, elder, has)
			}
			if is {
				many++
			}
		}
	}
	if len(w.parts[0].intents)+len(w.parts[1].intents) != 0 {
		w.t.Fatal(partText(w.parts[0].shard()), partText(w.parts[1].shard()))
	}
	return many
}
