package tests

import (
	"fmt"
	"slices"
	"strings"
	"testing"

	"loop.example/kith/impl"
)

// msgsOf are messages by their texts.
func msgsOf(t *testing.T, texts ...string) []impl.Msg {
	t.Helper()
	var msgs []impl.Msg
	for _, text := range texts {
		m, is := msgReadTold(text)
		if !is {
			t.Fatalf("%q is no message", text)
		}
		msgs = append(msgs, m)
	}
	return msgs
}

// upTake is a message to who leads, and what he sends for it in a world of writtenWorld.
type upTake struct {
	text string
	sent []string
}

// writtenWorld has some keys of the part 0 written, an other end of that part on its way, and three who lead it: the newest, one who was put off, and one who is not up.
func writtenWorld() worldModel {
	w := openWorld()
	w.parts[0] = w.parts[0].after(fences(3), writes(3, req(0, 0, 1), set(2, 17)), writes(3, req(0, 0, 2), bind(6, 3, 7)), backs(3, 1, bind(1, 4, 9)))
	w.leads[0] = []leadModel{{term: 3, up: true}, {term: 2, up: true}, {term: 1}}
	return w
}

// upTakes are messages of each of the five kinds, that are taken by who leads the part 0 of writtenWorld.
func upTakes() []upTake {
	return []upTake{
		{"fill 1 0 7 5 2 0", []string{"filled 1 0 7 5 0 2 1 17"}},
		{"join 0 0 9 0", []string{"joined 0 0 9 0 0 0 1 0 0 0 0 0 0 0 0 0 1 0 0 0 0 0 0 0 0 0 1 0"}},
		{"write 1 0 0 1 1 4 0 6", []string{"wrote 1 0 0 1 0 4 1 6", "news 0 0 0 0 0 4 1 6"}},
		{"write 0 0 0 3 2 2 3 5", []string{"wrote 0 0 0 3 0 18 1 (3@5)", "news 1 0 0 0 0 18 1 (3@5)", "back 0 1 0 2 2 2 3 5"}},
		{"write 0 0 0 2 2 6 3 7", []string{"wrote 0 0 0 2 0 22 1 (3@7)"}},
		{"write 0 0 0 1 1 2 0 17", []string{"wrote 0 0 0 1 4 2 1 17"}},
		{"back 0 0 0 3 2 5 2 8", []string{"backed 0 1 0 3", "news 0 0 0 0 0 10 1 (5@8)", "news 1 0 0 0 0 10 1 (5@8)"}},
		{"back 0 0 0 1 2 1 4 9", []string{"backed 0 1 0 1"}},
		{"backed 0 0 0 1", nil},
	}
}

// TestWorldTakesUp has each kind of message that goes to who leads, taken by the newest of those who do.
func TestWorldTakesUp(t *testing.T) {
	for _, take := range upTakes() {
		m := writtenWorld()
		m.net = msgsOf(t, take.text)
		for _, n := range []int{0, 2, -1, 3} {
			p := played(t, m)
			p.does(impl.Event{Kind: 3, N: n}, take.sent...)
			p.leads(0, 3, 2, -1)
			if len(p.w.Net) != len(take.sent) {
				t.Errorf("%s: got %s", take.text, msgLines(p.w.Net))
			}
		}
		// What he did stays, but nobody hears of it.
		fine, cut := played(t, m), played(t, m)
		fine.does(eventTakes(0), take.sent...)
		cut.does(eventCuts(0, 0))
		cut.leads(0, -3, 2, -1)
		if len(cut.w.Net) != 0 || !samePart(cut.w.Shards[0], fine.w.Shards[0]) || !sameCache(cut.w.Leads[0][0].Cache, fine.w.Leads[0][0].Cache) {
			t.Errorf("%s: got\n%s", take.text, worldText(cut.w))
		}
	}
	// A request that was cut off is answered as it was done, once.
	m := writtenWorld()
	m.net = msgsOf(t, "write 0 0 0 3 2 2 3 5", "write 0 0 0 3 2 2 3 5")
	p := played(t, m)
	p.does(eventCuts(0, 0))
	p.does(eventRises(0), "back 0 1 0 1 2 6 3 7", "back 0 1 0 2 2 2 3 5")
	p.leads(0, 4, -3, 2)
	p.does(eventTakes(0), "wrote 0 0 0 3 0 18 1 (3@5)")
	if p.w.Shards[0].Rows[18].Ver != 1 {
		t.Errorf("got %s", worldText(p.w))
	}
}

// TestWorldTakesByNobody has places of none who lead, and one who is not up: the message is off its way all the same.
func TestWorldTakesByNobody(t *testing.T) {
	for _, take := range upTakes() {
		for _, who := range append(nobody(3), 2) {
			for n := range 3 {
				m := writtenWorld()
				m.net = msgsOf(t, "join 1 1 0 0", take.text, "join 0 1 0 0")
				p := played(t, m)
				p.does(impl.Event{Kind: 3, A: 1, B: who, N: n})
				m.net = msgsOf(t, "join 1 1 0 0", "join 0 1 0 0")
				if want := m.world(); !sameWorld(p.w, want) {
					t.Errorf("%s by %d: got\n%s", take.text, who, worldText(p.w))
				}
			}
		}
		m := writtenWorld()
		m.leads[0] = nil
		m.net = msgsOf(t, take.text)
		for _, who := range append(nobody(0), 0, 1, 2) {
			p := played(t, m)
			p.does(eventTakesBy(0, who))
			if len(p.w.Net) != 0 || !samePart(p.w.Shards[0], m.parts[0].shard()) {
				t.Errorf("%s by %d: got\n%s", take.text, who, worldText(p.w))
			}
		}
	}
}

// TestWorldTakesByPutOff has who was put off: he writes nothing, and is not up any more; where he need not write, he does not know.
func TestWorldTakesByPutOff(t *testing.T) {
	for _, take := range upTakes() {
		for n := range 3 {
			m := writtenWorld()
			m.net = msgsOf(t, take.text)
			p := played(t, m)
			e := impl.Event{Kind: 3, B: 1, N: n}
			knows := strings.HasPrefix(take.text, "write") || strings.HasPrefix(take.text, "back")
			if knows || n == 1 {
				p.does(e)
				p.leads(0, 3, -2, -1)
			} else {
				p.does(e, take.sent...)
				p.leads(0, 3, 2, -1)
			}
			if !samePart(p.w.Shards[0], m.parts[0].shard()) || len(p.w.Leads[0][0].Cache.Items) != 0 {
				t.Errorf("%s: got\n%s", take.text, worldText(p.w))
			}
		}
	}
	// Nobody has the Fence as term: neither the newest nor the one behind him writes.
	m := writtenWorld()
	m.leads[0] = []leadModel{{term: 2, up: true}, {term: 1, up: true}}
	m.net = msgsOf(t, "write 1 0 0 1 1 4 0 6", "write 1 0 0 1 1 4 0 6")
	p := played(t, m)
	p.does(eventTakes(0))
	p.does(eventTakesBy(0, 1))
	p.leads(0, -2, -1)
}

// TestWorldTakesOtherPart has messages to the other part: there is but one who leads it.
func TestWorldTakesOtherPart(t *testing.T) {
	m := writtenWorld()
	m.net = msgsOf(t, "write 1 1 0 1 1 7 0 6", "fill 0 1 0 2 9 0", "join 1 0 5 0")
	p := played(t, m)
	p.does(eventTakesBy(1, 0), "filled 0 1 0 2 0 9 0 ()")
	p.does(eventTakes(0), "wrote 1 1 0 1 0 7 1 6", "news 0 1 0 0 0 7 1 6")
	p.leads(1, 1)
	p.leads(0, 3, 2, -1)
	if got := msgLines(p.w.Net[:1]); got != "join 1 0 5 0" || len(p.w.Leads[1][0].Cache.Items) != 2 || len(p.w.Leads[0][0].Cache.Items) != 0 {
		t.Errorf("got\n%s", worldText(p.w))
	}
	q := played(t, m)
	q.does(eventTakesBy(0, 1))
	q.does(eventTakesBy(1, 1), "joined 1 0 5 0 0 0 1 0 0 0 0 0 0 0 0 0 1 0 0 0 0 0 0 0 0 0 1 0")
}

// waitingWorld has a tier 0 that waits for a read, and a tier 1 that waits for a write.
func waitingWorld() worldModel {
	w := openWorld()
	w.tiers[0], w.tiers[1] = readingTier(), writingTier()
	w.tiers[0].id = 0
	return w
}

// TestWorldTakesDown has each kind of message that goes to a tier.
func TestWorldTakesDown(t *testing.T) {
	zeros := strings.Repeat(" 0", 24)
	for _, take := range []struct {
		text string
		want []string
	}{
		{"filled 0 0 7 3 0 20 4 (3@5)", []string{"tier 0 has 20 4 (3@5) code 0"}},
		{"filled 0 0 6 3 0 20 4 (3@5)", nil},
		{"filled 1 0 7 3 0 20 4 (3@5)", nil},
		{"wrote 1 0 7 3 3 18 8 (3@5)", []string{"tier 1 wrote 18 8 (3@5) code 3"}},
		{"wrote 0 0 7 3 0 18 8 (3@5)", nil},
		{"news 0 0 0 0 0 18 8 (3@6)", nil},
		{"gone 1 1 0 0 7 9", nil},
		{"joined 0 0 8 0" + zeros, nil},
	} {
		m := waitingWorld()
		m.net = msgsOf(t, "join 0 0 0 0", take.text, "join 1 1 0 0")
		tier := m.net[1].Tier
		// Who leads is not asked.
		for _, who := range append(nobody(1), 0, 1) {
			for _, n := range []int{0, 2, -1, 3} {
				p := played(t, m)
				p.does(impl.Event{Kind: 3, A: 1, B: who, N: n}, take.want...)
				if len(p.w.Net) != 2 || !sameTier(p.w.Tiers[1-tier], m.tiers[1-tier].tier()) {
					t.Errorf("%s: got\n%s", take.text, worldText(p.w))
				}
			}
			// It falls in the place of that: nothing is put into its cache, and nothing is told.
			p := played(t, m)
			p.does(eventCuts(1, who))
			if want := (tierModel{id: tier, inc: 8}).tier(); !sameTier(p.w.Tiers[tier], want) || !sameTier(p.w.Tiers[1-tier], m.tiers[1-tier].tier()) || len(p.w.Net) != 2 {
				t.Errorf("%s: got\n%s", take.text, worldText(p.w))
			}
			p.leads(0, 1)
		}
		m.tiers[tier].inc = 1000
		p := played(t, m)
		p.does(eventCuts(1, 0))
		if !sameTier(p.w.Tiers[tier], m.tiers[tier].tier()) {
			t.Errorf("%s: got\n%s", take.text, worldText(p.w))
		}
	}
	// A tier sends too, when it has joined.
	m := openWorld()
	m.tiers[1].seq, m.tiers[1].waits, m.tiers[1].key = 1, "read", 18
	m.net = msgsOf(t, "joined 1 0 0 0"+zeros)
	p := played(t, m)
	p.does(eventTakes(0), "fill 1 0 0 1 18 0")
	if p.w.Tiers[1].Joined != [2]bool{true, false} {
		t.Errorf("got\n%s", worldText(p.w))
	}
}

// TestWorldSends has so many messages on their way that there is room for some, for one or for none of those that are sent.
func TestWorldSends(t *testing.T) {
	for _, take := range upTakes() {
		for _, net := range []int{1, 36, 37, 38, 39, 40} {
			for _, place := range []int{0, net / 2, net - 1} {
				m := writtenWorld().withNet(net)
				m.net[place] = msgsOf(t, take.text)[0]
				// It is off its way when he sends.
				p := played(t, m)
				p.does(eventTakes(place), take.sent[:min(len(take.sent), 41-net)]...)
				if len(p.w.Net) != min(net-1+len(take.sent), 40) {
					t.Errorf("%s of %d: got\n%s", take.text, net, msgLines(p.w.Net))
				}
			}
		}
	}
	// What is lost was written all the same.
	m := writtenWorld().withNet(40)
	m.net[39] = msgsOf(t, "write 0 0 0 3 2 2 3 5")[0]
	p := played(t, m)
	p.does(eventTakes(39), "wrote 0 0 0 3 0 18 1 (3@5)")
	if p.w.Shards[0].Rows[18].Ver != 1 || len(p.w.Shards[0].Intents) != 2 {
		t.Errorf("got\n%s", worldText(p.w))
	}
	p.does(eventReads(0, 18))
	p.does(eventWrites(1, set(3, 5)))
	p.does(eventRetries(0))
	p.does(eventRetries(1))
	if !p.w.Tiers[0].Busy || !p.w.Tiers[1].Busy {
		t.Errorf("got\n%s", worldText(p.w))
	}
	p.does(eventLoses(0))
	p.does(eventRetries(1), "write 1 1 0 1 1 3 0 5")
	p.does(eventRetries(0))
	p.does(eventLoses(39))
	p.does(eventRetries(0), "join 0 0 0 0")
}

// TestWorldTellsAnswers has so many answers told that there is room for one, or for none.
func TestWorldTellsAnswers(t *testing.T) {
	for _, told := range []int{0, 118, 119, 120} {
		for what, e := range map[string]impl.Event{"takes a read": eventTakes(0), "takes a write": eventTakes(1), "reads": eventReads(0, 18), "retries": eventRetries(0)} {
			m := waitingWorld().withTold(told)
			m.net = msgsOf(t, "filled 0 0 7 3 0 20 4 (3@5)", "wrote 1 0 7 3 3 18 8 (3@5)")
			want := map[string]string{"takes a read": "tier 0 has 20 4 (3@5) code 0", "takes a write": "tier 1 wrote 18 8 (3@5) code 3", "reads": "tier 0 has 18 7 (3@5) code 0", "retries": "tier 0 has 18 7 (3@5) code 0"}[what]
			switch what {
			case "reads":
				m.tiers[0] = m.tiers[0].free()
			case "retries":
				m.tiers[0].key = 18
			}
			p := played(t, m)
			if told == 120 {
				p.does(e)
			} else {
				p.does(e, want)
			}
			if len(p.w.Told) != min(told+1, 120) {
				t.Errorf("%s: %d told of %d", what, len(p.w.Told), told)
			}
			// It waits for nothing any more, though nobody heard of it.
			if tier := p.w.Tiers[strings.Count(what, "takes a write")]; tier.Busy {
				t.Errorf("%s: got %s", what, tierText(tier))
			}
		}
	}
}

// TestWorldTakesEach has each of many messages taken by each who leads, and by its tier, with each N.
func TestWorldTakesEach(t *testing.T) {
	came := map[string]int{}
	for what, m := range map[string]worldModel{"plain": plainWorld(), "written": writtenWorld(), "waiting": waitingWorld()} {
		var msgs []impl.Msg
		for which := range 2 {
			msgs = slices.Concat(msgs, leadMsgs(m.parts[which]), tierMsgs(m.tiers[which]))
		}
		for _, msg := range msgs {
			if !msgTold(msg) {
				continue
			}
			m.net = []impl.Msg{msg}
			w := m.world()
			for who := range 3 {
				for n := range 2 {
					got, _ := wantWorld(t, what, w, m, impl.Event{Kind: 3, B: who, N: n})
					came[fmt.Sprintf("%d sent %d", msg.Kind, len(got.Net))]++
				}
			}
		}
	}
	for _, what := range []string{"1 sent 0", "1 sent 1", "2 sent 0", "3 sent 0", "3 sent 1", "3 sent 2", "3 sent 3", "4 sent 0", "5 sent 0", "6 sent 0", "7 sent 0", "7 sent 1", "8 sent 0", "8 sent 1", "9 sent 0", "9 sent 1", "9 sent 3", "10 sent 0"} {
		if came[what] == 0 {
			t.Errorf("no %s: %v", what, came)
		}
	}
}
