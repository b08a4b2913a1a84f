package tests

import (
	"fmt"
	"slices"
	"testing"

	"loop.example/kith/impl"
)

// TestCalmAllNone has no message on its way: the world is as it is, whatever else it is.
func TestCalmAllNone(t *testing.T) {
	for _, worlds := range []map[string]worldModel{keptWorlds(), rightWorlds()} {
		for what, m := range worlds {
			m.net = nil
			wantBehind(t, what, impl.CalmAll(m.world()), m, m.world())
		}
	}
	for which := range 2 {
		for _, change := range unled(which) {
			m := quietWorld()
			change.do(&m)
			wantBehind(t, change.what, impl.CalmAll(m.world()), m, m.world())
		}
	}
}

// TestCalmAllEach is the world behind EventTakes of the first message, one by one, as long as there is one.
func TestCalmAllEach(t *testing.T) {
	c, came := chooser(1202), map[string]int{}
	worlds := []worldModel{writtenWorld(), waitingWorld(), quietWorld()}
	for _, more := range []map[string]worldModel{keptWorlds(), rightWorlds()} {
		for _, m := range more {
			worlds = append(worlds, m)
		}
	}
	for _, m := range worlds {
		for _, net := range []int{len(m.net), 0, 1, 2, 20, 39, 40} {
			m := m.withNet(net)
			for place := range m.net {
				// Some of them are such as call forth others, to whoever leads and to tiers that wait.
				if which := c.pick(2); c.pick(3) > 0 {
					msgs := slices.Concat(leadMsgs(m.parts[which]), tierMsgs(m.tiers[which]))
					if msg := msgs[c.pick(len(msgs))]; msgTold(msg) {
						m.net[place] = msg
					}
				}
			}
			one := m.world()
			takes := 0
			for ; len(one.Net) > 0; takes++ {
				one = impl.WorldDo(one, eventTakes(0))
			}
			if got := impl.CalmAll(m.world()); !sameWorld(got, one) {
				t.Fatalf("%d messages: got\n%s\nwant\n%s\nof\n%s", net, worldText(got), worldText(one), worldText(m.world()))
			}
			came[fmt.Sprintf("more than there were %v, full %v", takes > len(m.net), len(m.net) == 40)]++
		}
	}
	for _, what := range []string{"more than there were true, full true", "more than there were true, full false", "more than there were false, full false"} {
		if came[what] < 20 {
			t.Errorf("%s came but %d times: %v", what, came[what], came)
		}
	}
}

// TestCalmAllCallsForth has messages that call forth others, which come too.
func TestCalmAllCallsForth(t *testing.T) {
	p := played(t, openWorld())
	// A join is answered, which asks for the key, which is told.
	p.does(eventReads(0, 18), "join 0 0 0 0")
	p.calmed("tier 0 has 18 0 () code 0")
	p.holds(0, 18)
	// A write is answered, the other tier hears of it, its other end comes, which is known, and both tiers hear of that.
	p.does(eventReads(0, 11), "join 0 1 0 0")
	p.calmed("tier 0 has 11 0 () code 0")
	p.does(eventWrites(1, bind(2, 3, 5)), "write 1 0 0 1 2 2 3 5")
	p.calmed("tier 1 wrote 18 1 (3@5) code 0")
	p.logs(0, 18)
	p.logs(1, 11)
	p.holds(0, 11, 18)
	if len(p.w.Shards[0].Intents) != 0 || p.w.Tiers[0].Cache.Floors[11] != 1 || p.w.Tiers[0].Cache.Floors[18] != 1 || p.w.Tiers[1].Cache.Floors[11] != 1 {
		t.Errorf("got\n%s", worldText(p.w))
	}
	p.calm(0)
	// A bond of one part's people is of that part alone.
	p.does(eventWrites(0, bind(2, 4, 5)), "write 0 0 0 3 2 2 4 5")
	p.calmed("tier 0 wrote 18 2 (3@5 4@5) code 0")
	p.logs(0, 18, 18, 12)
	p.logs(1, 11)
	p.calm(0)
}

// TestCalmAllFirst has so many writes that it matters which of them comes first.
func TestCalmAllFirst(t *testing.T) {
	m := openWorld()
	for seq := 1; seq <= 40; seq++ {
		m.net = append(m.net, opMsg(msgOf(3, 0, 0, 0, seq), set(2, seq)))
	}
	p := played(t, m)
	p.calmed()
	if row := p.w.Shards[0].Rows[2]; row.Ver != 40 || row.Val.Num != 40 || len(p.w.Net) != 0 {
		t.Errorf("got\n%s", worldText(p.w))
	}
	// The others are older than the first one.
	slices.Reverse(m.net)
	p = played(t, m)
	p.calmed()
	if row := p.w.Shards[0].Rows[2]; row.Ver != 1 || row.Val.Num != 40 || len(p.w.Net) != 0 {
		t.Errorf("got\n%s", worldText(p.w))
	}
	for _, order := range [][2]int{{0, 1}, {1, 0}} {
		m := openWorld().after(eventWrites(order[0], set(3, 70+order[0])), eventWrites(order[1], set(3, 70+order[1])))
		p := played(t, m)
		p.calmed(fmt.Sprintf("tier %d wrote 3 1 %d code 0", order[0], 70+order[0]), fmt.Sprintf("tier %d wrote 3 2 %d code 0", order[1], 70+order[1]))
		// What he wrote first was told as it was then; what is on its way behind it is newer.
		if it := p.w.Tiers[order[1]].Cache.Items[0]; it.Ver != 2 {
			t.Errorf("got\n%s", worldText(p.w))
		}
	}
	// One that is called forth comes behind those that were there.
	m = openWorld().after(eventReads(0, 2), eventWrites(1, set(2, 5)))
	p = played(t, m)
	p.calmed("tier 1 wrote 2 1 5 code 0", "tier 0 has 2 1 5 code 0")
}

// TestCalmAllByFirst has others behind the first who leads, who are up and have older items.
func TestCalmAllByFirst(t *testing.T) {
	m := openWorld().written(0, set(2, 5)).after(eventRises(0)).written(0, set(2, 6)).read(1, 2)
	for _, id := range []int{0, 1} {
		p := played(t, m.after(eventDrops(id, 2), eventReads(id, 2)))
		p.leads(0, 2, 1)
		p.calmed(fmt.Sprintf("tier %d has 2 2 6 code 0", id))
	}
	// Who is the first takes it, though he was put off.
	late := m
	late.leads[0] = late.leads[0][1:]
	late.tiers[1] = tierModel{id: 1, seq: 9, joined: [2]bool{true, true}}
	p := played(t, late.after(eventReads(1, 2)))
	p.leads(0, 1)
	p.calmed("tier 1 has 2 1 5 code 0")
	p.leads(0, 1)
	// A write puts him off, and what comes behind it is taken by nobody: not by one who is behind him either.
	q := played(t, m)
	q.m.parts[0].fence = 3
	q.w = q.m.world()
	q.does(eventWrites(0, set(2, 7)), "write 0 0 0 3 1 2 0 7")
	q.does(eventReads(1, 18), "fill 1 0 0 2 18 0")
	q.calmed()
	q.leads(0, -2, 1)
	q.logs(0, 2, 2)
	if !q.w.Tiers[0].Busy || !q.w.Tiers[1].Busy {
		t.Errorf("got\n%s", worldText(q.w))
	}
}

// TestCalmAllByNobody has messages to a part that nobody leads, or the first of whose leaders is not up: they are off their way, and that is all.
func TestCalmAllByNobody(t *testing.T) {
	for _, take := range upTakes() {
		for what, leads := range map[string][]leadModel{
			"nobody leads": nil, "one who is not up": {{term: 3}}, "the first is not up": {{term: 3}, {term: 2, up: true}, {term: 1, up: true}}, "none is up": {{term: 3}, {term: 2}, {term: 1}},
		} {
			m := writtenWorld()
			m.leads[0] = leads
			for _, many := range []int{1, 2, 40} {
				m.net = slices.Repeat(msgsOf(t, take.text), many)
				want := m
				want.net = nil
				wantBehind(t, fmt.Sprintf("%s, %s", what, take.text), impl.CalmAll(m.world()), want, m.world())
			}
			// The other part's messages come all the same.
			m.net = msgsOf(t, take.text, "write 1 1 0 1 1 3 0 6", take.text)
			p := played(t, m)
			p.calmed()
			p.logs(1, 3)
			if !samePart(p.w.Shards[0], m.parts[0].shard()) {
				t.Errorf("%s, %s: got\n%s", what, take.text, worldText(p.w))
			}
		}
	}
}

// TestCalmAllFull has as many messages and answers as there can be.
func TestCalmAllFull(t *testing.T) {
	m := openWorld().after(eventWrites(0, bind(2, 3, 5)), eventReads(1, 2)).withNet(40).withTold(120)
	p := played(t, m)
	p.calmed()
	p.logs(0, 18)
	// Both wait for nothing any more, though nobody hears of it; what is lost is called forth no more.
	if len(p.w.Told) != 120 || p.w.Tiers[0].Busy || p.w.Tiers[1].Busy || len(p.w.Net) != 0 {
		t.Errorf("got\n%s", worldText(p.w))
	}
	p.logs(1)
	if len(p.w.Shards[0].Intents) != 1 {
		t.Errorf("got\n%s", worldText(p.w))
	}
	p.calm(1)
	// With room for one more, that is there too.
	p = played(t, openWorld().after(eventWrites(0, bind(2, 3, 5)), eventReads(1, 2)).withNet(38).withTold(118))
	p.calmed("tier 0 wrote 18 1 (3@5) code 0", "tier 1 has 2 0 0 code 0")
	p.logs(1, 11)
}
