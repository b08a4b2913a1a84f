package tests

import (
	"fmt"
	"math"
	"testing"

	"loop.example/kith/impl"
)

// twoRounds are worlds in which the tier 0 waits for what is written by a retry of the tier 1 alone, as its floor is above what was written: one round is not enough.
func twoRounds() map[string]worldModel {
	worlds := map[string]worldModel{}
	for _, c := range []struct {
		key int
		op  impl.Op
	}{
		{2, set(2, 7)}, {3, set(3, 7)}, {18, bind(2, 3, 7)}, {11, bind(2, 3, 7)}, {10, bind(3, 2, 7)}, {12, bind(2, 4, 7)}, {23, part(7, 5)}, {13, part(7, 5)},
	} {
		for what, m := range map[string]worldModel{"open": openWorld(), "quiet": quietWorld(), "busy": vowWorld()} {
			m.tiers[0] = tierModel{seq: 9, joined: [2]bool{true, true}, waits: "read", key: c.key, cache: cacheModel{}.after(floors(c.key, len(m.calmRound().parts[c.key%2].had[c.key])+1))}
			m.tiers[1] = tierModel{id: 1, inc: 9, seq: 9, waits: "write", op: c.op}
			worlds[fmt.Sprintf("%s, reads %d and writes %v", what, c.key, c.op)] = m
		}
	}
	return worlds
}

// neverQuiet are worlds that are not quiet behind any number of rounds.
func neverQuiet() map[string]worldModel {
	quiet, high, ahead, full := quietWorld(), quietWorld(), quietWorld(), openWorld()
	high.tiers[1].waits, high.tiers[1].key, high.tiers[1].cache = "read", 14, high.tiers[1].cache.after(floors(14, 1))
	ahead.tiers[0].cache = ahead.tiers[0].cache.after(puts(item(7, 1, thing(5))))
	for num := range 60 {
		full = full.written(0, set(3, num))
	}
	worlds := map[string]worldModel{
		"a floor above what is waited for": high, "an item above its row": ahead, "no room for the other end": full.written(0, bind(2, 3, 5)), "no room for three": full.written(0, bind(2, 3, 5), bind(2, 3, 6), part(2, 3)),
		"no room, and other intents": full.written(0, bind(2, 3, 5)).after(eventWrites(0, bind(2, 4, 5)), eventReads(1, 3)),
	}
	for which := range 2 {
		last := quiet
		last.parts[which].fence, last.leads[which] = math.MaxInt, []leadModel{{term: math.MaxInt}}
		worlds[fmt.Sprintf("the last of the part %d is not up", which)] = last
	}
	return worlds
}

// TestCalmAt has worlds that are quiet at once, behind one round, behind two, and never, and all numbers of rounds that are beside these.
func TestCalmAt(t *testing.T) {
	worlds := map[int]map[string]worldModel{
		0:  {"open": openWorld(), "quiet": quietWorld(), "quiet, and told": quietWorld().withTold(120)},
		1:  {"busy": vowWorld(), "asked": openWorld().do(eventReads(0, 2)), "asked, and nobody leads": openWorld().after(eventFells(0, 0), eventFells(1, 0), eventWrites(1, bind(3, 2, 5)))},
		2:  twoRounds(),
		-1: neverQuiet(),
	}
	for first, all := range worlds {
		for what, m := range all {
			p := played(t, m)
			p.calm(first)
			// So many rounds are made, and it is not quiet ahead of the last of them.
			for rounds := range 3 {
				if is := rounds >= first && first >= 0; impl.CalmOk(p.w) != is {
					t.Errorf("%s: behind %d rounds it is quiet is not %v:\n%s", what, rounds, is, worldText(p.w))
				}
				wantBehind(t, what, impl.CalmRound(p.w), p.m.calmRound(), p.w)
				p.w, p.m = impl.CalmRound(p.w), p.m.calmRound()
				left := max(first-rounds-1, 0)
				if first < 0 {
					left = -1
				}
				wantAt(t, what, p.w, left, allMosts()...)
			}
		}
	}
}

// TestCalmAtFirst has a world that is quiet, and isn't any more behind another thing that happens: it is asked anew each time.
func TestCalmAtFirst(t *testing.T) {
	p := played(t, openWorld())
	p.calm(0)
	p.does(eventWrites(0, set(2, 5)), "write 0 0 0 1 1 2 0 5")
	p.calm(1)
	p.round("tier 0 wrote 2 1 5 code 0")
	p.calm(0)
	p.does(eventFells(1, 0))
	p.calm(1)
	p.does(eventRises(1))
	p.calm(0)
	p.does(eventWrites(1, bind(2, 3, 5)), "write 1 0 0 1 2 2 3 5")
	p.does(eventTakes(0), "wrote 1 0 0 1 0 18 1 (3@5)", "news 0 0 0 0 0 18 1 (3@5)", "back 0 1 0 1 2 2 3 5")
	p.does(eventLoses(2))
	p.does(eventTakes(0), "tier 1 wrote 18 1 (3@5) code 0")
	p.does(eventTakes(0))
	// An intent alone is left.
	p.calm(1)
	p.calmed()
	p.calm(1)
	p.round()
	p.calm(0)
}

// drawnQuiet is a world made by hand of few numbers: tiers that wait, floors and items that are too new or too old, of tiers and of who leads.
func (c *chooser) drawnQuiet() worldModel {
	m := openWorld().written(0, set(2, 17), bind(2, 4, 5)).written(1, bind(4, 2, 6))
	keys := []int{2, 10, 12, 18, 20}
	for id := range 2 {
		tier := tierModel{id: id, seq: 9, joined: [2]bool{c.pick(4) > 0, true}}
		for range c.pick(4) {
			key := keys[c.pick(5)]
			ver := len(m.parts[0].had[key]) + c.pick(2)
			if c.pick(3) > 0 {
				tier.cache = tier.cache.after(floors(key, ver))
			} else {
				tier.cache = tier.cache.after(puts(item(key, ver, valOf(key, ver))))
			}
		}
		switch key := keys[c.pick(5)]; c.pick(5) {
		case 0, 1:
			tier.waits, tier.key = "read", key
		case 2, 3:
			tier.waits, tier.op = "write", []impl.Op{set(2, 5), bind(2, 4, 9), part(4, 2)}[c.pick(3)]
		}
		m.tiers[id] = tier
	}
	for range c.pick(4) {
		key := keys[c.pick(5)]
		m.leads[0][0].cache = m.leads[0][0].cache.after(puts(m.parts[0].itemAt(key, c.pick(len(m.parts[0].had[key])+1))))
	}
	return m
}

// TestCalmAtDrawn has many of these. None is quiet behind the third round first: a write is waited for by one round alone, and a read by one more.
func TestCalmAtDrawn(t *testing.T) {
	c, came := chooser(1203), map[int]int{}
	for range 1500 {
		came[wantCalm(t, "drawn", c.drawnQuiet().world(), 0, 1, 2, 3)]++
	}
	if came[0] < 20 || came[1] < 100 || came[2] < 5 || came[-1] < 100 || len(came) != 4 {
		t.Errorf("%v", came)
	}
}
