package tests

import (
	"fmt"
	"math"
	"slices"
	"testing"

	"loop.example/kith/impl"
)

// ledNumbers are the terms of those who lead, that of one who is not up below 0.
func ledNumbers(leads []leadModel) []int {
	var terms []int
	for _, l := range leads {
		if l.up {
			terms = append(terms, l.term)
		} else {
			terms = append(terms, -l.term)
		}
	}
	return terms
}

// TestCalmRoundRises has parts that nobody leads, each in any of the ways: somebody rises there, and nowhere else.
func TestCalmRoundRises(t *testing.T) {
	led := quietChange{"somebody leads", 0, func(m *worldModel) {}}
	for _, first := range append(unled(0), led) {
		for _, second := range append(unled(1), led) {
			m := quietWorld()
			first.do(&m)
			second.do(&m)
			p := played(t, m)
			p.round()
			for which, change := range []quietChange{first, second} {
				want, fence := ledNumbers(m.leads[which]), m.parts[which].fence
				if change.first > 0 {
					fence++
					want = append([]int{fence}, want...)
				}
				p.leads(which, want[:min(len(want), 3)]...)
				if p.w.Shards[which].Fence != fence {
					t.Errorf("%s, %s: the Fence of %d is %d", first.what, second.what, which, p.w.Shards[which].Fence)
				}
				// Who is new has an empty cache, who led before has his.
				if l := p.w.Leads[which][0]; change.first > 0 && len(l.Cache.Items) != 0 || change.first == 0 && !sameCache(l.Cache, m.leads[which][0].cache.cache()) {
					t.Errorf("%s, %s: got %s", first.what, second.what, leadText(l))
				}
			}
			p.calm(0)
		}
	}
}

// TestCalmRoundLed has parts that somebody leads, with others behind him: nobody rises.
func TestCalmRoundLed(t *testing.T) {
	for _, fence := range []int{0, 1, 3, math.MaxInt} {
		for _, behind := range [][]leadModel{nil, {{term: fence - 1, up: true}}, {{term: fence - 1}}, {{term: fence - 1}, {term: fence - 2, up: true}}} {
			if fence < 2 && len(behind) > 0 {
				continue
			}
			m := openWorld()
			for which := range 2 {
				m.parts[which].fence, m.leads[which] = fence, slices.Concat([]leadModel{{term: fence, up: true}}, behind)
			}
			p := played(t, m)
			p.calm(0)
			p.round()
			for which := range 2 {
				p.leads(which, ledNumbers(m.leads[which])...)
			}
			p.calm(0)
		}
	}
}

// TestCalmRoundLastFence has a part whose Fence is the greatest: nobody's term is above his who has it.
func TestCalmRoundLastFence(t *testing.T) {
	for which := range 2 {
		m := quietWorld()
		m.parts[which].fence, m.leads[which] = math.MaxInt, []leadModel{{term: math.MaxInt}, {term: 7, up: true}}
		m = m.do(eventWrites(which, set(2+which, 5)))
		p := played(t, m)
		p.calm(-1)
		for range 3 {
			p.round()
			p.leads(which, -math.MaxInt, 7)
		}
		p.calm(-1)
		// Where nobody has it yet, somebody rises with it.
		m.leads[which][0].term = math.MaxInt - 1
		p = played(t, m)
		p.calm(1)
		p.round(fmt.Sprintf("tier %d wrote %d %d 5 code 0", which, 2+which, []int{3, 2}[which]))
		p.leads(which, math.MaxInt, 1-math.MaxInt, 7)
		p.calm(0)
	}
}

// TestCalmRoundComesFirst has messages on their way to a part that nobody leads: they come ahead of him who rises.
func TestCalmRoundComesFirst(t *testing.T) {
	m := openWorld().after(eventWrites(0, set(2, 5)), eventTwice(0), eventFells(0, 0))
	p := played(t, m)
	p.round("tier 0 wrote 2 1 5 code 0")
	p.logs(0, 2)
	// Nobody writes what nobody waits for any more.
	p = played(t, m.do(eventFalls(0)))
	p.round()
	p.logs(0)
	p.calm(0)
	p = played(t, openWorld().after(eventWrites(0, set(2, 5)), eventFalls(0)))
	p.round()
	p.logs(0, 2)
	p.calm(0)
}

// outWorld has items in the cache of the tier 0, and other ends of some of their keys that have not come; nothing is on its way.
func outWorld(reads []int, out ...impl.Op) worldModel {
	w := openWorld().read(0, reads...)
	for _, op := range out {
		w = w.after(eventWrites(1, op), eventTakes(0))
		for len(w.net) > 0 {
			if w.net[0].Kind == 4 {
				w = w.do(eventTakes(0))
			} else {
				w = w.do(eventLoses(0))
			}
		}
	}
	return w
}

// TestCalmRoundRisesInOrder has parts that nobody leads, whose other ends go to each other: those of the part 0 are lost first, as nobody leads the part 1 yet.
func TestCalmRoundRisesInOrder(t *testing.T) {
	m := outWorld([]int{10, 11}, bind(2, 3, 5), bind(3, 2, 7))
	p := played(t, m.after(eventFells(0, 0), eventFells(1, 0)))
	p.holds(0, 11, 10)
	p.round()
	// The news of the key 10 have come first.
	p.holds(0, 11, 10)
	p.logs(0, 18, 10)
	p.logs(1, 19, 11)
	p.calm(0)
	// Where somebody leads the part 1, both come as soon as he does who rises in the part 0; those of the part 1 are sent again behind that.
	p = played(t, m.do(eventFells(0, 0)))
	p.round()
	p.holds(0, 10, 11)
	p.calm(0)
	p = played(t, m)
	p.round()
	p.holds(0, 10, 11)
	p.calm(0)
}

// staleWorld has an item in the cache of the tier 0 whose key was written since, which it hasn't heard of, and another write of that on its way.
func staleWorld(key int, first impl.Op, second impl.Op) worldModel {
	w := outWorld([]int{key}, first)
	w = w.after(eventAgain(first.A%2, 0), eventTakes(0))
	for len(w.net) > 0 {
		if w.net[0].Kind == 10 {
			w = w.do(eventTakes(0))
		} else {
			w = w.do(eventLoses(0))
		}
	}
	w = w.after(eventWrites(1, second), eventTakes(0))
	w.net = nil
	w.tiers[1] = tierModel{id: 1, inc: 1}
	return w
}

// TestCalmRoundTellsInOrder has an item that is told to be gone ahead of the news of it, and one of which the news come first: that is replaced, the other one is gone.
func TestCalmRoundTellsInOrder(t *testing.T) {
	for _, c := range []struct {
		key    int
		first  impl.Op
		second impl.Op
		stays  bool
	}{
		// Of one part, and of the part 0 to the part 1, the other ends come ahead of what is told.
		{12, bind(2, 4, 5), bind(2, 4, 6), true},
		{13, bind(3, 5, 5), part(3, 5), true},
		{11, bind(2, 3, 5), bind(4, 3, 6), true},
		// Those of the part 1 to the part 0 come behind what that tells.
		{10, bind(3, 2, 5), bind(3, 2, 6), false},
		{12, bind(7, 4, 5), part(7, 4), false},
	} {
		p := played(t, staleWorld(c.key, c.first, c.second))
		p.holds(0, c.key)
		p.calm(1)
		p.round()
		if c.stays {
			p.holds(0, c.key)
		} else {
			p.holds(0)
		}
		if floor := p.w.Tiers[0].Cache.Floors[c.key]; floor != 2 || p.w.Shards[c.key%2].Rows[c.key].Ver != 2 {
			t.Errorf("%v: got\n%s", c, worldText(p.w))
		}
		p.calm(0)
	}
}

// waitsWithStale has the tier 0 wait for a number of which it has an old item.
func waitsWithStale(key int) worldModel {
	m := openWorld().written(0, set(key, 5)).read(0, key).after(eventWrites(1, set(key, 6)), eventTakes(0), eventLoses(1)).taken()
	m.tiers[0].waits, m.tiers[0].key = "read", key
	return m
}

// TestCalmRoundRetriesLast has tiers that wait while other ends have not come, and items are old: all of that comes ahead of what they ask for.
func TestCalmRoundRetriesLast(t *testing.T) {
	// There is no room for another intent, until those that there are have come.
	m := outWorld(nil, bind(2, 3, 5), bind(2, 5, 6), bind(4, 7, 7))
	p := played(t, m)
	p.does(eventWrites(0, bind(6, 1, 9)), "write 0 0 0 1 2 6 1 9")
	p.does(eventTwice(0), "write 0 0 0 1 2 6 1 9")
	p.does(eventTakes(0), "wrote 0 0 0 1 3 22 0 ()")
	p.calmed("tier 0 wrote 22 0 () code 3")
	p.does(eventWrites(0, bind(6, 1, 9)), "write 0 0 0 2 2 6 1 9")
	p.does(eventLoses(0))
	p.round("tier 0 wrote 22 1 (1@9) code 0")
	p.logs(1, 11, 13, 15, 9)
	p.calm(0)
	// An item that is old is gone ahead of its being told.
	for which := range 2 {
		p = played(t, waitsWithStale(2+which))
		p.round(fmt.Sprintf("tier 0 has %d 2 6 code 0", 2+which))
		p.calm(0)
	}
	// Of both tiers the first one asks first, and all of that comes ahead of what the other one asks for.
	for id := range 2 {
		m = openWorld().after(eventReads(id, 2), eventWrites(1-id, set(2, 5)), eventLoses(0), eventLoses(0))
		p = played(t, m)
		if id == 0 {
			p.round("tier 0 has 2 0 0 code 0", "tier 1 wrote 2 1 5 code 0")
			// It hears of that too.
			p.holds(0, 2)
		} else {
			p.round("tier 0 wrote 2 1 5 code 0", "tier 1 has 2 1 5 code 0")
		}
		p.calm(0)
	}
	p = played(t, openWorld().after(eventWrites(1, set(2, 6)), eventWrites(0, set(2, 5)), eventLoses(0), eventLoses(0)))
	p.round("tier 0 wrote 2 1 5 code 0", "tier 1 wrote 2 2 6 code 0")
	p.calm(0)
}

// otherRounds are rounds with one step left out, with two that follow each other turned, and with no messages coming behind one.
func otherRounds() map[string][]roundStep {
	rounds, steps := map[string][]roundStep{}, roundSteps()
	for place, step := range steps {
		rounds["without "+step.what] = slices.Delete(slices.Clone(steps), place, place+1)
		late := slices.Clone(steps)
		late[place].comes = false
		rounds["nothing comes behind "+step.what] = late
		if place > 0 {
			turned := slices.Clone(steps)
			turned[place-1], turned[place] = steps[place], steps[place-1]
			rounds[step.what+" ahead of "+steps[place-1].what] = turned
		}
	}
	return rounds
}

// TestCalmRoundNoOther has many worlds: a round is as the document says, and each other one is another one in some of them.
func TestCalmRoundNoOther(t *testing.T) {
	worlds := []worldModel{
		outWorld([]int{10, 11}, bind(2, 3, 5), bind(3, 2, 7)),
		staleWorld(12, bind(2, 4, 5), bind(2, 4, 6)), staleWorld(13, bind(3, 5, 5), part(3, 5)), staleWorld(11, bind(2, 3, 5), bind(4, 3, 6)), staleWorld(10, bind(3, 2, 5), bind(3, 2, 6)), staleWorld(12, bind(7, 4, 5), part(7, 4)),
	}
	for _, m := range worlds {
		worlds = append(worlds, m.after(eventFells(0, 0), eventFells(1, 0)), m.after(eventFells(1, 0), eventReads(0, 2), eventWrites(1, set(2, 9))), m.after(eventReads(1, 2), eventWrites(0, set(2, 9)), eventFells(0, 0)))
	}
	for _, m := range keptWorlds() {
		worlds = append(worlds, m)
	}
	worlds = append(worlds, waitsWithStale(2), waitsWithStale(3), openWorld().after(eventReads(0, 2), eventWrites(1, set(2, 5)), eventLoses(0), eventLoses(0)))
	others := otherRounds()
	for _, m := range worlds {
		w := m.world()
		got := impl.CalmRound(w)
		wantBehind(t, "round", got, m.calmRound(), w)
		for what, steps := range others {
			if !sameWorld(m.stepped(steps).world(), got) {
				delete(others, what)
			}
		}
	}
	for what := range others {
		// Of these no answer hangs: what is on its way comes ahead of what is sent next, and calls forth nothing that matters to that.
		if what != "nothing comes behind rises in part 1" && what != "nothing comes behind tells of part 0" {
			t.Errorf("as in all of these: %s", what)
		}
	}
}

// TestCalmRoundFull has no room for what is sent, or for what is told, or for anybody more who leads.
func TestCalmRoundFull(t *testing.T) {
	m := openWorld().after(eventWrites(0, bind(2, 3, 5)), eventReads(1, 2))
	for _, net := range []int{2, 38, 39, 40} {
		for _, told := range []int{0, 118, 119, 120} {
			for _, fells := range [][]impl.Event{nil, {eventFells(0, 0)}, {eventFells(1, 0)}, {eventFells(0, 0), eventFells(1, 0)}, {eventFells(0, 0), eventRises(0), eventRises(0), eventRises(0), eventFells(0, 0)}} {
				p := played(t, m.withNet(net).withTold(told).after(fells...))
				p.round([]string{"tier 0 wrote 18 1 (3@5) code 0", "tier 1 has 2 0 0 code 0"}[:min(120-told, 2)]...)
				p.logs(0, 18)
				p.logs(1, 11)
				p.calm(0)
				if len(p.w.Told) > 120 || len(p.w.Leads[0]) > 3 {
					t.Errorf("got\n%s", worldText(p.w))
				}
			}
		}
	}
}
