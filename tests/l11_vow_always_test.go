package tests

import (
	"fmt"
	"testing"

	"loop.example/kith/impl"
)

// vowRun is a world in which anything happens, and what of that has come.
type vowRun struct {
	t    *testing.T
	w    impl.World
	came map[string]int
}

// step is behind an event: all holds that is always so.
func (r *vowRun) step(e impl.Event) {
	r.t.Helper()
	before := r.w
	r.w = impl.WorldDo(before, e)
	if got := askVows(r.w); got != allKept {
		r.t.Fatalf("%+v: %+v:\n%s\nof\n%s", e, got, worldText(r.w), worldText(before))
	}
	if told := vowsTold(r.w); told != allKept {
		r.t.Fatalf("%+v: in the document's words %+v:\n%s\nof\n%s", e, told, worldText(r.w), worldText(before))
	}
	r.countEvent(before, e)
	for which := range 2 {
		r.countPart(which)
		r.countTier(r.w.Tiers[which])
	}
}

// countEvent counts what an event has changed.
func (r *vowRun) countEvent(before impl.World, e impl.Event) {
	if !sameWorld(before, r.w) {
		r.came[fmt.Sprint("kind ", e.Kind)]++
	}
	if len(r.w.Net) == 40 {
		r.came["full net"]++
	}
	if len(r.w.Told) == 120 {
		r.came["all told"]++
	}
	if e.Kind == 3 && e.N == 1 && len(r.w.Net) < len(before.Net) {
		r.came["cut"]++
	}
	for _, told := range r.w.Told[len(before.Told):] {
		r.came[fmt.Sprintf("wrote %v, code %d", told.Wrote, told.Code)]++
	}
	for _, spot := range itemSpots(&r.w) {
		if row := r.w.Shards[spot.it.Key%2].Rows[spot.it.Key].Ver; spot.it.Ver < row {
			r.came[fmt.Sprint("older, on its way ", spot.net)]++
		}
	}
	g := impl.WorldGraph(r.w)
	for a := range 8 {
		for b := range 8 {
			at, is := impl.EdgeHas(g.Rows[16+a].Kin, b)
			since, has := impl.EdgeHas(g.Rows[8+b].Kin, a)
			r.came[fmt.Sprintf("bond %v and %v, of one time %v, in one part %v", is, has, at == since, a%2 == b%2)]++
		}
	}
}

// countPart counts what is on its way from a part, and who leads it.
func (r *vowRun) countPart(which int) {
	s := r.w.Shards[which]
	if len(s.Log) == 60 {
		r.came["full log"]++
	}
	r.came[fmt.Sprint("intents ", len(s.Intents))]++
	for place, in := range s.Intents {
		for _, later := range s.Intents[place+1:] {
			if in.Op.A == later.Op.A && in.Op.B == later.Op.B {
				r.came[fmt.Sprintf("turned by %d and %d", in.Op.Kind, later.Op.Kind)]++
			}
		}
	}
	r.came[fmt.Sprint("lead ", len(r.w.Leads[which]))]++
	for place, l := range r.w.Leads[which] {
		if place > 0 && l.Up && len(l.Cache.Items) > 0 {
			r.came["put off, and up, with items"]++
		}
	}
}

// countTier counts which parts a tier has joined, and what it has told.
func (r *vowRun) countTier(tier impl.Tier) {
	for which := range 2 {
		for key := which; key < 24; key += 2 {
			if last := lastTold(r.w.Told, tier.Id, key); last > 0 {
				r.came[fmt.Sprintf("joined %v, floor as told %v, below %v", tier.Joined[which], tier.Cache.Floors[key] == last, tier.Cache.Floors[key] < last)]++
			}
		}
	}
}

// wantCame tells what has not come often enough.
func (r *vowRun) wantCame(least int, all ...string) {
	r.t.Helper()
	for _, what := range all {
		if r.came[what] < least {
			r.t.Errorf("%s came but %d times: %v", what, r.came[what], r.came)
		}
	}
}

// almostFull is a world made by events, but that its parts have room for so many commits more alone.
func almostFull(room int) impl.World {
	w := openWorld()
	for num := range 60 - room {
		w = w.written(0, set(2, num)).written(1, set(3, num))
	}
	w.told = w.told[:80]
	return w.world()
}

// TestVowAlways is promise 12: whatever happens, whatever is lost, comes twice, late, or to whoever leads, whoever falls, all holds behind each event.
func TestVowAlways(t *testing.T) {
	c := chooser(1212)
	r := &vowRun{t: t, came: map[string]int{}}
	for run := range 24 {
		r.w = impl.WorldOpen()
		if run%6 == 5 {
			r.w = almostFull(1 + run%4)
		}
		told := &toldWorld{t: t, c: &c}
		for range []int{300, 500, 900}[run%3] {
			if told.w = r.w; run%2 == 0 {
				r.step(told.event())
			} else {
				r.step(c.event(worldModel{net: r.w.Net}, run%4 == 1))
			}
			// Else there is no room, behind some time, for anything more that is told.
			if run%12 < 11 && len(r.w.Told) > 100 {
				r.w.Told = r.w.Told[60:]
			}
		}
	}
	r.wantCame(20, "kind 1", "kind 2", "kind 3", "kind 4", "kind 5", "kind 6", "kind 7", "kind 8", "kind 9", "kind 10", "kind 11", "kind 12", "full net", "all told", "cut", "full log",
		"wrote true, code 0", "wrote true, code 3", "wrote false, code 0", "older, on its way true", "older, on its way false", "intents 0", "intents 1", "intents 2", "intents 3", "lead 1", "lead 2", "lead 3", "put off, and up, with items",
		"turned by 2 and 2", "turned by 2 and 3", "turned by 3 and 2", "turned by 3 and 3", "joined true, floor as told true, below false", "joined true, floor as told false, below false", "joined false, floor as told false, below true", "joined false, floor as told true, below false",
		"bond true and true, of one time true, in one part true", "bond true and true, of one time true, in one part false", "bond true and true, of one time false, in one part false", "bond true and false, of one time false, in one part false",
		"bond false and true, of one time false, in one part false", "bond true and false, of one time false, in one part true", "bond false and true, of one time false, in one part true", "bond true and false, of one time true, in one part false", "bond true and false, of one time true, in one part true")
}

// TestVowAlwaysOfKept has runs from worlds in which all holds already, and other keys than the two that are written most.
func TestVowAlwaysOfKept(t *testing.T) {
	c := chooser(1213)
	for what, m := range keptWorlds() {
		r := &vowRun{t: t, came: map[string]int{}}
		for run := range 3 {
			r.w = m.world()
			for range 120 {
				e := c.event(worldModel{net: r.w.Net}, run == 1)
				if a := c.pick(8); c.pick(4) == 0 {
					b := (a + 1 + c.pick(7)) % 8
					e = []impl.Event{eventWrites(c.pick(2), bind(a, b, c.pick(1001))), eventWrites(c.pick(2), part(a, b)), eventReads(c.pick(2), c.pick(24)), eventRises(c.pick(2))}[c.pick(4)]
				}
				r.step(e)
			}
		}
		if len(r.came) < 10 {
			t.Errorf("%s: %v", what, r.came)
		}
	}
}

// TestVowAlwaysFew has all runs of few events, of those that write, take, lose and fall.
func TestVowAlwaysFew(t *testing.T) {
	events := []impl.Event{eventTakes(0), eventTakes(1), eventTakesBy(0, 1), eventCuts(0, 0), eventLoses(0), eventTwice(0), eventRises(0), eventWrites(0, bind(2, 4, 5)), eventWrites(1, part(2, 4)), eventReads(1, 18), eventFalls(1)}
	var runs func(w impl.World, left int)
	runs = func(w impl.World, left int) {
		if left == 0 {
			return
		}
		for _, e := range events {
			next := impl.WorldDo(w, e)
			if sameWorld(next, w) {
				continue
			}
			if !impl.VowAll(next) || !impl.VowItems(next) || !impl.VowFloors(next) || !impl.VowBonds(next) || !impl.VowLeads(next) {
				t.Fatalf("%+v: %+v:\n%s\nof\n%s", e, askVows(next), worldText(next), worldText(w))
			}
			runs(next, left-1)
		}
	}
	runs(impl.WorldPlay(impl.WorldOpen(), []impl.Event{eventWrites(0, bind(2, 4, 5)), eventReads(1, 18)}), 5)
}
