package tests

import (
	"fmt"
	"slices"
	"testing"

	"loop.example/kith/impl"
)

// quietRun is worlds in which anything happened, and what of that has come.
type quietRun struct {
	t    *testing.T
	came map[string]int
}

// wantQuiet is promise 13 of a world behind whatever happened: within 3 rounds all is quiet, as long as no part is full.
func (r *quietRun) wantQuiet(w impl.World) {
	r.t.Helper()
	first, x := impl.CalmAt(w, 3), w
	rounds := first
	if first < 0 {
		rounds = 3
	}
	for many := range rounds {
		if impl.CalmOk(x) {
			r.t.Fatalf("it is quiet behind %d rounds, not %d first:\n%s", many, first, worldText(w))
		}
		x = impl.CalmRound(x)
	}
	if len(x.Shards[0].Log) == 60 || len(x.Shards[1].Log) == 60 {
		r.came[fmt.Sprintf("full, quiet %v", impl.CalmOk(x))]++
		return
	}
	r.came[fmt.Sprint("quiet behind ", first)]++
	if !among(first, 0, 3) || !impl.CalmOk(x) || !calmTold(x) {
		r.t.Fatalf("it is quiet behind %d rounds:\n%s\nof\n%s", first, worldText(x), worldText(w))
	}
	if got := askVows(x); got != allKept || !impl.GraphOk(impl.WorldGraph(x)) {
		r.t.Fatalf("%+v, or a bond is known from one end:\n%s\nof\n%s", got, worldText(x), worldText(w))
	}
	r.wantAnswered(w, x)
	r.wantEachHas(x)
	r.wantStays(x)
}

// wantAnswered has each tier that waited be answered once behind the rounds, and no other one.
func (r *quietRun) wantAnswered(w impl.World, x impl.World) {
	r.t.Helper()
	many := [2]int{}
	for _, told := range x.Told[len(w.Told):] {
		tier := w.Tiers[told.Tier]
		key := tier.Key
		if tier.Busy && !tier.Reads {
			key = opKeyTold(tier.Op)
		}
		if !tier.Busy || told.Wrote == tier.Reads || told.Item.Key != key {
			r.t.Fatalf("%+v is told:\n%s\nof\n%s", told, worldText(x), worldText(w))
		}
		many[told.Tier]++
		r.came[fmt.Sprintf("wrote %v, code %d", told.Wrote, told.Code)]++
	}
	for id, tier := range w.Tiers {
		want := 0
		if tier.Busy {
			want = 1
		}
		if many[id] != want && len(w.Told) < 119 {
			r.t.Fatalf("the tier %d told %d times, not %d:\n%s\nof\n%s", id, many[id], want, worldText(x), worldText(w))
		}
	}
}

// wantEachHas has each tier answer of each key what its row has.
func (r *quietRun) wantEachHas(x impl.World) {
	r.t.Helper()
	x.Told = nil
	var events []impl.Event
	for id := range 2 {
		for key := range 24 {
			events = append(events, eventReads(id, key), eventTakes(0), eventTakes(0), eventTakes(0), eventTakes(0))
		}
	}
	told := impl.WorldPlay(x, events).Told
	if len(told) != 48 {
		r.t.Fatalf("%d answers of:\n%s", len(told), worldText(x))
	}
	for place, got := range told {
		key := place % 24
		row := x.Shards[key%2].Rows[key]
		if want := toldHas(place/24, item(key, row.Ver, row.Val)); !sameTold(got, want) {
			r.t.Fatalf("got %+v, want %+v of:\n%s", got, want, worldText(x))
		}
	}
}

// wantStays has another round change nothing that CalmOk asks, nor what was told: floors alone.
func (r *quietRun) wantStays(x impl.World) {
	r.t.Helper()
	z := impl.CalmRound(x)
	if !impl.CalmOk(z) || impl.CalmAt(z, 0) != 0 {
		r.t.Fatalf("it isn't quiet behind another round:\n%s\nof\n%s", worldText(z), worldText(x))
	}
	for id := range z.Tiers {
		got, want := z.Tiers[id].Cache, x.Tiers[id].Cache
		if !slices.EqualFunc(got.Items, want.Items, sameItem) {
			r.t.Fatalf("the tier %d has other items behind another round:\n%s\nof\n%s", id, worldText(z), worldText(x))
		}
		z.Tiers[id].Cache = want
	}
	if !sameWorld(z, x) {
		r.t.Fatalf("another round changes:\n%s\nof\n%s", worldText(z), worldText(x))
	}
}

// count counts what is not quiet in a world.
func (r *quietRun) count(w impl.World) {
	for which, s := range w.Shards {
		r.came[fmt.Sprint("led ", ledTold(w.Leads[which], s))]++
		r.came[fmt.Sprint("intents ", len(s.Intents))]++
		tier := w.Tiers[which]
		r.came[fmt.Sprintf("busy %v, reads %v", tier.Busy, tier.Reads)]++
		for _, it := range tier.Cache.Items {
			r.came[fmt.Sprint("old item ", it.Ver < w.Shards[it.Key%2].Rows[it.Key].Ver)]++
		}
	}
	r.came[fmt.Sprintf("messages %v, all that there can be %v", len(w.Net) > 0, len(w.Net) == 40)]++
	r.came[fmt.Sprint("all told ", len(w.Told) == 120)]++
}

// TestCalmAlways is promise 13: from whatever happened, whatever was lost, came twice, late, or to whoever leads, whoever fell.
func TestCalmAlways(t *testing.T) {
	c := chooser(1313)
	r := &quietRun{t: t, came: map[string]int{}}
	for run := range 24 {
		told := &toldWorld{t: t, c: &c, w: impl.WorldOpen()}
		switch run % 6 {
		case 5:
			told.w = almostFull(1 + run%4)
		case 4:
			told.w = openWorld().written(0, bind(2, 3, 5)).withSo(110).world()
		}
		for many := range []int{300, 400, 600}[run%3] {
			e := c.event(worldModel{net: told.w.Net}, run%4 == 1)
			if run%2 == 0 {
				e = told.event()
			}
			next := impl.WorldDo(told.w, e)
			if !sameWorld(next, told.w) {
				r.came[fmt.Sprint("kind ", e.Kind)]++
			}
			if told.w = next; many%12 == 0 {
				r.count(told.w)
				r.wantQuiet(told.w)
			}
			// Else there is no room, behind some time, for anything more that is told.
			if run%6 < 4 && len(told.w.Told) > 100 {
				told.w.Told = told.w.Told[60:]
			}
		}
	}
	for _, what := range []string{
		"kind 1", "kind 2", "kind 3", "kind 4", "kind 5", "kind 6", "kind 7", "kind 8", "kind 9", "kind 10", "kind 11", "kind 12", "led true", "led false", "intents 0", "intents 1", "intents 2", "intents 3", "busy false, reads false", "busy true, reads true", "busy true, reads false",
		"old item true", "old item false", "messages true, all that there can be true", "messages true, all that there can be false", "messages false, all that there can be false", "all told true", "wrote true, code 0", "wrote false, code 0", "quiet behind 0", "quiet behind 1", "full, quiet true", "full, quiet false",
	} {
		if r.came[what] < 5 {
			t.Errorf("%s came but %d times: %v", what, r.came[what], r.came)
		}
	}
}

// TestCalmAlwaysOn has runs that go on behind rounds: it is quiet again and again.
func TestCalmAlwaysOn(t *testing.T) {
	c := chooser(1314)
	r := &quietRun{t: t, came: map[string]int{}}
	for range 6 {
		w := impl.WorldOpen()
		for len(w.Shards[0].Log) < 50 && len(w.Shards[1].Log) < 50 {
			for range 1 + c.pick(30) {
				w = impl.WorldDo(w, c.event(worldModel{net: w.Net}, false))
			}
			r.wantQuiet(w)
			if w = impl.CalmRound(w); c.pick(2) == 0 {
				w = impl.CalmRound(w)
			}
			w.Told = w.Told[len(w.Told)/2:]
		}
	}
	if r.came["quiet behind 1"] < 50 {
		t.Errorf("%v", r.came)
	}
}

// TestCalmAlwaysFew has all runs of few events, of those that write, take, lose, fall and rise.
func TestCalmAlwaysFew(t *testing.T) {
	events := []impl.Event{eventTakes(0), eventTakes(1), eventTakesBy(0, 1), eventCuts(0, 0), eventLoses(0), eventTwice(0), eventRises(0), eventFells(1, 0), eventWrites(0, bind(2, 3, 5)), eventReads(1, 18), eventFalls(1)}
	var runs func(w impl.World, left int)
	runs = func(w impl.World, left int) {
		if first := impl.CalmAt(w, 3); first < 0 {
			t.Fatalf("it is quiet behind %d rounds:\n%s", first, worldText(w))
		}
		if x := impl.CalmRound(w); left == 0 && (!impl.VowAll(x) || !impl.GraphOk(impl.WorldGraph(x))) {
			t.Fatalf("not all holds behind a round:\n%s\nof\n%s", worldText(x), worldText(w))
		}
		for _, e := range events {
			if next := impl.WorldDo(w, e); left > 0 && !sameWorld(next, w) {
				runs(next, left-1)
			}
		}
	}
	runs(impl.WorldPlay(impl.WorldOpen(), []impl.Event{eventWrites(0, bind(2, 3, 5)), eventReads(1, 18)}), 4)
}

// TestCalmAlwaysLostAnswer has a request that was written, and whose answer was lost: it comes again behind a fall of who led, is written once, and told.
func TestCalmAlwaysLostAnswer(t *testing.T) {
	for what, events := range map[string][]impl.Event{
		"he falls over it":                          {eventCuts(0, 0)},
		"he falls behind it":                        {eventTakes(0), eventLoses(0), eventFells(0, 0)},
		"he falls, and another one rises":           {eventTakes(0), eventLoses(0), eventFells(0, 0), eventRises(0)},
		"he is put off":                             {eventTakes(0), eventLoses(0), eventRises(0)},
		"he is put off, and all of his is lost":     {eventTakes(0), eventLoses(0), eventLoses(0), eventLoses(0), eventRises(0), eventLoses(0)},
		"it comes twice, and he falls over both":    {eventTwice(0), eventCuts(0, 0), eventRises(0), eventCuts(0, 0)},
		"it is asked again, and comes late to both": {eventRetries(0), eventTakes(0), eventLoses(1), eventRises(0), eventTwice(0)},
		"nobody falls":                              {eventTakes(0), eventLoses(0)},
	} {
		p := played(t, openWorld())
		p.does(eventWrites(0, bind(2, 3, 5)), "write 0 0 0 1 2 2 3 5")
		p.step(events...)
		p.logs(0, 18)
		p.calm(1)
		p.round("tier 0 wrote 18 1 (3@5) code 0")
		p.logs(0, 18)
		p.logs(1, 11)
		p.calm(0)
		if what == "nobody falls" {
			p.leads(0, 1)
		}
		p.round()
		p.does(eventReads(1, 18), "join 1 0 0 0")
		p.calmed("tier 1 has 18 1 (3@5) code 0")
	}
}

// TestCalmAlwaysLostByFall has the tier that asked fall: what comes again is of its earlier life, is written once, and told to whoever asks then.
func TestCalmAlwaysLostByFall(t *testing.T) {
	for _, events := range [][]impl.Event{
		{eventTwice(0), eventTakes(0), eventLoses(1), eventFalls(0)},
		{eventTwice(0), eventTakes(0), eventCuts(1, 0)},
		{eventTwice(0), eventTwice(0), eventCuts(0, 0), eventFalls(0), eventRises(0)},
	} {
		p := played(t, openWorld())
		p.does(eventWrites(0, set(2, 5)), "write 0 0 0 1 1 2 0 5")
		p.step(events...)
		p.logs(0, 2)
		// Another write of its next life comes, whether behind it or ahead of it.
		ahead := played(t, p.m)
		p.round()
		p.logs(0, 2)
		p.calm(0)
		p.does(eventReads(0, 2), "join 0 0 1 0")
		p.round("tier 0 has 2 1 5 code 0")
		p.does(eventWrites(0, set(2, 6)), "write 0 0 1 2 1 2 0 6")
		p.round("tier 0 wrote 2 2 6 code 0")
		p.logs(0, 2, 2)
		ahead.step(eventWrites(0, set(2, 6)), eventTakes(len(ahead.w.Net)))
		ahead.round("tier 0 wrote 2 2 6 code 0")
		ahead.logs(0, 2, 2)
		ahead.calm(0)
	}
}

// TestCalmAlwaysLostEnd has an other end that came, which isn't known: it comes again behind a fall of who led either part, and is written once.
func TestCalmAlwaysLostEnd(t *testing.T) {
	for _, fells := range [][]impl.Event{nil, {eventFells(0, 0)}, {eventFells(1, 0)}, {eventFells(0, 0), eventFells(1, 0)}, {eventRises(0), eventRises(1)}, {eventFalls(0), eventFalls(1)}} {
		p := played(t, openWorld())
		p.does(eventWrites(0, bind(2, 3, 5)), "write 0 0 0 1 2 2 3 5")
		p.does(eventTakes(0), "wrote 0 0 0 1 0 18 1 (3@5)", "news 1 0 0 0 0 18 1 (3@5)", "back 0 1 0 1 2 2 3 5")
		p.does(eventTakes(2), "backed 0 0 0 1", "news 0 1 0 0 0 11 1 (2@5)", "news 1 1 0 0 0 11 1 (2@5)")
		p.does(eventLoses(2))
		p.does(eventTakes(0), "tier 0 wrote 18 1 (3@5) code 0")
		p.step(fells...)
		if len(p.w.Shards[0].Intents) != 1 {
			t.Errorf("got\n%s", worldText(p.w))
		}
		p.calm(1)
		p.round()
		p.calm(0)
		p.logs(0, 18)
		p.logs(1, 11)
	}
}

// TestCalmAlwaysNew has somebody new who leads with an empty cache, while the tiers have items that are old: they are told that these are gone, and of nothing that is not.
func TestCalmAlwaysNew(t *testing.T) {
	m := openWorld().written(0, set(2, 5), bind(2, 4, 5), set(4, 7)).read(0, 2, 18, 4).read(1, 2, 12, 3)
	m = m.after(eventWrites(0, set(2, 6)), eventTakes(0), eventTakes(0), eventLoses(0), eventWrites(0, part(2, 4)), eventTakes(0), eventTakes(0), eventLoses(0), eventTakes(0), eventFells(0, 0))
	m.net = nil
	p := played(t, m)
	p.holds(0, 18, 2, 4)
	p.holds(1, 3, 12, 2)
	p.logs(0, 2, 18, 12, 4, 2, 18, 12)
	p.calm(1)
	// What was told by him who fell is all that the tiers know: the tier 1 has an old item of the key 2, and of the key 12.
	p.does(eventRises(0), "back 0 0 0 2 3 2 4 0")
	p.does(eventTells(0, 0), "gone 0 0 0 0 2 2", "gone 0 0 0 0 4 1", "gone 0 0 0 0 12 2", "gone 0 0 0 0 18 2", "gone 1 0 0 0 2 2", "gone 1 0 0 0 4 1", "gone 1 0 0 0 12 2", "gone 1 0 0 0 18 2")
	p = played(t, m)
	p.round()
	p.leads(0, 2, -1)
	p.leads(1, 1)
	if l := p.w.Leads[0][0]; len(l.Cache.Items) != 0 || !slices.Equal(l.Cache.Floors, make([]int, 24)) {
		t.Errorf("got %s", leadText(l))
	}
	p.holds(0, 18, 2, 4)
	p.holds(1, 3)
	if floors := p.w.Tiers[1].Cache.Floors; floors[2] != 2 || floors[12] != 2 || floors[18] != 2 || floors[4] != 1 || floors[3] != 0 {
		t.Errorf("got %v", floors)
	}
	p.calm(0)
	// They are answered from what he reads for them; his cache has that then.
	p.does(eventReads(1, 2), "fill 1 0 0 4 2 0")
	p.calmed("tier 1 has 2 2 6 code 0")
	p.does(eventReads(1, 12), "fill 1 0 0 5 12 0")
	p.calmed("tier 1 has 12 2 () code 0")
	if items := p.w.Leads[0][0].Cache.Items; len(items) != 2 || items[0].Key != 12 || items[1].Key != 2 {
		t.Errorf("got %v", items)
	}
	p.calm(0)
	p.says(1, 2, 1, 2)
}
