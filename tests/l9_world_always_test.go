package tests

import (
	"fmt"
	"math"
	"slices"
	"testing"

	"loop.example/kith/impl"
)

// TestWorldAlways is promise 9: whatever happens, whatever is lost, comes twice, late, or to whoever leads, a world that is ok stays so.
func TestWorldAlways(t *testing.T) {
	c, came := chooser(99), map[string]int{}
	for run := range 30 {
		w, m := impl.WorldOpen(), openWorld()
		for range []int{400, 400, 1600}[run%3] {
			before, e := m, c.event(m, run%3 == 0)
			if run%3 == 2 && len(m.net) > 0 && c.pick(8) > 0 {
				// So much is written and told that there is no more room.
				e = eventTakes(0)
			}
			w, m = wantWorld(t, fmt.Sprint("run ", run), w, m, e)
			countEvent(came, before, m, e)
		}
	}
	for _, what := range []string{
		"kind 1", "kind 2", "kind 3", "kind 4", "kind 5", "kind 6", "kind 7", "kind 8", "kind 9", "kind 10", "kind 11", "kind 12",
		"took 1", "took 2", "took 3", "took 4", "took 5", "took 6", "took 7", "took 8", "took 9", "took 10", "put off", "told", "wrote", "back came", "three lead", "cut", "full net", "full log", "all told",
	} {
		if came[what] < 20 {
			t.Errorf("%s came but %d times: %v", what, came[what], came)
		}
	}
}

// countEvent counts what an event has changed.
func countEvent(came map[string]int, before worldModel, m worldModel, e impl.Event) {
	if !sameWorld(before.world(), m.world()) {
		came[fmt.Sprint("kind ", e.Kind)]++
	}
	if len(m.net) == 40 {
		came["full net"]++
	}
	for which := range 2 {
		if len(m.parts[which].log) == 60 {
			came["full log"]++
		}
		if len(m.leads[which]) == 3 {
			came["three lead"]++
		}
		if len(m.parts[which].log) > len(before.parts[which].log) {
			came["wrote"]++
		}
		if m.parts[which].seen != before.parts[which].seen {
			came["back came"]++
		}
	}
	if len(m.told) > len(before.told) {
		came["told"]++
	}
	if len(m.told) == 120 {
		came["all told"]++
	}
	if e.Kind != 3 || !among(e.A, 0, len(before.net)-1) {
		return
	}
	msg := before.net[e.A]
	came[fmt.Sprint("took ", msg.Kind)]++
	if e.N == 1 {
		came["cut"]++
	}
	if msgKinds[msg.Kind].up && e.N != 1 && among(e.B, 0, len(before.leads[msg.Part])-1) && before.leads[msg.Part][e.B].up && !m.leads[msg.Part][e.B].up {
		came["put off"]++
	}
}

// TestWorldAlwaysOfAny has runs from worlds that no events have made.
func TestWorldAlwaysOfAny(t *testing.T) {
	c := chooser(999)
	worlds := rightWorlds()
	for what, m := range rightWorlds() {
		for which := range 2 {
			m.parts[which].fence = math.MaxInt - which
		}
		worlds[what+", the last Fence"] = m
	}
	for _, change := range worldLeadChanges() {
		if w := plainWorld().world(); change.fine {
			change.do(&w)
			worlds[change.what] = worldModelOf(w)
		}
	}
	for what, m := range worlds {
		w := m.world()
		for range 60 {
			w, m = wantWorld(t, what, w, m, c.event(m, false))
		}
	}
}

// TestWorldPlay has events in order: it is the world behind them one by one.
func TestWorldPlay(t *testing.T) {
	c := chooser(5)
	for what, m := range rightWorlds() {
		w, next := m.world(), m
		for _, none := range [][]impl.Event{nil, {}} {
			if got := impl.WorldPlay(w, none); !sameWorld(got, w) {
				t.Errorf("%s: got\n%s", what, worldText(got))
			}
		}
		var events []impl.Event
		for range 401 {
			e := c.event(next, false)
			events, next = append(events, e), next.do(e)
		}
		one := w
		for many, e := range events {
			if among(many, 0, 9) || many == 200 || many >= 399 {
				if got := impl.WorldPlay(w, events[:many]); !sameWorld(got, one) {
					t.Fatalf("%s, %d events: got\n%s\nwant\n%s", what, many, worldText(got), worldText(one))
				}
			}
			one = impl.WorldDo(one, e)
		}
		if !sameWorld(one, next.world()) {
			t.Errorf("%s: got\n%s\nwant\n%s", what, worldText(one), worldText(next.world()))
		}
		if got := impl.WorldPlay(w, events); !sameWorld(got, impl.World{}) {
			t.Errorf("%s, 401 events: got\n%s", what, worldText(got))
		}
		if got := impl.WorldPlay(impl.WorldPlay(w, events[:150]), events[150:400]); !sameWorld(got, impl.WorldPlay(w, events[:400])) {
			t.Errorf("%s, in two plays: got\n%s", what, worldText(got))
		}
	}
}

// TestWorldPlayMany has events that do nothing: as many as there can be, and more.
func TestWorldPlayMany(t *testing.T) {
	for _, e := range []impl.Event{{}, {Kind: 13}, eventLoses(40), eventRetries(2), eventFells(0, 3)} {
		for _, many := range []int{1, 399, 400, 401, 402, 800, 100000} {
			m := plainWorld()
			want := m.world()
			if many > 400 {
				want = impl.World{}
			}
			if got := impl.WorldPlay(m.world(), slices.Repeat([]impl.Event{e}, many)); !sameWorld(got, want) {
				t.Errorf("%d of %+v: got\n%s", many, e, worldText(got))
			}
		}
	}
	// Each of them counts, also the last one.
	rises := slices.Repeat([]impl.Event{eventRises(1)}, 400)
	if got := impl.WorldPlay(impl.WorldOpen(), rises); len(got.Shards) != 2 || got.Shards[1].Fence != 401 || got.Shards[0].Fence != 1 {
		t.Errorf("got\n%s", worldText(got))
	}
}

// some is a number, seldom one that is right.
func (c *chooser) some() int {
	return []int{0, 0, 1, 1, 2, 3, 12, 23, 24, 40, 61, 1001, -1, math.MinInt, math.MaxInt}[c.pick(15)]
}

// anyWorld is a plain world but for some numbers and for some of its lists.
func (c *chooser) anyWorld() impl.World {
	w := plainWorld().world()
	for range c.pick(3) {
		which, place := c.pick(2), c.pick(len(w.Net))
		lead := c.pick(len(w.Leads[which]))
		l, tier, m, told := &w.Leads[which][lead], &w.Tiers[which], &w.Net[place], &w.Told[which]
		nums := []*int{
			&w.Shards[which].Part, &w.Shards[which].Fence, &w.Shards[which].Stamp, &w.Shards[which].Rows[c.pick(24)].Ver, &w.Shards[which].Intents[0].Stamp, &w.Shards[which].Log[c.pick(4)].Key, &w.Shards[which].Dones[0].Ver,
			&l.Term, &l.Cache.Floors[c.pick(24)], &tier.Id, &tier.Inc, &tier.Seq, &tier.Key, &tier.Op.Kind, &tier.Cache.Floors[c.pick(24)], &tier.Cache.Items[0].Key, &tier.Cache.Items[1].Ver,
			&m.Kind, &m.Tier, &m.Part, &m.Inc, &m.Seq, &m.Code, &m.Item.Key, &m.Item.Ver, &m.Op.Kind, &m.Op.A, &told.Tier, &told.Code, &told.Item.Key, &told.Item.Ver, &told.Item.Val.Num,
		}
		*nums[c.pick(len(nums))] = c.some()
	}
	if c.pick(8) == 0 {
		w.Shards = w.Shards[:c.pick(3)]
	}
	if c.pick(8) == 0 {
		w.Leads = w.Leads[:c.pick(3)]
	}
	if c.pick(8) == 0 {
		w.Tiers = w.Tiers[:c.pick(3)]
	}
	return w
}

// TestWorldAny has any numbers at all in a world and in what happens: it answers as the document says, and doesn't panic.
func TestWorldAny(t *testing.T) {
	c, oks := chooser(77), map[bool]int{}
	for range 8000 {
		w := c.anyWorld()
		ok := worldTold(w)
		oks[ok]++
		e := impl.Event{Kind: 1 + c.pick(12), A: c.some(), B: c.some(), N: c.some(), Op: impl.Op{Kind: c.some(), A: c.some(), B: c.some(), N: c.some()}}
		if got := impl.WorldOk(w); got != ok {
			t.Fatalf("ok is %v:\n%s", got, worldText(w))
		}
		if ok {
			wantWorld(t, "any", w, worldModelOf(w), e)
		} else if got := impl.WorldDo(w, e); !sameWorld(got, impl.World{}) || len(impl.WorldGraph(w).Rows) != 0 {
			t.Fatalf("%+v: got\n%s\nof\n%s", e, worldText(got), worldText(w))
		}
	}
	if oks[true] < 2000 || oks[false] < 2000 {
		t.Errorf("%v", oks)
	}
}

// TestWorldOkOfMany has lists that are far longer than any that is ok.
func TestWorldOkOfMany(t *testing.T) {
	long := slices.Repeat(edges(1, 2), 100000)
	for what, do := range map[string]func(w *impl.World){
		"parts":          func(w *impl.World) { w.Shards = slices.Repeat(w.Shards, 50000) },
		"lists of leads": func(w *impl.World) { w.Leads = slices.Repeat(w.Leads, 50000) },
		"leads":          func(w *impl.World) { w.Leads[1] = slices.Repeat(w.Leads[1], 50000) },
		"tiers":          func(w *impl.World) { w.Tiers = slices.Repeat(w.Tiers, 50000) },
		"messages":       func(w *impl.World) { w.Net = slices.Repeat(w.Net, 50000) },
		"answers":        func(w *impl.World) { w.Told = slices.Repeat(w.Told, 50000) },
		"kin of an answer": func(w *impl.World) {
			w.Told[0].Item.Val.Kin = long
		},
		"kin of a message": func(w *impl.World) { w.Net[1].Item.Val.Kin = long },
		"Vers":             func(w *impl.World) { w.Net[7].Vers = make([]int, 100000) },
		"rows":             func(w *impl.World) { w.Shards[1].Rows = make([]impl.Row, 100000) },
		"items":            func(w *impl.World) { w.Leads[0][0].Cache.Items = slices.Repeat(w.Leads[0][0].Cache.Items, 100000) },
		"floors":           func(w *impl.World) { w.Tiers[1].Cache.Floors = make([]int, 100000) },
	} {
		w := plainWorld().world()
		do(&w)
		if impl.WorldOk(w) || !impl.WorldSame(w, w) || impl.WorldSame(w, plainWorld().world()) {
			t.Errorf("so many %s: it is ok, or another one", what)
		}
		wantNoWorld(t, "so many "+what, w, someEvents())
	}
}
