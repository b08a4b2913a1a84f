package tests

import (
	"fmt"
	"testing"

	"loop.example/kith/impl"
)

func TestCalmOpen(t *testing.T) {
	p := played(t, openWorld())
	p.calm(0)
	p.calmed()
	p.round()
	if !sameWorld(p.w, impl.WorldOpen()) || !sameWorld(impl.CalmAll(impl.WorldOpen()), impl.WorldOpen()) {
		t.Errorf("got\n%s", worldText(p.w))
	}
	// Behind each single event of an open world.
	came := map[int]int{}
	for _, e := range allEvents(openWorld()) {
		w := impl.WorldDo(impl.WorldOpen(), e)
		came[wantCalm(t, fmt.Sprintf("open, %+v", e), w, allMosts()...)]++
	}
	if came[0] < 50 || came[1] < 20 || len(came) != 2 {
		t.Errorf("%v", came)
	}
}

// TestCalmOfOk has worlds that are ok, made by events and by hand.
func TestCalmOfOk(t *testing.T) {
	came := map[int]int{}
	for what, m := range keptWorlds() {
		came[wantCalm(t, what, m.world(), allMosts()...)]++
		wantCalm(t, what+", empty lists", emptyWorldLists(m.world()), -1, 0, 1, 3)
	}
	if came[0] < 4 || came[1] < 4 {
		t.Errorf("%v", came)
	}
	for what, m := range rightWorlds() {
		came[wantCalm(t, what, m.world(), -1, 0, 1, 3, 20)]++
	}
	if came[-1] < 4 {
		t.Errorf("%v", came)
	}
}

// TestCalmBehindEvents has worlds behind many events of all kinds.
func TestCalmBehindEvents(t *testing.T) {
	c, came := chooser(1201), map[string]int{}
	for run := range 12 {
		told := &toldWorld{t: t, c: &c, w: impl.WorldOpen()}
		for many := range 400 {
			e := c.event(worldModel{net: told.w.Net}, run%4 == 1)
			if run%2 == 0 {
				e = told.event()
			}
			next := impl.WorldDo(told.w, e)
			if !sameWorld(next, told.w) {
				came[fmt.Sprint("kind ", e.Kind)]++
			}
			if told.w = next; many%8 == 0 {
				first := wantCalm(t, fmt.Sprintf("run %d, %d events", run, many), told.w, -1, 0, 1, 3, 20)
				came[fmt.Sprint("quiet behind ", first)]++
			}
		}
	}
	for _, what := range []string{"kind 1", "kind 2", "kind 3", "kind 4", "kind 5", "kind 6", "kind 7", "kind 8", "kind 9", "kind 10", "kind 11", "kind 12", "quiet behind 0", "quiet behind 1"} {
		if came[what] < 5 {
			t.Errorf("%s came but %d times: %v", what, came[what], came)
		}
	}
}

// TestCalmNotOk has each of the ways in which a world may not be ok, one at a time, of one that is quiet behind a round.
func TestCalmNotOk(t *testing.T) {
	busy := vowWorld()
	for place, change := range worldChanges() {
		w := busy.world()
		change.do(&w)
		switch {
		case !change.fine && place%9 == 0:
			wantNoCalm(t, change.what, w, allMosts()...)
		case !change.fine:
			wantNoCalm(t, change.what, w, 1)
		case place%9 == 0:
			wantCalm(t, change.what, w, -1, 1, 3)
		}
	}
	wantNoCalm(t, "no world", impl.World{}, allMosts()...)
}

// TestCalmNotOkOfQuiet has worlds that would be quiet, if they were ok.
func TestCalmNotOkOfQuiet(t *testing.T) {
	for what, do := range map[string]func(w *impl.World){
		"three parts":             func(w *impl.World) { w.Shards, w.Leads = append(w.Shards, w.Shards[1]), append(w.Leads, w.Leads[1]) },
		"one part":                func(w *impl.World) { w.Shards, w.Leads = w.Shards[:1], w.Leads[:1] },
		"a Fence below 0":         func(w *impl.World) { w.Shards[0].Fence, w.Leads[0][0].Term, w.Leads[0] = -1, -1, w.Leads[0][:1] },
		"a stamp above all":       func(w *impl.World) { w.Shards[1].Stamp = 61 },
		"a row of no commit":      func(w *impl.World) { w.Shards[1].Rows[5].Ver = 1 },
		"a fourth who leads":      func(w *impl.World) { w.Leads[0] = append(w.Leads[0], w.Leads[0]...) },
		"terms that rise":         func(w *impl.World) { w.Leads[0][1].Term = 9 },
		"who leads has more":      func(w *impl.World) { w.Leads[1][0].Cache.Floors = append(w.Leads[1][0].Cache.Floors, 0) },
		"three tiers":             func(w *impl.World) { w.Tiers = append(w.Tiers, w.Tiers[1]) },
		"one tier":                func(w *impl.World) { w.Tiers = w.Tiers[:1] },
		"no tiers":                func(w *impl.World) { w.Tiers = nil },
		"a tier's number":         func(w *impl.World) { w.Tiers[0].Id = 1 },
		"a life too many":         func(w *impl.World) { w.Tiers[0].Inc = 1001 },
		"waits for a key":         func(w *impl.World) { w.Tiers[1].Key = 3 },
		"an item below its floor": func(w *impl.World) { w.Tiers[0].Cache.Floors[2]++ },
		"an answer of no tier":    func(w *impl.World) { w.Told[0].Tier = 2 },
		"121 answers":             func(w *impl.World) { w.Told = plainWorld().withTold(121).world().Told },
	} {
		w := quietWorld().world()
		do(&w)
		if worldTold(w) {
			t.Fatalf("%s: it is ok:\n%s", what, worldText(w))
		}
		wantNoCalm(t, what, w, allMosts()...)
	}
}

// quietWorld is quiet; of each part three lead, both tiers have items of both parts, and all of them are as their rows are.
func quietWorld() worldModel {
	w := openWorld().after(eventRises(0), eventRises(0), eventRises(1), eventRises(1))
	w = w.written(0, set(2, 17), set(2, 18), bind(2, 3, 5), bind(2, 4, 6)).written(1, set(3, 9), bind(5, 2, 7))
	return w.read(0, 18, 3, 2, 11).read(1, 2, 10, 12, 21)
}

// TestCalmQuiet is of the world that the tests of what CalmOk asks begin with.
func TestCalmQuiet(t *testing.T) {
	p := played(t, quietWorld())
	p.calm(0)
	p.leads(0, 3, 2, 1)
	p.leads(1, 3, 2, 1)
	p.holds(0, 11, 2, 3, 18)
	p.holds(1, 21, 12, 10, 2)
	if len(p.w.Net) != 0 || len(p.w.Told) != 14 || p.w.Tiers[0].Joined != [2]bool{true, true} || p.w.Tiers[1].Joined != [2]bool{true, true} {
		t.Errorf("got\n%s", worldText(p.w))
	}
	for which, s := range p.w.Shards {
		if len(s.Intents) != 0 || len(p.w.Leads[which][0].Cache.Items) < 3 {
			t.Errorf("got\n%s", worldText(p.w))
		}
	}
	p.round()
	p.calm(0)
}

// quietChange is a change of a quiet world, and behind how many rounds it is quiet then; -1, if it never is.
type quietChange struct {
	what  string
	first int
	do    func(m *worldModel)
}

// netChanges have a message of each kind on its way.
func netChanges() []quietChange {
	var changes []quietChange
	for part0 := range 2 {
		// News, and what is gone, are above all floors among these.
		for _, kind := range []int{1, 2, 3, 4, 7, 8, 9, 10} {
			changes = append(changes, quietChange{fmt.Sprintf("a message of the kind %d, part %d", kind, part0), 1, func(w *worldModel) { w.net = []impl.Msg{plainMsgs(part0)[kind]} }})
		}
		changes = append(changes,
			quietChange{fmt.Sprint("news of the part ", part0), 1, func(w *worldModel) {
				w.net = []impl.Msg{itemMsg(msgOf(5, 0, part0, 0, 0), w.parts[part0].item(2+part0))}
			}},
			quietChange{fmt.Sprint("gone of the part ", part0), 1, func(w *worldModel) {
				w.net = []impl.Msg{itemMsg(msgOf(6, 1, part0, 0, 0), item(2+part0, 1, impl.Val{}))}
			}},
			quietChange{fmt.Sprint("40 messages of the part ", part0), 1, func(w *worldModel) {
				for range 40 {
					w.net = append(w.net, msgOf(7, 0, part0, 9, 0))
				}
			}})
	}
	return changes
}

// unled are ways in which nobody leads a part of a world in which several do, or none.
func unled(which int) []quietChange {
	return []quietChange{
		{"there is none", 1, func(m *worldModel) { m.leads[which] = nil }},
		{"the first is not up", 1, func(m *worldModel) { *m = m.do(eventFells(which, 0)) }},
		{"the first is not up, and there is no other", 1, func(m *worldModel) {
			*m = m.do(eventFells(which, 0))
			m.leads[which] = m.leads[which][:1]
		}},
		{"nobody is up", 1, func(m *worldModel) { *m = m.after(eventFells(which, 0), eventFells(which, 1), eventFells(which, 2)) }},
		{"the first has not the Fence", 1, func(m *worldModel) { m.parts[which].fence++ }},
		{"the first has not the Fence, and there is no other", 1, func(m *worldModel) {
			m.parts[which].fence++
			m.leads[which] = m.leads[which][:1]
		}},
		{"the first has a term of long ago", 1, func(m *worldModel) {
			m.parts[which].fence += 1000
			m.leads[which] = m.leads[which][1:]
		}},
		{"the first is not up, and has not the Fence", 1, func(m *worldModel) {
			*m = m.do(eventFells(which, 0))
			m.parts[which].fence++
		}},
	}
}

// intentChanges have other ends of each part that have come, or not.
func intentChanges() []quietChange {
	var changes []quietChange
	for which := range 2 {
		for many := 1; many <= 3; many++ {
			for place, op := range []impl.Op{bind(which, 1-which, 5), bind(which, 2+which, 5), part(4+which, 7), part(6+which, which)} {
				changes = append(changes, quietChange{fmt.Sprintf("%d intents of the part %d, such as %v", many, which, op), 1, func(m *worldModel) {
					m.parts[which].stamp = 9
					for stamp := range many {
						m.parts[which].intents = append(m.parts[which].intents, impl.Intent{Stamp: 7 + stamp, Op: op})
					}
					if place%2 > 0 {
						m.parts[op.B%2].seen[op.A][op.B] = 9
					}
				}})
			}
		}
	}
	return changes
}

// waitChanges have a tier wait, for what it gets, and for what it never does.
func waitChanges() []quietChange {
	var changes []quietChange
	for id := range 2 {
		for _, key := range []int{0, 2, 3, 11, 18, 23} {
			changes = append(changes, quietChange{fmt.Sprintf("the tier %d reads %d", id, key), 1, func(m *worldModel) {
				m.tiers[id].cache = m.tiers[id].cache.after(drops(key))
				m.tiers[id].waits, m.tiers[id].key = "read", key
			}})
		}
		for _, op := range []impl.Op{set(2, 5), set(7, 0), bind(2, 3, 9), bind(3, 5, 9), part(2, 4), part(6, 7)} {
			changes = append(changes, quietChange{fmt.Sprintf("the tier %d writes %v", id, op), 1, func(m *worldModel) {
				m.tiers[id].waits, m.tiers[id].op = "write", op
			}})
		}
		changes = append(changes, quietChange{fmt.Sprintf("the tier %d reads 2, with its own item", id), 1, func(m *worldModel) {
			m.tiers[id].waits, m.tiers[id].key = "read", 2
		}})
		changes = append(changes, quietChange{fmt.Sprintf("the tier %d reads 23, which was never so new", id), -1, func(m *worldModel) {
			m.tiers[id].waits, m.tiers[id].key, m.tiers[id].cache = "read", 23, m.tiers[id].cache.after(floors(23, 1))
		}})
	}
	return changes
}

// verChanges have items in the caches of tiers whose Vers are below, and above, those of their rows.
func verChanges() []quietChange {
	var changes []quietChange
	for id := range 2 {
		for place := range 4 {
			for _, more := range []int{-1, 1, 2, 42} {
				// What is too new is never told to be gone.
				change := quietChange{what: fmt.Sprintf("the item %d of the tier %d has a Ver of %d more", place, id, more), first: -1}
				if more < 0 {
					change.first = 1
				}
				change.do = func(m *worldModel) {
					items := m.tiers[id].cache.cache().Items
					var c cacheModel
					for at := 3; at >= 0; at-- {
						it := items[at]
						if at == place {
							it.Ver += more
						}
						c = c.after(puts(it))
					}
					m.tiers[id].cache = c
				}
				changes = append(changes, change)
			}
		}
	}
	return changes
}

// TestCalmOkAlone has each of what CalmOk asks broken alone.
func TestCalmOkAlone(t *testing.T) {
	all := netChanges()
	for which := range 2 {
		for _, change := range unled(which) {
			change.what = fmt.Sprintf("the part %d: %s", which, change.what)
			all = append(all, change)
		}
	}
	all = append(all, intentChanges()...)
	all = append(all, waitChanges()...)
	all = append(all, verChanges()...)
	for _, change := range all {
		m := quietWorld()
		change.do(&m)
		w := m.world()
		if impl.CalmOk(w) {
			t.Errorf("%s: it is quiet:\n%s", change.what, worldText(w))
		}
		if first := wantCalm(t, change.what, w, allMosts()...); first != change.first {
			t.Errorf("%s: it is quiet behind %d rounds, not %d:\n%s", change.what, first, change.first, worldText(w))
		}
	}
	if len(all) < 100 {
		t.Errorf("%d changes", len(all))
	}
}

// TestCalmOkNotAsked has what CalmOk doesn't ask.
func TestCalmOkNotAsked(t *testing.T) {
	for what, do := range map[string]func(m *worldModel){
		"a tier that has joined none":       func(m *worldModel) { m.tiers[0].joined = [2]bool{} },
		"a tier that has joined one":        func(m *worldModel) { m.tiers[1].joined[1] = false },
		"no tier has joined":                func(m *worldModel) { m.tiers[0].joined, m.tiers[1].joined = [2]bool{}, [2]bool{} },
		"a tier without items":              func(m *worldModel) { m.tiers[0].cache = cacheModel{} },
		"tiers of other lives":              func(m *worldModel) { m.tiers[0].inc, m.tiers[1].inc, m.tiers[1].seq = 1000, 7, 1000 },
		"floors above all":                  func(m *worldModel) { m.tiers[0].cache = m.tiers[0].cache.after(floors(23, 60), floors(4, 60)) },
		"nothing told":                      func(m *worldModel) { m.told = nil },
		"120 answers":                       func(m *worldModel) { *m = m.withTold(120) },
		"an item that was never so":         func(m *worldModel) { m.tiers[0].cache = m.tiers[0].cache.after(puts(item(2, 2, thing(77)))) },
		"an item that was never written":    func(m *worldModel) { m.tiers[0].cache = m.tiers[0].cache.after(puts(item(22, 0, bond(3, 5)))) },
		"an old item of who leads":          func(m *worldModel) { m.leads[0][0].cache = cacheModel{}.after(puts(item(2, 1, thing(17)))) },
		"an old item of who led":            func(m *worldModel) { m.leads[1][1].cache = cacheModel{}.after(puts(item(11, 0, impl.Val{}))) },
		"floors of who leads":               func(m *worldModel) { m.leads[0][0].cache = allFloors(60) },
		"who leads has no items":            func(m *worldModel) { m.leads[0][0].cache, m.leads[1][0].cache = cacheModel{}, cacheModel{} },
		"nobody behind who leads":           func(m *worldModel) { m.leads[0], m.leads[1] = m.leads[0][:1], m.leads[1][:1] },
		"nobody behind who leads is up":     func(m *worldModel) { *m = m.after(eventFells(0, 1), eventFells(0, 2), eventFells(1, 2)) },
		"a bond that its ends know as two":  func(m *worldModel) { m.parts[0] = m.parts[0].commit(22, bond(3, 5)) },
		"other ends that came":              func(m *worldModel) { m.parts[1].seen[2][5] = 60 },
		"other requests that were answered": func(m *worldModel) { m.parts[0].last[1] = []impl.Done{{Req: req(1, 9, 9), Key: 4, Code: 3}} },
	} {
		m := quietWorld()
		do(&m)
		w := m.world()
		if first := wantCalm(t, what, w, allMosts()...); first != 0 {
			t.Errorf("%s: it is quiet behind %d:\n%s", what, first, worldText(w))
		}
	}
}

// TestCalmExample is what the document's example has: it is quiet behind one round, which tells what the tier 0 wrote.
func TestCalmExample(t *testing.T) {
	p := played(t, openWorld())
	p.does(eventWrites(0, set(2, 7)), "write 0 0 0 1 1 2 0 7")
	p.calm(1)
	p.calmed("tier 0 wrote 2 1 7 code 0")
	p.calm(0)
	p.does(eventWrites(1, bind(2, 3, 5)), "write 1 0 0 1 2 2 3 5")
	p.does(eventTwice(0), "write 1 0 0 1 2 2 3 5")
	p.does(eventCuts(0, 0))
	p.does(eventRises(0), "back 0 1 0 1 2 2 3 5")
	p.calmed("tier 1 wrote 18 1 (3@5) code 0")
	p.calm(0)
	p.does(eventReads(0, 11), "join 0 1 0 0")
	p.calmed("tier 0 has 11 1 (2@5) code 0")
	p.does(eventReads(1, 18), "join 1 0 0 0")
	p.calmed("tier 1 has 18 1 (3@5) code 0")
	p.does(eventWrites(0, part(2, 3)), "write 0 0 0 3 3 2 3 0")
	p.does(eventTakes(0), "wrote 0 0 0 3 0 18 2 ()", "news 1 0 0 0 0 18 2 ()", "back 0 1 0 2 3 2 3 0")
	p.calm(1)
	p.round("tier 0 wrote 18 2 () code 0")
	p.calm(0)
	p.does(eventFalls(1))
	p.calm(0)
	p.does(eventReads(1, 18), "join 1 0 1 0")
	p.calm(1)
	p.calmed("tier 1 has 18 2 () code 0")
	p.calm(0)
}
