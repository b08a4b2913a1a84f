package tests

import (
	"fmt"
	"math"
	"slices"
	"testing"

	"loop.example/kith/impl"
)

func TestWorldNames(t *testing.T) {
	if impl.WorldLeads != 3 || impl.WorldNet != 40 || impl.WorldTold != 120 || impl.WorldPlays != 400 {
		t.Error("bounds")
	}
	kinds := []int{impl.EventReads, impl.EventWrites, impl.EventTakes, impl.EventLoses, impl.EventTwice, impl.EventRetries, impl.EventFalls, impl.EventFells, impl.EventRises, impl.EventTells, impl.EventAgain, impl.EventDrops}
	if !slices.Equal(kinds, []int{1, 2, 3, 4, 5, 6, 7, 8, 9, 10, 11, 12}) {
		t.Errorf("kinds: %v", kinds)
	}
}

func TestWorldOpen(t *testing.T) {
	cache := impl.Cache{Floors: make([]int, 24)}
	leads := []impl.Lead{{Term: 1, Up: true, Cache: cache}}
	want := impl.World{
		Shards: []impl.Shard{{Part: 0, Fence: 1, Rows: make([]impl.Row, 24)}, {Part: 1, Fence: 1, Rows: make([]impl.Row, 24)}},
		Leads:  [][]impl.Lead{leads, leads},
		Tiers:  []impl.Tier{{Id: 0, Cache: cache}, {Id: 1, Cache: cache}},
	}
	got := impl.WorldOpen()
	if !sameWorld(got, want) || !sameWorld(want, openWorld().world()) {
		t.Errorf("got\n%s\nwant\n%s", worldText(got), worldText(want))
	}
	if !impl.WorldOk(got) || !worldTold(got) {
		t.Errorf("%s\nis ok", worldText(got))
	}
}

// emptyWorldLists is a world with empty lists in the place of nil.
func emptyWorldLists(w impl.World) impl.World {
	got := impl.World{Net: []impl.Msg{}, Told: []impl.Told{}}
	for _, s := range w.Shards {
		got.Shards = append(got.Shards, emptyLists(s))
	}
	for _, leads := range w.Leads {
		all := []impl.Lead{}
		for _, l := range leads {
			all = append(all, emptyLeadLists(l))
		}
		got.Leads = append(got.Leads, all)
	}
	for _, tier := range w.Tiers {
		tier.Cache = emptyCacheLists(tier.Cache)
		got.Tiers = append(got.Tiers, tier)
	}
	for _, m := range w.Net {
		got.Net = append(got.Net, emptyMsgLists(m))
	}
	for _, told := range w.Told {
		told.Item.Val.Kin = append([]impl.Edge{}, told.Item.Val.Kin...)
		got.Told = append(got.Told, told)
	}
	return got
}

func TestWorldOk(t *testing.T) {
	for what, m := range rightWorlds() {
		w := m.world()
		if !impl.WorldOk(w) || !worldTold(w) {
			t.Errorf("%s:\n%s\nis ok", what, worldText(w))
		}
		if !impl.WorldOk(emptyWorldLists(w)) {
			t.Errorf("%s, empty lists:\n%s\nis ok", what, worldText(w))
		}
	}
}

// worldChange is a change of a plain world, and whether it is ok behind it.
type worldChange struct {
	what string
	fine bool
	do   func(w *impl.World)
}

// worldPartChanges are changes of the parts.
func worldPartChanges() []worldChange {
	nobody := func(w *impl.World) { w.Leads = [][]impl.Lead{nil, nil} }
	changes := []worldChange{
		{"nothing", true, func(w *impl.World) {}},
		{"no world", false, func(w *impl.World) { *w = impl.World{} }},
		{"no parts", false, func(w *impl.World) { w.Shards = nil }},
		{"no parts, nobody leads", false, func(w *impl.World) { w.Shards, w.Leads = nil, nil }},
		{"the part 0 alone", false, func(w *impl.World) { w.Shards = w.Shards[:1] }},
		{"the part 1 alone", false, func(w *impl.World) { w.Shards = w.Shards[1:] }},
		{"the part 0 and its leads alone", false, func(w *impl.World) { w.Shards, w.Leads = w.Shards[:1], w.Leads[:1] }},
		{"three parts", false, func(w *impl.World) { w.Shards = append(w.Shards, impl.ShardOpen(1)) }},
		{"three parts, and leads of three", false, func(w *impl.World) {
			w.Shards, w.Leads = append(w.Shards, impl.ShardOpen(1)), append(w.Leads, nil)
		}},
		{"the parts in the other order", false, func(w *impl.World) { slices.Reverse(w.Shards) }},
		{"the parts in the other order, nobody leads", false, func(w *impl.World) { nobody(w); slices.Reverse(w.Shards) }},
		{"the part 0 twice", false, func(w *impl.World) { nobody(w); w.Shards[1] = partModel{}.shard() }},
		{"the part 1 twice", false, func(w *impl.World) { nobody(w); w.Shards[0] = partModel{part: 1}.shard() }},
		{"other parts", true, func(w *impl.World) {
			nobody(w)
			w.Shards[0], w.Shards[1] = rightParts()["60 commits, part 0"].shard(), rightParts()["open, part 1"].shard()
		}},
	}
	for what, s := range wrongParts() {
		for place := range 2 {
			changes = append(changes, worldChange{fmt.Sprintf("%s at %d", what, place), false, func(w *impl.World) { nobody(w); w.Shards[place] = keptShard(s) }})
		}
	}
	return changes
}

// termsOf are those who lead a part with an empty cache, of these terms.
func termsOf(terms ...int) []impl.Lead {
	var leads []impl.Lead
	for _, term := range terms {
		leads = append(leads, leadModel{term: term, up: term%2 == 0}.lead())
	}
	return leads
}

// worldLeadChanges are changes of who leads.
func worldLeadChanges() []worldChange {
	changes := []worldChange{
		{"no leads", false, func(w *impl.World) { w.Leads = nil }},
		{"leads of the part 0 alone", false, func(w *impl.World) { w.Leads = w.Leads[:1] }},
		{"leads of the part 1 alone", false, func(w *impl.World) { w.Leads = w.Leads[1:] }},
		{"leads of three parts", false, func(w *impl.World) { w.Leads = append(w.Leads, nil) }},
		{"leads of three parts, of all somebody", false, func(w *impl.World) { w.Leads = append(w.Leads, termsOf(0)) }},
		{"leads in the other order", false, func(w *impl.World) { slices.Reverse(w.Leads) }},
		{"leads of the part 0 twice", false, func(w *impl.World) { w.Leads[1] = w.Leads[0] }},
		{"nobody leads", true, func(w *impl.World) { w.Leads = make([][]impl.Lead, 2) }},
		{"those who lead in the other order", false, func(w *impl.World) { slices.Reverse(w.Leads[0]) }},
		{"one who leads twice", false, func(w *impl.World) { w.Leads[0][1] = w.Leads[0][0] }},
	}
	for which := range 2 {
		add := func(what string, fine bool, leads []impl.Lead) {
			changes = append(changes, worldChange{fmt.Sprintf("%s in part %d", what, which), fine, func(w *impl.World) {
				w.Shards[which].Fence, w.Leads[which] = 3, leads
			}})
		}
		for _, terms := range [][]int{{}, {0}, {3}, {3, 2}, {1, 0}, {3, 0}, {3, 2, 1}, {2, 1, 0}, {3, 1, 0}} {
			add(fmt.Sprint("terms ", terms), true, termsOf(terms...))
		}
		for _, terms := range [][]int{{-1}, {4}, {4, 3}, {3, 2, -1}, {3, 3}, {0, 0}, {2, 2, 1}, {2, 1, 1}, {3, 3, 3}, {2, 3}, {0, 1}, {1, 2, 3}, {3, 1, 2}, {2, 3, 1}, {3, 2, 1, 0}, {3, 2, 1, 1}, {3, 2, 1, 0, -1}} {
			add(fmt.Sprint("terms ", terms), false, termsOf(terms...))
		}
		for _, change := range slices.Concat(leadCacheChanges(which), leadPartChanges()) {
			changes = append(changes, worldChange{fmt.Sprintf("%s of who leads the part %d", change.what, which), change.fine, func(w *impl.World) {
				l, s := plainLead(which)
				w.Shards[which] = keptShard(s)
				change.do(&l, &w.Shards[which])
				w.Leads[which] = []impl.Lead{l}
			}})
		}
		for place := range 3 {
			wrong := termsOf(3, 2, 1)
			wrong[place].Cache.Items = []impl.Item{item(1-which, 0, thing(0))}
			add(fmt.Sprintf("an item of the other part at %d", place), false, wrong)
			above := termsOf(3, 2, 1)
			above[place].Cache = cacheModel{}.after(puts(item(6+which, 60, thing(0)))).cache()
			add(fmt.Sprintf("an item above its row at %d", place), false, above)
		}
	}
	return changes
}

// worldTierChanges are changes of tiers.
func worldTierChanges() []worldChange {
	changes := []worldChange{
		{"no tiers", false, func(w *impl.World) { w.Tiers = nil }},
		{"the tier 0 alone", false, func(w *impl.World) { w.Tiers = w.Tiers[:1] }},
		{"the tier 1 alone", false, func(w *impl.World) { w.Tiers = w.Tiers[1:] }},
		{"three tiers", false, func(w *impl.World) { w.Tiers = append(w.Tiers, impl.TierOpen(1)) }},
		{"three tiers, the last of which is none", false, func(w *impl.World) { w.Tiers = append(w.Tiers, impl.Tier{}) }},
		{"tiers in the other order", false, func(w *impl.World) { slices.Reverse(w.Tiers) }},
		{"the tier 0 twice", false, func(w *impl.World) { w.Tiers[1] = impl.TierOpen(0) }},
		{"the tier 1 twice", false, func(w *impl.World) { w.Tiers[0] = impl.TierOpen(1) }},
		{"open tiers", true, func(w *impl.World) { w.Tiers = []impl.Tier{impl.TierOpen(0), impl.TierOpen(1)} }},
	}
	for _, change := range slices.Concat(tierNumberChanges(), tierWaitChanges(), tierCacheChanges()) {
		for waits, m := range plainTiers() {
			m.id = len(waits) % 2
			changed := m.tier()
			change.do(&changed)
			changes = append(changes, worldChange{fmt.Sprintf("%s, %s of the tier %d", waits, change.what, m.id), tierTold(changed) && changed.Id == m.id, func(w *impl.World) {
				w.Tiers[m.id] = keptTier(changed)
			}})
		}
	}
	return changes
}

// worldNetChanges are changes of messages on their way.
func worldNetChanges() []worldChange {
	changes := []worldChange{
		{"no messages", true, func(w *impl.World) { w.Net = nil }},
		{"a message that is none", false, func(w *impl.World) { w.Net = []impl.Msg{{}} }},
		{"41 messages, the last of which is none", false, func(w *impl.World) { w.Net = append(plainWorld().withNet(40).world().Net, impl.Msg{}) }},
		{"so many messages", false, func(w *impl.World) { w.Net = slices.Repeat(w.Net, 10000) }},
	}
	for _, many := range []int{1, 2, 39, 40, 41, 42, 80} {
		changes = append(changes, worldChange{fmt.Sprint(many, " messages"), many <= 40, func(w *impl.World) { w.Net = plainWorld().withNet(many).world().Net }})
	}
	for _, place := range []int{0, 1, 9, 20} {
		for _, change := range slices.Concat(numberChanges(), itemChanges(), listChanges(), opChanges()) {
			m := keptMsg(plainWorld().net[place])
			change.do(&m)
			changes = append(changes, worldChange{fmt.Sprintf("%s of the message %d", change.what, place), msgTold(m), func(w *impl.World) { w.Net[place] = keptMsg(m) }})
		}
	}
	return changes
}

// worldToldChanges are changes of answers.
func worldToldChanges() []worldChange {
	changes := []worldChange{
		{"no answers", true, func(w *impl.World) { w.Told = nil }},
		{"an answer of nothing but zeros", true, func(w *impl.World) { w.Told = []impl.Told{{}} }},
		{"so many answers", false, func(w *impl.World) { w.Told = slices.Repeat(w.Told, 10000) }},
	}
	for _, many := range []int{1, 2, 119, 120, 121, 122, 240} {
		changes = append(changes, worldChange{fmt.Sprint(many, " answers"), many <= 120, func(w *impl.World) { w.Told = plainWorld().withTold(many).world().Told }})
	}
	for place := range 2 {
		add := func(what string, fine bool, do func(told *impl.Told)) {
			changes = append(changes, worldChange{fmt.Sprintf("%s of the answer %d", what, place), fine, func(w *impl.World) { do(&w.Told[place]) }})
		}
		for _, num := range []int{-1, 0, 1, 2, 3, math.MinInt, math.MaxInt} {
			add(fmt.Sprint("the tier ", num), among(num, 0, 1), func(told *impl.Told) { told.Tier = num })
		}
		for _, num := range []int{-1, 0, 1, 3, 5, 6, math.MinInt, math.MaxInt} {
			add(fmt.Sprint("the code ", num, " as wrote"), among(num, 0, 5), func(told *impl.Told) { told.Wrote, told.Code = true, num })
			add(fmt.Sprint("the code ", num, ", not written"), num == 0, func(told *impl.Told) { told.Wrote, told.Code = false, num })
		}
		for _, num := range []int{-1, 0, 1, 59, 60, 61, math.MinInt, math.MaxInt} {
			add(fmt.Sprint("the Ver ", num), among(num, 0, 60), func(told *impl.Told) { told.Item.Ver = num })
		}
		for _, num := range []int{-1, 0, 7, 8, 23, 24, math.MinInt, math.MaxInt} {
			add(fmt.Sprint("a number of the key ", num), among(num, 0, 7), func(told *impl.Told) { told.Item = item(num, 1, thing(5)) })
			add(fmt.Sprint("kin of the key ", num), among(num, 8, 23), func(told *impl.Told) { told.Item = item(num, 1, bond(3, 5)) })
		}
		for what, it := range wrongItemList() {
			add("an item: "+what, false, func(told *impl.Told) { told.Item = it })
		}
		for _, it := range slices.Concat(rightItems(0), rightItems(1)) {
			add("an item "+itemText(it), true, func(told *impl.Told) { told.Item = it })
		}
	}
	return changes
}

// worldChanges are all of these.
func worldChanges() []worldChange {
	return slices.Concat(worldPartChanges(), worldLeadChanges(), worldTierChanges(), worldNetChanges(), worldToldChanges())
}

// TestWorldOkOneOff has one thing changed of a plain world; where it isn't ok behind it, nothing is answered of it.
func TestWorldOkOneOff(t *testing.T) {
	events := someEvents()
	for place, change := range worldChanges() {
		w := plainWorld().world()
		change.do(&w)
		if got := impl.WorldOk(w); got != change.fine || worldTold(w) != change.fine {
			t.Errorf("%s: ok is %v, not %v:\n%s", change.what, got, change.fine, worldText(w))
		}
		if !change.fine {
			at := place % len(events)
			wantNoWorld(t, change.what, w, events[at:min(at+3, len(events))])
		}
	}
}

// someEvents are events of all kinds, most of which change a plain world.
func someEvents() []impl.Event {
	return []impl.Event{
		eventReads(0, 18), eventReads(1, 2), eventWrites(0, set(2, 5)), eventWrites(1, bind(2, 3, 5)), eventTakes(0), eventTakesBy(1, 1), eventCuts(2, 0), eventTakes(3), eventCuts(3, 0), eventTakes(12), eventLoses(0), eventTwice(1),
		eventRetries(0), eventRetries(1), eventFalls(0), eventFalls(1), eventFells(0, 0), eventFells(1, 1), eventRises(0), eventRises(1), eventTells(0, 0), eventAgain(0, 0), eventTells(1, 1), eventAgain(1, 0), eventDrops(0, 18), eventDrops(1, 2), {}, {Kind: 13},
	}
}

// wantNoWorld tells an answer of a world that is not ok which is not nothing.
func wantNoWorld(t *testing.T, what string, w impl.World, events []impl.Event) {
	t.Helper()
	for _, e := range events {
		if got := impl.WorldDo(w, e); !sameWorld(got, impl.World{}) {
			t.Fatalf("%s, %+v: got\n%s", what, e, worldText(got))
		}
	}
	for _, many := range []int{0, 1, len(events)} {
		if got := impl.WorldPlay(w, events[:many]); !sameWorld(got, impl.World{}) {
			t.Fatalf("%s, %d events: got\n%s", what, many, worldText(got))
		}
	}
	if got := impl.WorldGraph(w); len(got.Rows) != 0 {
		t.Fatalf("%s: got the graph %v", what, got)
	}
}

// otherWorlds are worlds that differ from the one that is given in one thing each.
func otherWorlds(m worldModel) map[string]impl.World {
	others := map[string]impl.World{}
	change := func(what string, do func(w *impl.World)) {
		w := m.world()
		do(&w)
		others[what] = w
	}
	for which := range 2 {
		for what, s := range otherParts(m.parts[which].shard()) {
			change(fmt.Sprintf("%s of the part %d", what, which), func(w *impl.World) { w.Shards[which] = s })
		}
		for what, c := range otherCaches(m.tiers[which].cache.cache()) {
			change(fmt.Sprintf("%s of the tier %d", what, which), func(w *impl.World) { w.Tiers[which].Cache = c })
		}
		for what, do := range map[string]func(tier *impl.Tier){
			"id": func(tier *impl.Tier) { tier.Id++ }, "inc": func(tier *impl.Tier) { tier.Inc++ }, "seq": func(tier *impl.Tier) { tier.Seq++ },
			"joined 0": func(tier *impl.Tier) { tier.Joined[0] = !tier.Joined[0] }, "joined 1": func(tier *impl.Tier) { tier.Joined[1] = !tier.Joined[1] },
			"busy": func(tier *impl.Tier) { tier.Busy = !tier.Busy }, "reads": func(tier *impl.Tier) { tier.Reads = !tier.Reads }, "key": func(tier *impl.Tier) { tier.Key++ },
			"op's kind": func(tier *impl.Tier) { tier.Op.Kind++ }, "op's a": func(tier *impl.Tier) { tier.Op.A++ }, "op's b": func(tier *impl.Tier) { tier.Op.B++ }, "op's n": func(tier *impl.Tier) { tier.Op.N++ },
		} {
			change(fmt.Sprintf("%s of the tier %d", what, which), func(w *impl.World) { do(&w.Tiers[which]) })
		}
		for who, l := range m.leads[which] {
			name := fmt.Sprintf("of the lead %d of the part %d", who, which)
			change("term "+name, func(w *impl.World) { w.Leads[which][who].Term++ })
			change("up "+name, func(w *impl.World) { w.Leads[which][who].Up = !l.up })
			change("gone "+name, func(w *impl.World) { w.Leads[which] = slices.Delete(w.Leads[which], who, who+1) })
			for what, c := range otherCaches(l.cache.cache()) {
				change(what+" "+name, func(w *impl.World) { w.Leads[which][who].Cache = c })
			}
		}
		change(fmt.Sprintf("a lead more of the part %d", which), func(w *impl.World) { w.Leads[which] = append(w.Leads[which], impl.Lead{}) })
	}
	for place, msg := range m.net {
		change(fmt.Sprint("no message ", place), func(w *impl.World) { w.Net = slices.Delete(w.Net, place, place+1) })
		for what, other := range otherMsgs(msg) {
			change(fmt.Sprintf("%s of the message %d", what, place), func(w *impl.World) { w.Net[place] = other })
		}
	}
	for place := range m.told {
		change(fmt.Sprint("no answer ", place), func(w *impl.World) { w.Told = slices.Delete(w.Told, place, place+1) })
		for what, do := range map[string]func(told *impl.Told){
			"tier": func(told *impl.Told) { told.Tier++ }, "wrote": func(told *impl.Told) { told.Wrote = !told.Wrote }, "code": func(told *impl.Told) { told.Code++ },
			"key": func(told *impl.Told) { told.Item.Key++ }, "ver": func(told *impl.Told) { told.Item.Ver++ }, "num": func(told *impl.Told) { told.Item.Val.Num++ },
			"kin": func(told *impl.Told) { told.Item.Val.Kin = append(told.Item.Val.Kin, impl.Edge{}) },
		} {
			change(fmt.Sprintf("%s of the answer %d", what, place), func(w *impl.World) { do(&w.Told[place]) })
		}
	}
	for what, do := range map[string]func(w *impl.World){
		"no parts": func(w *impl.World) { w.Shards = nil }, "a part less": func(w *impl.World) { w.Shards = w.Shards[:1] }, "a part more": func(w *impl.World) { w.Shards = append(w.Shards, impl.Shard{}) },
		"parts turned": func(w *impl.World) { slices.Reverse(w.Shards) }, "no leads": func(w *impl.World) { w.Leads = nil }, "leads of a part less": func(w *impl.World) { w.Leads = w.Leads[:1] },
		"leads of a part more": func(w *impl.World) { w.Leads = append(w.Leads, nil) }, "a tier less": func(w *impl.World) { w.Tiers = w.Tiers[:1] }, "a tier more": func(w *impl.World) { w.Tiers = append(w.Tiers, impl.Tier{}) },
		"tiers turned": func(w *impl.World) { slices.Reverse(w.Tiers) }, "a message more": func(w *impl.World) { w.Net = append(w.Net, impl.Msg{}) }, "an answer more": func(w *impl.World) { w.Told = append(w.Told, impl.Told{}) },
		"no world": func(w *impl.World) { *w = impl.World{} },
	} {
		change(what, do)
	}
	return others
}

// TestWorldSame has each of the worlds that are ok beside each other one.
func TestWorldSame(t *testing.T) {
	worlds := rightWorlds()
	for a, m := range worlds {
		w := m.world()
		if !impl.WorldSame(w, emptyWorldLists(w)) || !impl.WorldSame(emptyWorldLists(w), w) {
			t.Errorf("%s: an empty list is the same as nil", a)
		}
		for b, other := range worlds {
			if got := impl.WorldSame(w, other.world()); got != (a == b) {
				t.Errorf("%s and %s: the same is %v", a, b, got)
			}
		}
	}
	if !impl.WorldSame(impl.World{}, impl.World{}) || impl.WorldSame(impl.World{}, impl.WorldOpen()) || impl.WorldSame(impl.WorldOpen(), impl.World{}) {
		t.Error("of no worlds")
	}
	if impl.WorldSame(impl.World{}, impl.World{Leads: make([][]impl.Lead, 2)}) || impl.WorldSame(impl.World{Leads: make([][]impl.Lead, 2)}, impl.World{}) {
		t.Error("a list of empty lists is not the empty list")
	}
}

// TestWorldSameOneOff has one thing changed at each place; such worlds are mostly not ok, and are asked all the same.
func TestWorldSameOneOff(t *testing.T) {
	for _, which := range []string{"plain", "all that there can be"} {
		m := rightWorlds()[which]
		w := m.world()
		for what, other := range otherWorlds(m) {
			if impl.WorldSame(w, other) || impl.WorldSame(other, w) {
				t.Errorf("%s: another %s", which, what)
			}
			if !impl.WorldSame(other, other) {
				t.Errorf("%s, %s: not the same as itself", which, what)
			}
		}
	}
}

func TestWorldGraph(t *testing.T) {
	kin := 0
	for what, m := range rightWorlds() {
		got := impl.WorldGraph(m.world())
		if len(got.Rows) != 24 {
			t.Fatalf("%s: got %v", what, got)
		}
		for key, v := range got.Rows {
			if want := m.parts[key%2].has(key); !sameVal(v, want) {
				t.Errorf("%s, key %d: got %v, want %v", what, key, v, want)
			}
			kin += len(v.Kin)
		}
	}
	if kin < 20 {
		t.Errorf("%d kin", kin)
	}
	if got := impl.WorldGraph(impl.WorldOpen()); !sameRows(got, impl.GraphOpen()) || !impl.GraphOk(got) {
		t.Errorf("open: got %v", got)
	}
}

// TestWorldGraphWay has a bond whose other end is on its way: the graph knows it from the one end, and then from both.
func TestWorldGraphWay(t *testing.T) {
	w := impl.WorldPlay(impl.WorldOpen(), []impl.Event{eventWrites(1, bind(2, 3, 5)), eventTakes(0)})
	g := impl.WorldGraph(w)
	if want := withRow(impl.GraphOpen(), 18, bond(3, 5)); !sameRows(g, want) || impl.GraphOk(g) {
		t.Errorf("got %v", g)
	}
	// What tiers and leaders have is not the truth: the part alone is.
	w = impl.WorldPlay(w, []impl.Event{eventTakes(2), eventFalls(1), eventRises(0), eventRises(1)})
	g = impl.WorldGraph(w)
	if want := withRow(withRow(impl.GraphOpen(), 18, bond(3, 5)), 11, bond(2, 5)); !sameRows(g, want) || !impl.GraphOk(g) {
		t.Errorf("got %v", g)
	}
}
