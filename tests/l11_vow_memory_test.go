package tests

import (
	"fmt"
	"math"
	"reflect"
	"slices"
	"testing"

	"loop.example/kith/impl"
)

// vowCalls are all calls of the chapter, by their names.
func vowCalls() map[string]func(w impl.World) bool {
	return map[string]func(w impl.World) bool{
		"items": impl.VowItems, "floors": impl.VowFloors, "bonds": impl.VowBonds, "leads": impl.VowLeads, "all": impl.VowAll,
	}
}

// wantVowsApart has all calls given a world with something behind the ends of all its lists: nothing is written there, and it is not asked.
func wantVowsApart(t *testing.T, what string, w impl.World) {
	t.Helper()
	want, roomy := askVows(w), roomyWorld(w)
	for name, do := range vowCalls() {
		wantCallApart(t, what+", "+name, reflect.ValueOf(roomy), func() any { return do(roomy) })
	}
	if got := askVows(roomy); got != want {
		t.Fatalf("%s: got %+v, and %+v without anything behind the ends:\n%s", what, got, want, worldText(w))
	}
}

func TestVowMemory(t *testing.T) {
	for what, m := range keptWorlds() {
		wantVowsApart(t, what, m.world())
	}
	for what, m := range rightWorlds() {
		wantVowsApart(t, what, m.world())
	}
	for what, b := range vowBreaks() {
		w := vowWorld().world()
		b.do(&w)
		wantVowsApart(t, what, w)
	}
}

// TestVowMemoryOfWrong has worlds that are not ok.
func TestVowMemoryOfWrong(t *testing.T) {
	busy := vowWorld()
	for place, change := range worldChanges() {
		if place%25 > 0 {
			continue
		}
		w := busy.world()
		change.do(&w)
		wantVowsApart(t, change.what, w)
	}
	wantVowsApart(t, "no world", impl.World{})
}

// TestVowMemoryOfOne has worlds whose lists share their memory: they are asked as all others.
func TestVowMemoryOfOne(t *testing.T) {
	w := vowWorld().world()
	w.Leads[0][1].Cache, w.Leads[0][2].Cache = w.Leads[0][0].Cache, w.Leads[0][0].Cache
	w.Tiers[0].Cache, w.Tiers[1].Cache = w.Leads[0][0].Cache, w.Leads[0][0].Cache
	w.Tiers[0].Joined, w.Tiers[1].Joined = [2]bool{}, [2]bool{}
	for place := range w.Net {
		if m := &w.Net[place]; m.Kind == 2 && m.Part == 0 {
			m.Item = w.Leads[0][0].Cache.Items[0]
		}
	}
	wantVows(t, "of one", w, allKept)
	wantVowsApart(t, "of one", w)
	w.Tiers[1].Cache.Items[0].Val.Kin[0].At++
	wantVows(t, "of one, and another time", w, noItems)
	wantVowsApart(t, "of one, and another time", w)
}

// TestVowBehindEnds has something behind the ends of lists that would be another answer, if it were asked.
func TestVowBehindEnds(t *testing.T) {
	world := func() impl.World { return vowWorld().world() }
	for what, c := range map[string]struct {
		with    vows
		without vows
		do      func(w *impl.World) func()
	}{
		"an intent": {allKept, noBondsKept, func(w *impl.World) func() {
			return func() { w.Shards[0].Intents = w.Shards[0].Intents[:0] }
		}},
		"a message": {noItems, allKept, func(w *impl.World) func() {
			w.Net = append(w.Net, itemMsg(msgOf(5, 0, 0, 0, 0), item(2, 1, thing(5))))
			return func() { w.Net = w.Net[:len(w.Net)-1] }
		}},
		"an item of a tier": {noItems, allKept, func(w *impl.World) func() {
			items := w.Tiers[0].Cache.Items
			items[3].Val = bond(6, 6)
			return func() { w.Tiers[0].Cache.Items = items[:3] }
		}},
		"an item of one who leads": {noItems, allKept, func(w *impl.World) func() {
			items := w.Leads[1][0].Cache.Items
			items[3].Val = bond(6, 6)
			return func() { w.Leads[1][0].Cache.Items = items[:3] }
		}},
		"one who leads": {noFloors, allKept, func(w *impl.World) func() {
			w.Leads[0][2].Cache.Floors[22] = 60
			return func() { w.Leads[0] = w.Leads[0][:2] }
		}},
		"an answer": {vows{true, false, true, true, false}, allKept, func(w *impl.World) func() {
			w.Told = append(w.Told, toldHas(0, item(2, 3, thing(18))))
			return func() { w.Told = w.Told[:len(w.Told)-1] }
		}},
		"an answer that sinks": {vows{true, true, true, true, false}, allKept, func(w *impl.World) func() {
			w.Told = append(w.Told, toldHas(0, item(2, 1, thing(17))))
			return func() { w.Told = w.Told[:len(w.Told)-1] }
		}},
	} {
		w := world()
		cut := c.do(&w)
		wantVows(t, "with "+what, w, c.with)
		cut()
		wantVows(t, "without "+what, w, c.without)
	}
}

// TestVowKeepsNone asks all calls of many worlds, in one order and in the other: the answers are the same.
func TestVowKeepsNone(t *testing.T) {
	var worlds []impl.World
	for _, m := range keptWorlds() {
		worlds = append(worlds, m.world())
	}
	for _, m := range rightWorlds() {
		worlds = append(worlds, m.world())
	}
	for _, b := range vowBreaks() {
		w := vowWorld().world()
		b.do(&w)
		worlds = append(worlds, w, impl.World{}, w)
	}
	var answers []vows
	for _, w := range worlds {
		answers = append(answers, askVows(w))
	}
	for place, w := range slices.Backward(worlds) {
		for range 2 {
			if got := askVows(w); got != answers[place] {
				t.Fatalf("got %+v, and %+v ahead:\n%s", got, answers[place], worldText(w))
			}
		}
	}
}

// anyVowWorld is a world in which all holds, but for some numbers and for some of its lists.
func (c *chooser) anyVowWorld(m worldModel) impl.World {
	w := m.world()
	for range c.pick(4) {
		which, place := c.pick(2), c.pick(len(w.Net))
		s, l, tier, msg := &w.Shards[which], &w.Leads[which][c.pick(len(w.Leads[which]))], &w.Tiers[which], &w.Net[place]
		told := &w.Told[c.pick(len(w.Told))]
		it := itemSpots(&w)[c.pick(len(itemSpots(&w)))].it
		nums := []*int{
			&l.Term, &l.Cache.Floors[c.pick(24)], &l.Cache.Floors[c.pick(24)], &tier.Cache.Floors[c.pick(24)], &tier.Cache.Floors[c.pick(24)], &tier.Id, &tier.Seq, &s.Fence, &s.Stamp, &s.Part, &s.Intents[0].Op.A, &s.Intents[0].Op.B, &s.Intents[0].Op.Kind,
			&it.Key, &it.Ver, &it.Ver, &it.Val.Num, &it.Val.Num, &msg.Item.Ver, &msg.Kind, &msg.Part, &told.Item.Ver, &told.Item.Ver, &told.Item.Key, &told.Tier, &told.Code, &s.Rows[c.pick(24)].Ver, &s.Log[c.pick(len(s.Log))].Ver,
		}
		*nums[c.pick(len(nums))] = c.some()
		if len(it.Val.Kin) > 0 && c.pick(4) == 0 {
			it.Val.Kin[0].At = c.some()
		}
		if c.pick(6) == 0 {
			tier.Joined[c.pick(2)] = false
		}
	}
	if c.pick(8) == 0 {
		w.Shards[c.pick(2)].Intents = nil
	}
	if c.pick(16) == 0 {
		w.Leads, w.Tiers, w.Shards = w.Leads[:c.pick(3)], w.Tiers[:c.pick(3)], w.Shards[:c.pick(3)]
	}
	return w
}

// TestVowAny has any numbers at all in worlds: it is answered as the document says, and nothing panics.
func TestVowAny(t *testing.T) {
	c, came, busy := chooser(1214), map[vows]int{}, vowWorld()
	for range 6000 {
		came[wantAsTold(t, "any", c.anyVowWorld(busy))]++
	}
	for _, some := range []vows{allKept, noneKept, noItems, noFloors, noBondsKept, {true, true, true, true, false}, {false, false, true, true, false}} {
		if came[some] < 30 {
			t.Errorf("%+v came but %d times: %v", some, came[some], came)
		}
	}
	for range 1000 {
		wantAsTold(t, "any plain", c.anyWorld())
	}
}

// longChanges have lists that are far longer than any that is ok, too short, and of nothing.
func longChanges() map[string]func(w *impl.World) {
	return map[string]func(w *impl.World){
		"parts":        func(w *impl.World) { w.Shards = slices.Repeat(w.Shards, 50000) },
		"leads":        func(w *impl.World) { w.Leads[1] = slices.Repeat(w.Leads[1], 50000) },
		"tiers":        func(w *impl.World) { w.Tiers = slices.Repeat(w.Tiers, 50000) },
		"messages":     func(w *impl.World) { w.Net = slices.Repeat(w.Net, 5000) },
		"answers":      func(w *impl.World) { w.Told = slices.Repeat(w.Told, 5000) },
		"rows":         func(w *impl.World) { w.Shards[0].Rows = make([]impl.Row, 100000) },
		"commits":      func(w *impl.World) { w.Shards[0].Log = slices.Repeat(w.Shards[0].Log, 10000) },
		"intents":      func(w *impl.World) { w.Shards[1].Intents = make([]impl.Intent, 100000) },
		"items":        func(w *impl.World) { w.Tiers[1].Cache.Items = slices.Repeat(w.Tiers[1].Cache.Items, 50000) },
		"floors":       func(w *impl.World) { w.Leads[0][1].Cache.Floors = make([]int, 100000) },
		"no floors":    func(w *impl.World) { w.Tiers[0].Cache.Floors = nil },
		"no rows":      func(w *impl.World) { w.Shards[1].Rows = nil },
		"some floors":  func(w *impl.World) { w.Leads[1][0].Cache.Floors = make([]int, 5) },
		"no parts":     func(w *impl.World) { w.Shards = nil },
		"no tiers":     func(w *impl.World) { w.Tiers = nil },
		"no leads":     func(w *impl.World) { w.Leads = nil },
		"empty parts":  func(w *impl.World) { w.Shards = make([]impl.Shard, 2) },
		"empty tiers":  func(w *impl.World) { w.Tiers = make([]impl.Tier, 2) },
		"parts of all": func(w *impl.World) { w.Shards[0].Part, w.Shards[1].Part = math.MaxInt, math.MinInt },
		"keys of all": func(w *impl.World) {
			w.Net[3].Item.Key, w.Told[0].Item.Key, w.Tiers[0].Cache.Items[0].Key = math.MinInt, math.MaxInt, math.MinInt
		},
	}
}

// TestVowOfLong has each of these.
func TestVowOfLong(t *testing.T) {
	for what, do := range longChanges() {
		w := vowWorld().world()
		do(&w)
		wantVows(t, fmt.Sprint("so many ", what), w, noneKept)
	}
}
