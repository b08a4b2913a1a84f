package tests

import (
	"fmt"
	"math"
	"reflect"
	"slices"
	"testing"

	"loop.example/kith/impl"
)

// calmCalls are all calls of the chapter, by their names.
func calmCalls() map[string]func(w impl.World) any {
	return map[string]func(w impl.World) any{
		"all":   func(w impl.World) any { return impl.CalmAll(w) },
		"round": func(w impl.World) any { return impl.CalmRound(w) },
		"ok":    func(w impl.World) any { return impl.CalmOk(w) },
		"at 0":  func(w impl.World) any { return impl.CalmAt(w, 0) },
		"at 3":  func(w impl.World) any { return impl.CalmAt(w, 3) },
	}
}

// wantCalmApart has all calls given a world with something behind the ends of all its lists: nothing is written there, it is not asked, and no answer shares any memory.
func wantCalmApart(t *testing.T, what string, w impl.World) {
	t.Helper()
	roomy := roomyWorld(w)
	for name, do := range calmCalls() {
		wantCallApart(t, what+", "+name, reflect.ValueOf(roomy), func() any { return do(roomy) })
	}
	if !sameWorld(impl.CalmAll(roomy), impl.CalmAll(w)) || !sameWorld(impl.CalmRound(roomy), impl.CalmRound(w)) || impl.CalmOk(roomy) != impl.CalmOk(w) || impl.CalmAt(roomy, 3) != impl.CalmAt(w, 3) {
		t.Fatalf("%s: another answer without anything behind the ends:\n%s", what, worldText(w))
	}
}

func TestCalmMemory(t *testing.T) {
	for _, worlds := range []map[string]worldModel{keptWorlds(), rightWorlds(), neverQuiet(), {"quiet": quietWorld(), "waiting": waitingWorld(), "written": writtenWorld()}} {
		for what, m := range worlds {
			wantCalmApart(t, what, m.world())
			m.leads = [2][]leadModel{}
			wantCalmApart(t, what+", nobody leads", m.world())
		}
	}
}

// TestCalmMemoryOfRuns has worlds that calls of the chapter have answered, and events between them.
func TestCalmMemoryOfRuns(t *testing.T) {
	c := chooser(1204)
	for run := range 10 {
		w := impl.WorldOpen()
		for range 4 {
			for range 40 {
				w = impl.WorldDo(w, c.event(worldModel{net: w.Net}, run%4 == 0))
			}
			wantCalmApart(t, fmt.Sprint("run ", run), w)
			if w = impl.CalmAll(w); run%2 == 0 {
				w = impl.CalmRound(w)
			}
			wantCalmApart(t, fmt.Sprintf("run %d, then", run), w)
		}
	}
}

// TestCalmMemoryOfOne has worlds whose lists share their memory: the answers share none.
func TestCalmMemoryOfOne(t *testing.T) {
	w := vowWorld().world()
	cache := w.Leads[0][0].Cache
	for place := range w.Leads[0] {
		w.Leads[0][place].Cache = cache
	}
	for id := range w.Tiers {
		w.Tiers[id].Cache = cache
	}
	for place, it := range cache.Items {
		cache.Items[place].Val.Kin = w.Shards[0].Rows[it.Key].Val.Kin
	}
	w.Net = append(w.Net, w.Net[0], w.Net[1])
	w.Told = append(w.Told, w.Told[0], w.Told[len(w.Told)-1])
	if !impl.WorldOk(w) {
		t.Fatalf("%s\nis ok", worldText(w))
	}
	wantCalmApart(t, "of one", w)
	want := worldModelOf(w)
	wantBehind(t, "of one, all", impl.CalmAll(w), want.calmAll(), w)
	wantBehind(t, "of one, round", impl.CalmRound(w), want.calmRound(), w)
}

// TestCalmMemoryOfWrong has worlds that are not ok: nothing is answered, spare room too.
func TestCalmMemoryOfWrong(t *testing.T) {
	busy := vowWorld()
	for place, change := range worldChanges() {
		if change.fine || place%25 > 0 {
			continue
		}
		w := busy.world()
		change.do(&w)
		w = roomyWorld(w)
		for name, do := range calmCalls() {
			wantCallApart(t, change.what+", "+name, reflect.ValueOf(w), func() any { return do(w) })
		}
		if spans := append(spansOf(reflect.ValueOf(impl.CalmAll(w))), spansOf(reflect.ValueOf(impl.CalmRound(w)))...); len(spans) > 0 {
			t.Fatalf("%s: there is memory of nothing: %v", change.what, spans)
		}
	}
}

// TestCalmBehindEnds has something behind the ends of lists that would be another answer, if it were asked.
func TestCalmBehindEnds(t *testing.T) {
	for what, do := range map[string]func(w *impl.World){
		"a message": func(w *impl.World) { w.Net = []impl.Msg{msgOf(7, 0, 0, 0, 0)}[:0] },
		"an intent": func(w *impl.World) { w.Shards[0].Intents = []impl.Intent{{Stamp: 1, Op: bind(2, 3, 5)}}[:0] },
		"who leads": func(w *impl.World) { w.Leads[1] = behindEnd(w.Leads[1][:1], impl.Lead{Term: 9, Up: true}) },
		"an old item": func(w *impl.World) {
			w.Tiers[0].Cache.Items = behindEnd(w.Tiers[0].Cache.Items[:3], item(2, 1, thing(17)))
		},
		"a third tier":  func(w *impl.World) { w.Tiers = behindEnd(w.Tiers, impl.Tier{Busy: true}) },
		"a third part":  func(w *impl.World) { w.Shards, w.Leads = behindEnd(w.Shards, impl.Shard{}), behindEnd(w.Leads, nil) },
		"other answers": func(w *impl.World) { w.Told = behindEnd(w.Told, impl.Told{Tier: 2}) },
	} {
		w := quietWorld().world()
		do(&w)
		if first := wantCalm(t, what, w, allMosts()...); first != 0 {
			t.Errorf("%s: it is quiet behind %d:\n%s", what, first, worldText(w))
		}
	}
	w := quietWorld().world()
	w.Leads[0] = w.Leads[0][:0]
	if first := wantCalm(t, "who led", w, allMosts()...); first != 1 {
		t.Errorf("it is quiet behind %d:\n%s", first, worldText(w))
	}
}

// calmAnswers are all answers of a world.
func calmAnswers(w impl.World) string {
	return fmt.Sprintln(impl.CalmOk(w), impl.CalmAt(w, 1), impl.CalmAt(w, 3), worldText(impl.CalmAll(w)), worldText(impl.CalmRound(w)))
}

// TestCalmKeepsNone asks all calls of many worlds, in one order and in the other: the answers are the same.
func TestCalmKeepsNone(t *testing.T) {
	var worlds []impl.World
	for _, all := range []map[string]worldModel{keptWorlds(), rightWorlds(), twoRounds(), neverQuiet()} {
		for _, m := range all {
			wrong := m.world()
			wrong.Tiers = wrong.Tiers[:1]
			worlds = append(worlds, m.world(), impl.World{}, wrong)
		}
	}
	var answers []string
	for _, w := range worlds {
		answers = append(answers, calmAnswers(w))
	}
	for place, w := range slices.Backward(worlds) {
		for range 2 {
			if got := calmAnswers(w); got != answers[place] {
				t.Fatalf("got %s, and %s ahead:\n%s", got, answers[place], worldText(w))
			}
		}
	}
}

// TestCalmAny has any numbers at all in worlds: it is answered as the document says, and nothing panics.
func TestCalmAny(t *testing.T) {
	c, oks, busy := chooser(1205), map[bool]int{}, vowWorld()
	for run := range 1600 {
		w := c.anyVowWorld(busy)
		if run%4 == 0 {
			w = c.anyWorld()
		}
		ok := worldTold(w)
		if oks[ok]++; ok {
			wantCalm(t, "any", w, math.MinInt, -1, 0, 1, 2)
		} else {
			wantNoCalm(t, "any", w, c.some(), c.some())
		}
	}
	if oks[true] < 300 || oks[false] < 300 {
		t.Errorf("%v", oks)
	}
}

// TestCalmOfLong has lists that are far longer than any that is ok, too short, and of nothing.
func TestCalmOfLong(t *testing.T) {
	for what, do := range longChanges() {
		w := vowWorld().world()
		do(&w)
		wantNoCalm(t, fmt.Sprint("so many ", what), w, allMosts()...)
	}
}
