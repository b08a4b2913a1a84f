package tests

import (
	"fmt"
	"math"
	"slices"
	"testing"

	"loop.example/kith/impl"
)

// wantAsTold tells answers of the program that are not those in the document's words, and which these are.
func wantAsTold(t *testing.T, what string, w impl.World) vows {
	t.Helper()
	want := vowsTold(w)
	if got := askVows(w); got != want {
		t.Fatalf("%s: got %+v, want %+v:\n%s", what, got, want, worldText(w))
	}
	return want
}

func TestVowOpen(t *testing.T) {
	wantVows(t, "open", impl.WorldOpen(), allKept)
	// Each single event of an open world.
	for _, e := range allEvents(openWorld()) {
		w := impl.WorldDo(impl.WorldOpen(), e)
		wantVows(t, fmt.Sprintf("open, %+v", e), w, allKept)
		for range 4 {
			w = impl.WorldDo(w, eventTakes(0))
			wantVows(t, fmt.Sprintf("open, %+v, taken", e), w, allKept)
		}
	}
}

func TestVowKept(t *testing.T) {
	for what, m := range keptWorlds() {
		wantVows(t, what, m.world(), allKept)
		wantVows(t, what+", empty lists", emptyWorldLists(m.world()), allKept)
		// Each event, whatever that is.
		for _, e := range allEvents(m) {
			wantVows(t, fmt.Sprintf("%s, %+v", what, e), impl.WorldDo(m.world(), e), allKept)
		}
	}
}

// TestVowBusy is of the world that most of these tests begin with: it has all that they change.
func TestVowBusy(t *testing.T) {
	w, kinds := vowWorld().world(), map[int]int{}
	for _, m := range w.Net {
		kinds[m.Kind]++
	}
	for kind := 1; kind <= 10; kind++ {
		if kinds[kind] == 0 {
			t.Errorf("no message of the kind %d: %v", kind, kinds)
		}
	}
	for _, spot := range cacheSpots(&w) {
		if len(spot.cache.Items) != 4 {
			t.Errorf("%s: %s", spot.what, cacheText(*spot.cache))
		}
	}
	for which, many := range []int{3, 2} {
		if len(w.Leads[which]) != many || len(w.Shards[which].Intents) != 1 || w.Tiers[which].Joined != [2]bool{true, true} {
			t.Errorf("got\n%s", worldText(w))
		}
	}
	if impl.GraphOk(impl.WorldGraph(w)) || len(w.Told) < 20 {
		t.Errorf("got\n%s", worldText(w))
	}
}

// TestVowOfOk has worlds that are ok, but made by hand: in most of them, not all holds.
func TestVowOfOk(t *testing.T) {
	for what, m := range rightWorlds() {
		wantAsTold(t, what, m.world())
	}
	wantVows(t, "plain", plainWorld().world(), vows{leads: true})
}

// TestVowNotOk has each of the ways in which a world may not be ok, one at a time, of a world in which all holds else.
func TestVowNotOk(t *testing.T) {
	busy, came := vowWorld(), map[vows]int{}
	for _, change := range worldChanges() {
		w := busy.world()
		change.do(&w)
		if got := wantAsTold(t, change.what, w); change.fine {
			came[got]++
		} else if got != noneKept {
			t.Fatalf("%s: it is not ok, but %+v", change.what, got)
		}
	}
	if came[allKept] < 50 || came[vows{true, true, true, true, false}] < 50 || came[noneKept] > 0 {
		t.Errorf("%v", came)
	}
	wantVows(t, "no world", impl.World{}, noneKept)
}

// TestVowNotOkAlone has, of each thing that chapter 9 asks, one that isn't as it asks, while all that is asked by this chapter stays as it was.
func TestVowNotOkAlone(t *testing.T) {
	for what, do := range map[string]func(w *impl.World){
		"three parts":              func(w *impl.World) { w.Shards, w.Leads = append(w.Shards, impl.ShardOpen(1)), append(w.Leads, nil) },
		"leads of three parts":     func(w *impl.World) { w.Leads = append(w.Leads, nil) },
		"three tiers":              func(w *impl.World) { w.Tiers = append(w.Tiers, impl.TierOpen(1)) },
		"the number of a part":     func(w *impl.World) { w.Shards[1].Part = 0 },
		"a Fence below 0":          func(w *impl.World) { w.Leads[0], w.Shards[0].Fence = nil, -1 },
		"a stamp below an intent":  func(w *impl.World) { w.Shards[0].Stamp-- },
		"a stamp above all":        func(w *impl.World) { w.Shards[1].Stamp = 61 },
		"another request":          func(w *impl.World) { w.Shards[0].Dones[0].Req.Who = 2 },
		"a request too new":        func(w *impl.World) { w.Shards[0].Dones[0].Ver = 60 },
		"a bond of the other part": func(w *impl.World) { w.Shards[0].Seen[0].B ^= 1 },
		"a fourth one who leads":   func(w *impl.World) { w.Leads[0] = append(w.Leads[0], termsOf(0)...) },
		"a term above the Fence":   func(w *impl.World) { w.Leads[1][0].Term = 9 },
		"a term below 0":           func(w *impl.World) { w.Leads[0][2].Term = -1 },
		"two of one term":          func(w *impl.World) { w.Leads[0][2].Term = 2 },
		"terms that rise":          func(w *impl.World) { w.Leads[0][1], w.Leads[0][2] = w.Leads[0][2], w.Leads[0][1] },
		"a tier's number":          func(w *impl.World) { w.Tiers[1].Id, w.Told = 0, nil },
		"tiers turned":             func(w *impl.World) { slices.Reverse(w.Tiers); w.Told = nil },
		"a life too many":          func(w *impl.World) { w.Tiers[0].Inc = 1001 },
		"a life below 0":           func(w *impl.World) { w.Tiers[0].Inc = -1 },
		"a request too many":       func(w *impl.World) { w.Tiers[1].Seq = 1001 },
		"busy with nothing":        func(w *impl.World) { w.Tiers[1].Op = impl.Op{} },
		"reads a write":            func(w *impl.World) { w.Tiers[1].Reads = true },
		"waits for a key":          func(w *impl.World) { w.Tiers[1].Key = 3 },
		"an item twice":            func(w *impl.World) { w.Tiers[0].Cache.Items[1] = w.Tiers[0].Cache.Items[0] },
		"an item above its floor":  func(w *impl.World) { w.Tiers[0].Cache.Floors[w.Tiers[0].Cache.Items[0].Key]--; w.Told = nil },
		"41 messages":              func(w *impl.World) { w.Net = append(w.Net, slices.Repeat(w.Net[:1], 41-len(w.Net))...) },
		"a message of no kind":     func(w *impl.World) { w.Net[0].Kind = 11 },
		"a message of nothing":     func(w *impl.World) { w.Net = []impl.Msg{{}} },
		"a message of no tier":     func(w *impl.World) { w.Net[3].Tier = 2 },
		"a message of no part":     func(w *impl.World) { w.Net[0].Part = 2 },
		"a message of no life":     func(w *impl.World) { w.Net[3].Inc = 1001 },
		"a message with more":      func(w *impl.World) { w.Net[3].Code = 1 },
		"a message of other Vers":  func(w *impl.World) { w.Net[1].Vers = w.Net[1].Vers[1:] },
		"121 answers":              func(w *impl.World) { w.Told = slices.Repeat(w.Told[:1], 121) },
		"an answer of no tier":     func(w *impl.World) { w.Told[0].Tier = 2 },
		"an answer's code":         func(w *impl.World) { w.Told[0].Code = 6 },
		"a code of a read":         func(w *impl.World) { w.Told[0].Wrote, w.Told[0].Code = false, 1 },
	} {
		w := vowWorld().world()
		do(&w)
		if worldTold(w) {
			t.Fatalf("%s: it is ok", what)
		}
		wantVows(t, what, w, noneKept)
	}
}

// vowBreaks are what breaks one thing alone of a busy world in which all holds.
func vowBreaks() map[string]struct {
	want vows
	do   func(w *impl.World)
} {
	return map[string]struct {
		want vows
		do   func(w *impl.World)
	}{
		"nothing": {allKept, func(w *impl.World) {}},
		"an item of one who leads": {vows{false, true, true, true, false}, func(w *impl.World) {
			w.Leads[1][1].Cache.Items[3].Val = bond(7, 8)
		}},
		"an item of a tier":    {vows{false, true, true, true, false}, func(w *impl.World) { w.Tiers[0].Cache.Items[0].Val.Num++ }},
		"an item on its way":   {vows{false, true, true, true, false}, func(w *impl.World) { w.Net[len(w.Net)-15].Item.Val = bond(3, 8) }},
		"a floor of a tier":    {vows{true, false, true, true, false}, func(w *impl.World) { w.Tiers[1].Cache.Floors[22] = 1 }},
		"a floor of a lead":    {vows{true, false, true, true, false}, func(w *impl.World) { w.Leads[0][2].Cache.Floors[14]++ }},
		"a floor that is low":  {vows{true, false, true, true, false}, func(w *impl.World) { w.Tiers[1].Cache.Floors[15] = 0 }},
		"no intents":           {vows{true, true, false, true, false}, func(w *impl.World) { w.Shards[0].Intents = nil }},
		"an answer never so":   {vows{true, true, true, true, false}, func(w *impl.World) { w.Told[1].Item.Val.Num++ }},
		"an answer too late":   {vows{true, true, true, true, false}, func(w *impl.World) { w.Told = append(w.Told, w.Told[1]) }},
		"an answer that sinks": {vows{true, true, true, true, false}, func(w *impl.World) { w.Told = append(w.Told, toldHas(0, item(2, 0, impl.Val{}))) }},
	}
}

// TestVowAllAlone has each of what VowAll asks broken alone; what VowLeads asks can't be, as terms descend in a world that is ok.
func TestVowAllAlone(t *testing.T) {
	for what, b := range vowBreaks() {
		w := vowWorld().world()
		b.do(&w)
		wantVows(t, what, w, b.want)
		if truly, rises := impl.ToldTrue(w), impl.ToldRises(w.Told); truly != (what != "an answer never so") || rises != (what != "an answer too late" && what != "an answer that sinks") {
			t.Errorf("%s: so is %v, rises is %v", what, truly, rises)
		}
	}
}

// TestVowAllTwo has two of these at once.
func TestVowAllTwo(t *testing.T) {
	breaks := vowBreaks()
	for what, b := range breaks {
		for other, d := range breaks {
			w := vowWorld().world()
			b.do(&w)
			d.do(&w)
			if got := wantAsTold(t, what+" and "+other, w); got.all != (b.want.all && d.want.all) || got.items && !(b.want.items && d.want.items) {
				t.Errorf("%s and %s: %+v", what, other, got)
			}
		}
	}
}

// TestVowLeads has all terms that those who lead can have, of each part alone and of both.
func TestVowLeads(t *testing.T) {
	kept := [][]int{{}, {3}, {2}, {0}, {3, 2}, {3, 0}, {2, 1}, {1, 0}, {3, 2, 1}, {3, 1, 0}, {2, 1, 0}}
	wrong := [][]int{{4}, {-1}, {3, 3}, {3, 3, 1}, {3, 2, 3}, {2, 3}, {1, 2, 3}, {2, 2}, {2, 3, 3}, {3, 3, 3}, {4, 3}, {3, 2, 1, 0}}
	world := func(terms [2][]int, up int) impl.World {
		w := impl.WorldOpen()
		for which := range 2 {
			w.Shards[which].Fence, w.Leads[which] = 3, termsOf(terms[which]...)
			for who := range w.Leads[which] {
				w.Leads[which][who].Up = who == up || up == 3
			}
		}
		return w
	}
	for _, a := range kept {
		for up := range 4 {
			for _, b := range kept {
				wantVows(t, fmt.Sprint(a, b), world([2][]int{a, b}, up), allKept)
			}
			// In a world that is ok, no two can write, and nobody but the first.
			for _, b := range wrong {
				wantVows(t, fmt.Sprint(a, b), world([2][]int{a, b}, up), noneKept)
				wantVows(t, fmt.Sprint(b, a), world([2][]int{b, a}, up), noneKept)
			}
		}
	}
	// The Fence is that of the part: the other one's doesn't count.
	for which := range 2 {
		w := world([2][]int{{3, 2, 1}, {3, 2, 1}}, 3)
		for _, fence := range []int{3, 4, 5, math.MaxInt} {
			w.Shards[which].Fence = fence
			wantVows(t, fmt.Sprint("fence ", fence), w, allKept)
		}
		w.Leads[which] = nil
		wantVows(t, "nobody leads one", w, allKept)
		w.Leads[1-which] = nil
		wantVows(t, "nobody leads", w, allKept)
	}
}
