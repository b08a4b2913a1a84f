package tests

import (
	"slices"
	"testing"

	"loop.example/kith/impl"
)

// says holds all that was told so far of a tier of a key against these Vers; all that was told was so, and rises.
func (p *playedWorld) says(tier int, key int, vers ...int) {
	p.t.Helper()
	last := 0
	for _, ver := range vers {
		last = max(last, ver)
	}
	wantVers(p.t, "played", p.w.Told, tier, key, vers, last)
	wantTrue(p.t, "played", p.w, true)
	wantRises(p.t, "played", p.w.Told, true)
}

// sinks has all that is below a Ver be older than what was told so far of a tier of a key, and that Ver not.
func (p *playedWorld) sinks(tier int, key int, ver int) {
	p.t.Helper()
	for below := range ver {
		wantRises(p.t, "played, and then older", slices.Concat(p.w.Told, toldVers(tier, key, below)), false)
	}
	wantRises(p.t, "played, and then the same", slices.Concat(p.w.Told, toldVers(tier, key, ver)), true)
}

// TestToldBackByPutOff has somebody who was put off, with an old cache, who answers a tier that told and wrote nothing newer, and one that did.
func TestToldBackByPutOff(t *testing.T) {
	p := played(t, openWorld())
	p.says(0, 2)
	p.does(eventWrites(0, set(2, 5)), "write 0 0 0 1 1 2 0 5")
	p.all("tier 0 wrote 2 1 5 code 0")
	p.says(0, 2, 1)
	p.does(eventRises(0))
	p.does(eventWrites(1, set(2, 6)), "write 1 0 0 1 1 2 0 6")
	p.does(eventTakes(0), "wrote 1 0 0 1 0 2 2 6", "news 0 0 0 0 0 2 2 6")
	p.does(eventLoses(1))
	p.all("tier 1 wrote 2 2 6 code 0")
	// The tier 0 doesn't know of that: it tells what was so, and what is no older than what it told.
	p.does(eventReads(0, 2), "join 0 0 0 0")
	p.does(eventTakesBy(0, 1), "joined 0 0 0 0 0 0 2 0 0 0 0 0 0 0 0 0 0 0 0 0 0 0 0 0 0 0 0 0")
	p.does(eventTakes(0), "fill 0 0 0 2 2 0")
	p.does(eventTakesBy(0, 1), "filled 0 0 0 2 0 2 1 5")
	p.does(eventTakes(0))
	p.says(0, 2, 1)
	p.does(eventRetries(0), "fill 0 0 0 2 2 0")
	p.does(eventTakes(0), "filled 0 0 0 2 0 2 2 6")
	p.does(eventTwice(0), "filled 0 0 0 2 0 2 2 6")
	p.does(eventTakes(0), "tier 0 has 2 2 6 code 0")
	p.says(0, 2, 1, 2)
	p.says(1, 2, 2)
	p.sinks(0, 2, 2)
	p.sinks(1, 2, 2)
	// What it wrote through itself it tells, and never again what was ahead of it; what comes twice is too old by now.
	p.does(eventWrites(0, set(2, 7)), "write 0 0 0 3 1 2 0 7")
	p.does(eventTakes(1), "wrote 0 0 0 3 0 2 3 7", "news 1 0 0 0 0 2 3 7")
	p.does(eventTakes(1), "tier 0 wrote 2 3 7 code 0")
	p.does(eventDrops(0, 2))
	p.does(eventReads(0, 2), "fill 0 0 0 4 2 0")
	p.does(eventTakes(0))
	p.says(0, 2, 1, 2, 3)
	p.does(eventTakesBy(1, 1), "filled 0 0 0 4 0 2 1 5")
	p.does(eventTakes(1))
	p.says(0, 2, 1, 2, 3)
	p.does(eventRetries(0), "fill 0 0 0 4 2 0")
	p.does(eventTakes(1), "filled 0 0 0 4 0 2 3 7")
	p.all("tier 0 has 2 3 7 code 0")
	p.says(0, 2, 1, 2, 3, 3)
	p.sinks(0, 2, 3)
	p.says(1, 2, 2)
	p.says(0, 18)
	p.says(1, 3)
}

// TestToldBackByFall has a tier that falls, and what comes from its earlier life, or from somebody who was put off.
func TestToldBackByFall(t *testing.T) {
	p := played(t, openWorld())
	p.does(eventReads(0, 18), "join 0 0 0 0")
	p.does(eventTakes(0), "joined 0 0 0 0 0 0 0 0 0 0 0 0 0 0 0 0 0 0 0 0 0 0 0 0 0 0 0 0")
	p.does(eventTwice(0), "joined 0 0 0 0 0 0 0 0 0 0 0 0 0 0 0 0 0 0 0 0 0 0 0 0 0 0 0 0")
	p.does(eventTakes(0), "fill 0 0 0 1 18 0")
	p.does(eventTakes(1), "filled 0 0 0 1 0 18 0 ()")
	p.does(eventTwice(1), "filled 0 0 0 1 0 18 0 ()")
	p.does(eventTakes(2), "tier 0 has 18 0 () code 0")
	p.says(0, 18, 0)
	p.does(eventWrites(0, bind(2, 3, 5)), "write 0 0 0 2 2 2 3 5")
	p.does(eventTakes(2), "wrote 0 0 0 2 0 18 1 (3@5)", "news 1 0 0 0 0 18 1 (3@5)", "back 0 1 0 1 2 2 3 5")
	p.does(eventTakes(2), "tier 0 wrote 18 1 (3@5) code 0")
	p.says(0, 18, 0, 1)
	p.does(eventFalls(0))
	p.does(eventRises(0), "back 0 1 0 1 2 2 3 5")
	p.does(eventReads(0, 18), "join 0 0 1 0")
	// Both are of its earlier life: they tell it nothing.
	p.does(eventTakes(0))
	p.does(eventTakes(0))
	p.says(0, 18, 0, 1)
	p.does(eventTakes(3), "joined 0 0 1 0 0 0 0 0 0 0 0 0 0 0 0 0 0 0 0 0 0 0 1 0 0 0 0 0")
	p.does(eventTakes(3), "fill 0 0 1 1 18 0")
	p.does(eventTakes(3), "filled 0 0 1 1 0 18 1 (3@5)")
	p.does(eventTakes(3), "tier 0 has 18 1 (3@5) code 0")
	p.says(0, 18, 0, 1, 1)
	p.sinks(0, 18, 1)
	// The other end is told of the other part, once it has come.
	p.does(eventReads(1, 11), "join 1 1 0 0")
	p.all("tier 1 has 11 1 (2@5) code 0")
	p.says(1, 11, 1)
	p.says(0, 11)
	p.says(1, 18)
}

// TestToldBackByAgain has a write whose answer is lost: once another tier has written, it is told with what the key has by then.
func TestToldBackByAgain(t *testing.T) {
	p := played(t, openWorld())
	p.does(eventWrites(0, set(3, 5)), "write 0 1 0 1 1 3 0 5")
	p.does(eventTakes(0), "wrote 0 1 0 1 0 3 1 5", "news 1 1 0 0 0 3 1 5")
	p.does(eventLoses(0))
	p.does(eventWrites(1, set(3, 6)), "write 1 1 0 1 1 3 0 6")
	p.does(eventTakes(1), "wrote 1 1 0 1 0 3 2 6", "news 0 1 0 0 0 3 2 6")
	p.does(eventTakes(1), "tier 1 wrote 3 2 6 code 0")
	p.does(eventRetries(0), "write 0 1 0 1 1 3 0 5")
	p.does(eventTakes(2), "wrote 0 1 0 1 0 3 2 6")
	p.does(eventTakes(2), "tier 0 wrote 3 2 6 code 0")
	// The news of the first write are too late for the tier 1.
	p.all()
	p.says(0, 3, 2)
	p.says(1, 3, 2)
	p.sinks(0, 3, 2)
	p.sinks(1, 3, 2)
	p.does(eventReads(1, 3), "join 1 1 0 0")
	p.all("tier 1 has 3 2 6 code 0")
	p.says(1, 3, 2, 2)
	// Nobody wrote the 1st through the tier 1: it may not tell that all the same, nor may the other one, which did.
	for tier := range 2 {
		w := p.w
		w.Told = slices.Concat(w.Told, []impl.Told{toldHas(tier, item(3, 1, thing(5)))})
		wantTrue(t, "what was so once", w, true)
		wantRises(t, "what is older", w.Told, false)
		w.Told[len(w.Told)-1].Item.Val.Num = 6
		wantTrue(t, "what was never so", w, false)
	}
}

// TestToldExample has what the document's example asks for, all messages of which come.
func TestToldExample(t *testing.T) {
	p := &playedWorld{t: t, w: impl.WorldOpen()}
	for _, e := range []impl.Event{
		eventWrites(0, set(2, 7)), eventWrites(1, bind(2, 3, 5)), eventReads(0, 11), eventReads(1, 18), eventWrites(0, part(2, 3)), eventFalls(1), eventReads(1, 18),
	} {
		p.w = impl.WorldPlay(impl.WorldDo(p.w, e), slices.Repeat([]impl.Event{eventTakes(0)}, 20))
		wantTrue(t, "example", p.w, true)
		wantRises(t, "example", p.w.Told, true)
	}
	p.says(0, 2, 1)
	p.says(1, 18, 1, 1, 2)
	p.says(0, 18, 2)
	p.says(0, 11, 1)
	p.says(1, 2)
	p.says(1, 11)
	for key, want := range map[int][]impl.Item{
		2: {item(2, 0, impl.Val{}), item(2, 1, thing(7))}, 18: {item(18, 0, impl.Val{}), item(18, 1, bond(3, 5)), item(18, 2, impl.Val{})},
		11: {item(11, 0, impl.Val{}), item(11, 1, bond(2, 5)), item(11, 2, impl.Val{})}, 3: {item(3, 0, impl.Val{})},
	} {
		for ver := range 4 {
			for _, v := range []impl.Val{{}, thing(7), bond(3, 5), bond(2, 5)} {
				wantWas(t, "example", p.w.Shards[key%2], item(key, ver, v), ver < len(want) && sameVal(want[ver].Val, v))
			}
		}
	}
}
