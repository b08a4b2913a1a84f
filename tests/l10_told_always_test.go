package tests

import (
	"fmt"
	"testing"

	"loop.example/kith/impl"
)

// toldWorld is a world in which anything happens, with all that was told in it, also what has been taken out of its list since.
type toldWorld struct {
	t     *testing.T
	c     *chooser
	w     impl.World
	all   []impl.Told
	last  [2][24]int // the greatest Ver that each tier told of each key, in whatever life
	wrote [2][24]int // the Ver that was written last through a tier, and answered as written
	life  [2][24]int // that in which it told of it last, from 1 on
	came  map[string]int
}

// event is something that happens: few keys are written and read again and again, much comes twice and late, and who leads is often put off.
func (r *toldWorld) event() impl.Event {
	c, id, which := r.c, r.c.pick(2), r.c.pick(2)
	who := c.pick(3) * (c.pick(4) / 3)
	switch {
	case !r.w.Leads[which][0].Up && c.pick(4) == 0:
		return eventRises(which)
	case !r.w.Tiers[id].Busy && c.pick(3) > 0:
		return r.asks(id)
	case r.w.Tiers[id].Busy && c.pick(12) == 0:
		return eventRetries(id)
	}
	switch c.pick(64) {
	case 0:
		return eventFalls(id)
	case 1, 2:
		return []impl.Event{eventRises(which), eventFells(which, who), eventCuts(r.place(), who)}[c.pick(3)]
	case 3, 4, 5, 6:
		return eventLoses(r.place())
	case 7:
		return []impl.Event{eventTells(which, who), eventAgain(which, who), eventAgain(which, who)}[c.pick(3)]
	case 8:
		return c.event(worldModel{net: r.w.Net}, false)
	case 9, 10, 11, 12:
		return eventDrops(id, r.key())
	case 13, 14, 15, 16:
		return eventTwice(r.place())
	}
	return eventTakesBy(r.place(), who)
}

// asks is what somebody asks of a tier.
func (r *toldWorld) asks(id int) impl.Event {
	a := 2 + r.c.pick(2)
	switch r.c.pick(6) {
	case 0:
		return eventWrites(id, set(a, r.c.pick(99)))
	case 1:
		return eventWrites(id, []impl.Op{bind(a, 5-a, r.c.pick(9)), part(a, 5-a)}[r.c.pick(2)])
	}
	return eventReads(id, r.key())
}

// key is one of those that are written.
func (r *toldWorld) key() int {
	return []int{0, 8, 16}[r.c.pick(3)] + 2 + r.c.pick(2)
}

// place is that of some message on its way, by halves one of the last, so that others are left for late.
func (r *toldWorld) place() int {
	many := len(r.w.Net)
	if r.c.pick(2) == 0 {
		return many - 1 - r.c.pick(min(many, 3)+1)
	}
	return r.c.pick(many + 1)
}

// step is behind an event: all that was told was so, and nothing fell back.
func (r *toldWorld) step() {
	r.t.Helper()
	before, e := r.w, r.event()
	r.w = impl.WorldDo(before, e)
	news := r.w.Told[len(before.Told):]
	for _, told := range news {
		r.tells(before, told)
	}
	r.all = append(r.all, news...)
	if !impl.ToldTrue(r.w) {
		r.t.Fatalf("%+v: not all was so:\n%s", e, worldText(r.w))
	}
	if !impl.ToldRises(r.w.Told) || !impl.ToldRises(r.all) {
		r.t.Fatalf("%+v: it fell back:\n%s", e, worldText(r.w))
	}
	r.wantLast(e)
	if !sameWorld(before, r.w) {
		r.came[fmt.Sprint("kind ", e.Kind)]++
	}
	if len(r.w.Told) == 120 {
		r.came["no room"]++
	}
	r.countLate(before, e)
}

// tells is of an answer: its key had that once, and its tier told nothing newer, and nothing newer was written through it.
func (r *toldWorld) tells(before impl.World, told impl.Told) {
	r.t.Helper()
	tier, it := before.Tiers[told.Tier], told.Item
	part := r.w.Shards[it.Key%2]
	if !wasTold(part, it) || !impl.ToldWas(part, it) || impl.ToldWas(r.w.Shards[1-it.Key%2], it) {
		r.t.Fatalf("%+v: it was never so, or in the other part:\n%s", told, worldText(r.w))
	}
	last, wrote := &r.last[told.Tier][it.Key], &r.wrote[told.Tier][it.Key]
	if it.Ver < *last || it.Ver < *wrote {
		r.t.Fatalf("%+v: it told %d ahead, and wrote %d:\n%s", told, *last, *wrote, worldText(r.w))
	}
	if told.Wrote && told.Code == 0 {
		*wrote = max(*wrote, r.writtenBy(tier, told))
		r.came["wrote"]++
	} else if told.Wrote {
		r.came["refused"]++
	}
	life := &r.life[told.Tier][it.Key]
	r.came[fmt.Sprintf("newer %v, in a later life %v", it.Ver > *last, *life > 0 && tier.Inc+1 > *life)]++
	if it.Ver == *wrote && !told.Wrote && it.Ver > 0 {
		r.came["has what was written"]++
	}
	*last, *life = it.Ver, tier.Inc+1
}

// writtenBy is the Ver of the write that a tier has told as written, as the part has it.
func (r *toldWorld) writtenBy(tier impl.Tier, told impl.Told) int {
	r.t.Helper()
	for _, done := range r.w.Shards[told.Item.Key%2].Dones {
		if done.Req == req(tier.Id, tier.Inc, tier.Seq) && done.Key == told.Item.Key && done.Code == 0 && done.Ver <= told.Item.Ver {
			if done.Ver < told.Item.Ver {
				r.came["wrote, and has newer"]++
			}
			return done.Ver
		}
	}
	r.t.Fatalf("%+v: it wasn't written:\n%s", told, worldText(r.w))
	return 0
}

// wantLast holds what is answered of all that was told against what was kept beside it.
func (r *toldWorld) wantLast(e impl.Event) {
	r.t.Helper()
	tier, key := r.c.pick(2), r.c.pick(24)
	if got := impl.ToldLast(r.all, tier, key); got != r.last[tier][key] {
		r.t.Fatalf("%+v: the last of the tier %d of the key %d is %d, not %d", e, tier, key, got, r.last[tier][key])
	}
	wantVers(r.t, "so far", r.w.Told, tier, key, versTold(r.w.Told, tier, key), lastTold(r.w.Told, tier, key))
}

// countLate counts what came too late to be told: of an earlier life, or below what was told by now.
func (r *toldWorld) countLate(before impl.World, e impl.Event) {
	if e.Kind != 3 || e.N == 1 || !among(e.A, 0, len(before.Net)-1) {
		return
	}
	m := before.Net[e.A]
	tier := before.Tiers[m.Tier]
	switch m.Kind {
	case 2, 4, 5:
		if m.Item.Ver < r.last[m.Tier][m.Item.Key] {
			r.came[fmt.Sprint("too old ", m.Kind)]++
		}
		if m.Kind != 5 && m.Inc < tier.Inc {
			r.came[fmt.Sprint("of an earlier life ", m.Kind)]++
		}
	case 8:
		if m.Inc < tier.Inc {
			r.came["joined in an earlier life"]++
		}
	case 1:
		if e.B > 0 && e.B < len(before.Leads[m.Part]) && before.Leads[m.Part][e.B].Up {
			r.came["asked who is put off"]++
		}
	}
}

// fullWorld is a world at its beginning, but that each part has room for one commit more alone.
func fullWorld() impl.World {
	m := openWorld()
	for which := range 2 {
		p := rightParts()[fmt.Sprintf("59 commits, part %d", which)]
		p.last = [2][]impl.Done{}
		m.parts[which], m.leads[which] = p, []leadModel{{term: p.fence, up: true}}
	}
	return m.world()
}

// TestToldAlways is promises 10 and 11: whatever is lost, comes twice or late, whoever falls, and whoever leads, each answer was true, and no tier goes back.
func TestToldAlways(t *testing.T) {
	c, came := chooser(1011), map[string]int{}
	for run := range 40 {
		r := &toldWorld{t: t, c: &c, w: impl.WorldOpen(), came: came}
		if run%4 == 3 {
			r.w = fullWorld()
		}
		for range []int{400, 700, 1500, 400}[run%4] {
			r.step()
			// Else there is no room, behind some time, for anything more that is told.
			if run%3 > 0 && len(r.w.Told) > 90 {
				r.w.Told = nil
			}
		}
		wantRises(t, "all", r.all, true)
	}
	for _, what := range []string{
		"kind 1", "kind 2", "kind 3", "kind 4", "kind 5", "kind 6", "kind 7", "kind 8", "kind 9", "kind 10", "kind 11", "kind 12", "wrote", "refused", "wrote, and has newer", "has what was written",
		"newer true, in a later life true", "newer true, in a later life false", "newer false, in a later life true", "newer false, in a later life false",
		"too old 2", "too old 4", "too old 5", "of an earlier life 2", "of an earlier life 4", "joined in an earlier life", "asked who is put off", "no room",
	} {
		if came[what] < 5 {
			t.Errorf("%s came but %d times: %v", what, came[what], came)
		}
	}
}
