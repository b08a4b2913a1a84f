package tests

import (
	"math"
	"slices"
	"strings"
	"testing"

	"loop.example/kith/impl"
)

// calmAll is behind all messages, the first one first, in the document's words.
func (w worldModel) calmAll() worldModel {
	for takes := 0; takes < 600 && len(w.net) > 0; takes++ {
		w = w.do(eventTakes(0))
	}
	return w
}

// ledTold says whether somebody leads a part: the first of those who lead it, if he is up and has its Fence as term.
func ledTold(leads []impl.Lead, s impl.Shard) bool {
	return len(leads) > 0 && leads[0].Up && leads[0].Term == s.Fence
}

// isLed says the same of a part of the model.
func (w worldModel) isLed(which int) bool {
	leads := w.leads[which]
	return len(leads) > 0 && leads[0].up && leads[0].term == w.parts[which].fence
}

// roundStep is one of the steps of a round, with all messages coming behind it, if any do.
type roundStep struct {
	what  string
	do    func(w worldModel) worldModel
	comes bool
}

// roundSteps are those of a round, in order, in the document's words.
func roundSteps() []roundStep {
	steps := []roundStep{{"nothing", func(w worldModel) worldModel { return w }, true}}
	for which, name := range []string{"part 0", "part 1"} {
		steps = append(steps, roundStep{"rises in " + name, func(w worldModel) worldModel {
			if w.isLed(which) {
				return w
			}
			return w.do(eventRises(which))
		}, true})
	}
	for which, name := range []string{"part 0", "part 1"} {
		steps = append(steps, roundStep{"again of " + name, func(w worldModel) worldModel { return w.do(eventAgain(which, 0)) }, true})
		steps = append(steps, roundStep{"tells of " + name, func(w worldModel) worldModel { return w.do(eventTells(which, 0)) }, true})
	}
	for id, name := range []string{"tier 0", "tier 1"} {
		steps = append(steps, roundStep{"retries of " + name, func(w worldModel) worldModel { return w.do(eventRetries(id)) }, true})
	}
	return steps
}

// stepped is behind steps, one behind the other.
func (w worldModel) stepped(steps []roundStep) worldModel {
	for _, step := range steps {
		w = step.do(w)
		if step.comes {
			w = w.calmAll()
		}
	}
	return w
}

func (w worldModel) calmRound() worldModel {
	return w.stepped(roundSteps())
}

// calmTold says whether it is quiet, in the document's words.
func calmTold(w impl.World) bool {
	if !worldTold(w) || len(w.Net) > 0 {
		return false
	}
	for which := range 2 {
		s, tier := w.Shards[which], w.Tiers[which]
		if !ledTold(w.Leads[which], s) || len(s.Intents) > 0 || tier.Busy {
			return false
		}
		for _, it := range tier.Cache.Items {
			if it.Ver != w.Shards[it.Key%2].Rows[it.Key].Ver {
				return false
			}
		}
	}
	return true
}

// calmAt is behind how many rounds it is quiet first; -1, if it is not behind at most 20.
func (w worldModel) calmAt() int {
	for rounds := range 21 {
		if calmTold(w.world()) {
			return rounds
		}
		next := w.calmRound()
		if sameWorld(next.world(), w.world()) {
			// What a round leaves as it is stays so.
			return -1
		}
		w = next
	}
	return -1
}

// wantBehind tells a world that is not as the model has it, or not ok.
func wantBehind(t *testing.T, what string, got impl.World, m worldModel, of impl.World) {
	t.Helper()
	if want := m.world(); !sameWorld(got, want) {
		t.Fatalf("%s: got\n%s\nwant\n%s\nof\n%s", what, worldText(got), worldText(want), worldText(of))
	}
	if !impl.WorldOk(got) || !worldTold(got) {
		t.Fatalf("%s: it is not ok\n%s", what, worldText(got))
	}
}

// wantAt tells another answer of CalmAt than that of a world which is quiet behind so many rounds first.
func wantAt(t *testing.T, what string, w impl.World, first int, mosts ...int) {
	t.Helper()
	for _, most := range mosts {
		want := first
		if most < first {
			want = -1
		}
		if got := impl.CalmAt(w, most); got != want {
			t.Fatalf("%s: at most %d: got %d, want %d:\n%s", what, most, got, want, worldText(w))
		}
	}
}

// allMosts are numbers of rounds below, at and above all that matter.
func allMosts() []int {
	return []int{math.MinInt, -21, -2, -1, 0, 1, 2, 3, 4, 9, 19, 20, 21, 22, math.MaxInt}
}

// wantCalm tells an answer of a world that is ok which is not as the model has it, and behind how many rounds it is quiet.
func wantCalm(t *testing.T, what string, w impl.World, mosts ...int) int {
	t.Helper()
	m := worldModelOf(w)
	wantBehind(t, what+", all", impl.CalmAll(w), m.calmAll(), w)
	wantBehind(t, what+", round", impl.CalmRound(w), m.calmRound(), w)
	if got, want := impl.CalmOk(w), calmTold(w); got != want {
		t.Fatalf("%s: it is quiet is %v, not %v:\n%s", what, got, want, worldText(w))
	}
	first := m.calmAt()
	wantAt(t, what, w, first, mosts...)
	return first
}

// wantNoCalm tells an answer of a world that is not ok which is not nothing.
func wantNoCalm(t *testing.T, what string, w impl.World, mosts ...int) {
	t.Helper()
	for name, got := range map[string]impl.World{"all": impl.CalmAll(w), "round": impl.CalmRound(w)} {
		if !sameWorld(got, impl.World{}) {
			t.Fatalf("%s, %s: got\n%s", what, name, worldText(got))
		}
	}
	if impl.CalmOk(w) {
		t.Fatalf("%s: it is quiet:\n%s", what, worldText(w))
	}
	for _, most := range mosts {
		if got := impl.CalmAt(w, most); got != -1 {
			t.Fatalf("%s: at most %d: got %d:\n%s", what, most, got, worldText(w))
		}
	}
}

// becomes tells a world, behind something, in which other answers were told than these, or which is not as the model has it.
func (p *playedWorld) becomes(what string, got impl.World, m worldModel, want []string) {
	p.t.Helper()
	wantBehind(p.t, what, got, m, p.w)
	told := tierAnswer{told: got.Told[len(p.w.Told):]}.String()
	if told != strings.Join(want, "\n") {
		p.t.Fatalf("%s: got\n%s\nwant\n%s\nof\n%s", what, told, strings.Join(want, "\n"), worldText(p.w))
	}
	p.w, p.m = got, m
}

// calmed has all messages come, and round has a round; these answers are told by it.
func (p *playedWorld) calmed(want ...string) {
	p.t.Helper()
	p.becomes("all", impl.CalmAll(p.w), p.m.calmAll(), want)
}

func (p *playedWorld) round(want ...string) {
	p.t.Helper()
	p.becomes("round", impl.CalmRound(p.w), p.m.calmRound(), want)
}

// calm tells a world that is not quiet behind so many rounds first.
func (p *playedWorld) calm(first int) {
	p.t.Helper()
	if is := first == 0; impl.CalmOk(p.w) != is || calmTold(p.w) != is {
		p.t.Fatalf("it is quiet is not %v:\n%s", is, worldText(p.w))
	}
	wantAt(p.t, "played", p.w, first, allMosts()...)
}

// logs tells of a part other keys that were written, in order, than these.
func (p *playedWorld) logs(which int, want ...int) {
	p.t.Helper()
	var got []int
	for _, c := range p.w.Shards[which].Log {
		got = append(got, c.Key)
	}
	if !slices.Equal(got, want) {
		p.t.Fatalf("in the part %d %v were written, not %v", which, got, want)
	}
}

// holds tells other items of a tier than those of these keys, the first one first.
func (p *playedWorld) holds(id int, want ...int) {
	p.t.Helper()
	var got []int
	for _, it := range p.w.Tiers[id].Cache.Items {
		got = append(got, it.Key)
	}
	if !slices.Equal(got, want) {
		p.t.Fatalf("the tier %d has %v, not %v", id, got, want)
	}
}
