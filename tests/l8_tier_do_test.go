package tests

import (
	"fmt"
	"math"
	"slices"
	"strings"
	"testing"

	"loop.example/kith/impl"
)

// askedTier is a tier that is asked, one step behind the other; each answer is held against the model too.
type askedTier struct {
	t    *testing.T
	m    tierModel
	tier impl.Tier
}

// asked is a tier at its beginning, with what a model has.
func asked(t *testing.T, m tierModel) *askedTier {
	return &askedTier{t: t, m: m, tier: m.tier()}
}

// does tells a step after which other answers are told, or other messages sent, than these.
func (a *askedTier) does(st tierStep, want ...string) {
	a.t.Helper()
	got, answer := doTier(a.tier, st)
	if answer.String() != strings.Join(want, "\n") {
		a.t.Fatalf("%v: got\n%v\nwant\n%s", st, answer, strings.Join(want, "\n"))
	}
	a.m, _ = wantTier(a.t, "asked", a.m, st)
	if !sameTier(got, a.m.tier()) {
		a.t.Fatalf("%v: got %s, want %s", st, tierText(got), tierText(a.m.tier()))
	}
	a.tier = got
}

// says is a message that comes, by its text.
func (a *askedTier) says(text string, want ...string) {
	a.t.Helper()
	m, is := msgReadTold(text)
	if !is {
		a.t.Fatalf("%q is no message", text)
	}
	a.does(asksTake(m), want...)
}

// stays tells a step that does anything, or sends or tells anything.
func (a *askedTier) stays(st tierStep) {
	a.t.Helper()
	before := a.m.tier()
	a.does(st)
	if !sameTier(a.tier, before) {
		a.t.Fatalf("%v: got %s, want %s", st, tierText(a.tier), tierText(before))
	}
}

// has tells a cache that has other items than these, as keys and Vers.
func (a *askedTier) has(want ...int) {
	a.t.Helper()
	var got []int
	for _, it := range a.tier.Cache.Items {
		got = append(got, it.Key, it.Ver)
	}
	if !slices.Equal(got, want) {
		a.t.Fatalf("got the keys and Vers %v, want %v", got, want)
	}
}

// floor tells a floor of a key that is another one.
func (a *askedTier) floor(key int, want int) {
	a.t.Helper()
	if got := a.tier.Cache.Floors[key]; got != want {
		a.t.Fatalf("the floor of %d is %d, not %d", key, got, want)
	}
}

// waits tells a tier that waits for something else than for a read of this key, or for this write, or for nothing.
func (a *askedTier) waits(busy bool, reads bool, key int, op impl.Op, seq int) {
	a.t.Helper()
	if a.tier.Busy != busy || a.tier.Reads != reads || a.tier.Key != key || a.tier.Op != op || a.tier.Seq != seq {
		a.t.Fatalf("got %s", tierText(a.tier))
	}
}

// joinedTier has joined both parts, and has items of keys of both.
func joinedTier() tierModel {
	return tierModel{id: 1, inc: 7, seq: 3, joined: [2]bool{true, true}, cache: tierCaches()["full"]}
}

func TestTierRead(t *testing.T) {
	a := asked(t, joinedTier())
	a.has(7, 0, 2, 5, 18, 7, 11, 3)
	// The item that is told is the first; nothing is sent, and nothing is waited for.
	a.does(asksRead(18), "tier 1 has 18 7 (3@5) code 0")
	a.waits(false, false, 0, impl.Op{}, 4)
	a.has(18, 7, 7, 0, 2, 5, 11, 3)
	a.does(asksRead(11), "tier 1 has 11 3 (2@9 4@5) code 0")
	a.does(asksRead(11), "tier 1 has 11 3 (2@9 4@5) code 0")
	a.does(asksRead(7), "tier 1 has 7 0 0 code 0")
	a.does(asksRead(2), "tier 1 has 2 5 17 code 0")
	a.waits(false, false, 0, impl.Op{}, 8)
	a.has(2, 5, 7, 0, 11, 3, 18, 7)
	a.does(asksRead(20), "fill 1 0 7 9 20 0")
	a.waits(true, true, 20, impl.Op{}, 9)
	a.does(asksRetry(), "fill 1 0 7 9 20 0")
	a.waits(true, true, 20, impl.Op{}, 9)
	odd := asked(t, joinedTier())
	odd.does(asksRead(23), "fill 1 1 7 4 23 0")
	odd.has(7, 0, 2, 5, 18, 7, 11, 3)
	first := asked(t, tierModel{joined: [2]bool{true, true}})
	first.does(asksRead(0), "fill 0 0 0 1 0 0")
	first.waits(true, true, 0, impl.Op{}, 1)
}

// TestTierReadNotJoined tells nothing of a part that isn't joined, even if the cache has an item.
func TestTierReadNotJoined(t *testing.T) {
	for _, joined := range [][2]bool{{}, {false, true}} {
		m := joinedTier()
		m.joined = joined
		for _, key := range []int{18, 2, 0, 22} {
			a := asked(t, m)
			a.does(asksRead(key), "join 1 0 7 0")
			a.waits(true, true, key, impl.Op{}, 4)
			a.has(7, 0, 2, 5, 18, 7, 11, 3)
			a.does(asksRetry(), "join 1 0 7 0")
		}
	}
	for _, joined := range [][2]bool{{}, {true, false}} {
		m := joinedTier()
		m.id, m.joined = 0, joined
		for _, key := range []int{7, 11, 1, 23} {
			a := asked(t, m)
			a.does(asksRead(key), "join 0 1 7 0")
			a.waits(true, true, key, impl.Op{}, 4)
			a.does(asksRetry(), "join 0 1 7 0")
		}
	}
}

func TestTierWrite(t *testing.T) {
	for op, want := range map[impl.Op]string{
		set(2, 9): "write 1 0 7 4 1 2 0 9", set(7, 1000000): "write 1 1 7 4 1 7 0 1000000", bind(2, 3, 5): "write 1 0 7 4 2 2 3 5",
		bind(3, 2, 1000): "write 1 1 7 4 2 3 2 1000", part(4, 1): "write 1 0 7 4 3 4 1 0", part(1, 4): "write 1 1 7 4 3 1 4 0",
	} {
		for _, joined := range [][2]bool{{}, {true, false}, {false, true}, {true, true}} {
			m := joinedTier()
			m.joined = joined
			a := asked(t, m)
			a.does(asksWrite(op), want)
			a.waits(true, false, 0, op, 4)
			a.does(asksRetry(), want)
			a.waits(true, false, 0, op, 4)
			a.has(7, 0, 2, 5, 18, 7, 11, 3)
		}
	}
}

// TestTierBusy asks for something more of a tier that waits for something.
func TestTierBusy(t *testing.T) {
	for what, m := range rightTiers() {
		if m.waits == "" {
			continue
		}
		before := m.tier()
		for _, st := range []tierStep{asksRead(18), asksRead(m.key), asksRead(24), asksWrite(set(2, 17)), asksWrite(bind(2, 3, 5)), asksWrite(m.op), asksWrite(impl.Op{})} {
			got, a := doTier(m.tier(), st)
			if !sameTier(got, before) || len(a.sent)+len(a.told) != 0 {
				t.Errorf("%s, %v: got %s, %v", what, st, tierText(got), a)
			}
		}
	}
}

// TestTierLast has the last request of a life: there is none behind it, whether it is answered at once or waited for.
func TestTierLast(t *testing.T) {
	m := joinedTier()
	m.seq = 999
	told := asked(t, m)
	told.does(asksRead(18), "tier 1 has 18 7 (3@5) code 0")
	for _, st := range []tierStep{asksRead(18), asksRead(20), asksRead(9), asksRead(24), asksWrite(set(2, 17)), asksWrite(bind(2, 3, 5)), asksWrite(impl.Op{}), asksRetry()} {
		told.stays(st)
	}
	told.waits(false, false, 0, impl.Op{}, 1000)
	reads := asked(t, m)
	reads.does(asksRead(20), "fill 1 0 7 1000 20 0")
	reads.does(asksRetry(), "fill 1 0 7 1000 20 0")
	reads.says("filled 1 0 7 1000 0 20 2 (3@5)", "tier 1 has 20 2 (3@5) code 0")
	reads.stays(asksRead(20))
	writes := asked(t, m)
	writes.does(asksWrite(set(2, 8)), "write 1 0 7 1000 1 2 0 8")
	writes.does(asksRetry(), "write 1 0 7 1000 1 2 0 8")
	writes.says("wrote 1 0 7 1000 0 2 6 8", "tier 1 wrote 2 6 8 code 0")
	writes.stays(asksWrite(set(2, 8)))
	// In the next life there are others.
	writes.does(asksFall())
	writes.does(asksWrite(set(2, 8)), "write 1 0 8 1 1 2 0 8")
	m.seq = 998
	ahead := asked(t, m)
	ahead.does(asksRead(18), "tier 1 has 18 7 (3@5) code 0")
	ahead.does(asksRead(18), "tier 1 has 18 7 (3@5) code 0")
	ahead.stays(asksRead(18))
}

// TestTierAsksNone has keys that there are not, and writes that are not ok: nothing is counted.
func TestTierAsksNone(t *testing.T) {
	for what, m := range rightTiers() {
		if m.waits != "" {
			continue
		}
		before := m.tier()
		var steps []tierStep
		for _, key := range slices.Concat(noKeys(), []int{-1, 24, math.MinInt, math.MaxInt}) {
			steps = append(steps, asksRead(key))
		}
		for _, op := range wrongOps() {
			steps = append(steps, asksWrite(op))
		}
		for _, st := range steps {
			got, a := doTier(m.tier(), st)
			if !sameTier(got, before) || len(a.sent)+len(a.told) != 0 {
				t.Errorf("%s, %v: got %s, %v", what, st, tierText(got), a)
			}
		}
	}
}

// TestTierRetry has what a tier waits for, and can be answered: it needs no answer from elsewhere then.
func TestTierRetry(t *testing.T) {
	m := joinedTier()
	m.waits, m.key = "read", 18
	a := asked(t, m)
	a.does(asksRetry(), "tier 1 has 18 7 (3@5) code 0")
	a.has(18, 7, 7, 0, 2, 5, 11, 3)
	a.waits(false, false, 0, impl.Op{}, 3)
	a.stays(asksRetry())
	m.joined = [2]bool{false, true}
	a = asked(t, m)
	a.does(asksRetry(), "join 1 0 7 0")
	m.joined, m.cache = [2]bool{true, false}, cacheModel{}
	a = asked(t, m)
	a.does(asksRetry(), "fill 1 0 7 3 18 0")
	asked(t, tierModel{}).stays(asksRetry())
	asked(t, joinedTier()).stays(asksRetry())
}

func TestTierFall(t *testing.T) {
	for what, m := range rightTiers() {
		for _, inc := range []int{0, 1, 998, 999} {
			m.inc = inc
			got, a := doTier(m.tier(), asksFall())
			want := impl.Tier{Id: m.id, Inc: inc + 1, Cache: impl.Cache{Floors: make([]int, 24)}}
			if !sameTier(got, want) || !impl.TierOk(got) || len(a.sent)+len(a.told) != 0 {
				t.Errorf("%s, life %d: got %s", what, inc, tierText(got))
			}
		}
		m.inc = 1000
		if got := impl.TierFall(m.tier()); !sameTier(got, m.tier()) {
			t.Errorf("%s, the last life: got %s", what, tierText(got))
		}
	}
}

// TestTierLives has a tier fall till there is no life any more.
func TestTierLives(t *testing.T) {
	for id := range 2 {
		tier := impl.TierOpen(id)
		for life := 1; life <= 1000; life++ {
			tier, _ = impl.TierWrite(tier, set(2, life))
			tier = impl.TierFall(tier)
			if !sameTier(tier, impl.Tier{Id: id, Inc: life, Cache: impl.CacheOpen()}) {
				t.Fatalf("got %s", tierText(tier))
			}
		}
		tier, sent := impl.TierWrite(tier, set(2, 5))
		if got := msgLines(sent); got != fmt.Sprintf("write %d 0 1000 1 1 2 0 5", id) {
			t.Errorf("got %s", got)
		}
		if got := impl.TierFall(tier); !sameTier(got, tier) || !got.Busy {
			t.Errorf("got %s", tierText(got))
		}
	}
}
