package tests

import (
	"fmt"
	"maps"
	"math"
	"slices"
	"testing"

	"loop.example/kith/impl"
)

func TestTierOpen(t *testing.T) {
	if impl.TierMax != 1000 {
		t.Errorf("%d lives", impl.TierMax)
	}
	for id := range 2 {
		got := impl.TierOpen(id)
		if !sameTier(got, impl.Tier{Id: id, Cache: impl.Cache{Floors: make([]int, 24)}}) || !impl.TierOk(got) {
			t.Errorf("got %s", tierText(got))
		}
	}
	for _, id := range []int{-1, 2, -2, 3, math.MinInt, math.MaxInt} {
		got := impl.TierOpen(id)
		if !sameTier(got, impl.Tier{}) || impl.TierOk(got) {
			t.Errorf("%d: got %s", id, tierText(got))
		}
	}
}

func TestTierOk(t *testing.T) {
	for what, m := range rightTiers() {
		tier := m.tier()
		if !impl.TierOk(tier) {
			t.Errorf("%s: %s is ok", what, tierText(tier))
		}
		tier.Cache = emptyCacheLists(tier.Cache)
		if !impl.TierOk(tier) {
			t.Errorf("%s, empty lists: %s is ok", what, tierText(tier))
		}
	}
}

// plainTiers are tiers that wait for nothing, for a read and for a write.
func plainTiers() map[string]tierModel {
	m := tierModel{id: 1, inc: 7, seq: 3, joined: [2]bool{true, false}, cache: tierCaches()["full"]}
	tiers := map[string]tierModel{"nothing": m}
	m.waits, m.key = "read", 18
	tiers["read"] = m
	m.key = 9
	tiers["read of the other part"] = m
	m.waits, m.key, m.op = "write", 0, bind(2, 3, 5)
	tiers["write"] = m
	m.op = set(3, 17)
	tiers["write of a number"] = m
	return tiers
}

// tierChange is a change of one thing of a tier, and what a plain one may wait for to be ok behind it.
type tierChange struct {
	what string
	do   func(t *impl.Tier)
	fine []string
}

// tierNumberChanges are changes of the numbers of a tier.
func tierNumberChanges() []tierChange {
	all := []string{"", "read", "write"}
	var changes []tierChange
	add := func(what string, num int, field func(t *impl.Tier) *int, fine ...string) {
		changes = append(changes, tierChange{fmt.Sprint(what, " ", num), func(t *impl.Tier) { *field(t) = num }, fine})
	}
	id, inc := func(t *impl.Tier) *int { return &t.Id }, func(t *impl.Tier) *int { return &t.Inc }
	seq, key := func(t *impl.Tier) *int { return &t.Seq }, func(t *impl.Tier) *int { return &t.Key }
	for _, num := range []int{-1, math.MinInt, math.MaxInt, math.MinInt + 1} {
		add("Id", num, id)
		add("Inc", num, inc)
		add("Seq", num, seq)
		add("Key", num, key)
	}
	add("Id", 0, id, all...)
	add("Id", 1, id, all...)
	add("Id", 2, id)
	for _, num := range []int{0, 1, 999, 1000} {
		add("Inc", num, inc, all...)
	}
	add("Inc", 1001, inc)
	add("Seq", 0, seq, "")
	for _, num := range []int{1, 999, 1000} {
		add("Seq", num, seq, all...)
	}
	add("Seq", 1001, seq)
	add("Key", 0, key, all...)
	for _, num := range []int{1, 8, 16, 22, 23} {
		add("Key", num, key, "read")
	}
	add("Key", 24, key)
	add("Key", 25, key)
	return changes
}

// tierWaitChanges are changes of what a tier waits for.
func tierWaitChanges() []tierChange {
	var changes []tierChange
	add := func(what string, do func(t *impl.Tier), fine ...string) {
		changes = append(changes, tierChange{what, do, fine})
	}
	add("busy", func(t *impl.Tier) { t.Busy = true }, "read", "write")
	add("not busy", func(t *impl.Tier) { t.Busy = false }, "")
	add("reads", func(t *impl.Tier) { t.Reads = true }, "read")
	add("does not read", func(t *impl.Tier) { t.Reads = false }, "", "write")
	add("nothing of it", func(t *impl.Tier) { t.Busy, t.Reads, t.Key, t.Op = false, false, 0, impl.Op{} }, "", "read", "write")
	add("no write", func(t *impl.Tier) { t.Op = impl.Op{} }, "", "read")
	for _, op := range []impl.Op{set(0, 0), set(7, 1000000), bind(0, 7, 1000), bind(7, 0, 0), part(0, 1), part(6, 4)} {
		add(fmt.Sprint("the write ", op), func(t *impl.Tier) { t.Op = op }, "write")
	}
	for _, op := range wrongOps() {
		if op != (impl.Op{}) {
			add(fmt.Sprint("no write ", op), func(t *impl.Tier) { t.Op = op })
		}
	}
	for joined := range 4 {
		add(fmt.Sprint("joined ", joined), func(t *impl.Tier) { t.Joined = [2]bool{joined&1 > 0, joined&2 > 0} }, "", "read", "write")
	}
	return changes
}

// tierCacheChanges are changes of the cache of a tier.
func tierCacheChanges() []tierChange {
	var changes []tierChange
	for what, c := range wrongCaches() {
		changes = append(changes, tierChange{what, func(t *impl.Tier) { t.Cache = keptCache(c) }, nil})
	}
	for what, c := range moreRightCaches() {
		changes = append(changes, tierChange{what, func(t *impl.Tier) { t.Cache = keptCache(c) }, []string{"", "read", "write"}})
	}
	return changes
}

// TestTierOkOneOff has one thing changed of a plain tier; where it isn't ok behind it, nothing is answered of it.
func TestTierOkOneOff(t *testing.T) {
	for _, change := range slices.Concat(tierNumberChanges(), tierWaitChanges(), tierCacheChanges()) {
		for waits, m := range plainTiers() {
			tier := m.tier()
			if !impl.TierOk(tier) {
				t.Fatalf("%s is ok", tierText(tier))
			}
			change.do(&tier)
			want := slices.Contains(change.fine, m.waits)
			if got := impl.TierOk(tier); got != want || tierTold(tier) != want {
				t.Errorf("%s, %s: %s: ok is %v, not %v", waits, change.what, tierText(tier), got, want)
			}
			if !want {
				wantNoTier(t, waits+", "+change.what, tier)
			}
		}
	}
	wantNoTier(t, "nothing", impl.Tier{})
}

// noTierSteps are calls of a tier that isn't ok.
func noTierSteps() []tierStep {
	steps := []tierStep{asksRetry(), asksFall(), asksTake(impl.Msg{}), asksRead(0), asksRead(18), asksRead(9), asksRead(24), asksRead(-1), asksWrite(set(2, 17)), asksWrite(bind(3, 2, 5)), asksWrite(part(4, 6)), asksWrite(impl.Op{})}
	for part0 := range 2 {
		for _, m := range plainMsgs(part0) {
			if m.Inc > 0 {
				m.Inc = 7 // of the life that the plain tiers are in
			}
			steps = append(steps, asksTake(m))
			if m.Kind == 4 {
				m.Item = item(18, 8, bond(3, 6))
				steps = append(steps, asksTake(m))
			}
		}
	}
	return steps
}

// wantNoTier tells an answer of a tier that is not nothing, no message and no answer.
func wantNoTier(t *testing.T, what string, tier impl.Tier) {
	t.Helper()
	if impl.TierOk(tier) {
		t.Errorf("%s: %s is not ok", what, tierText(tier))
	}
	wantNothingOf(t, what, tier, noTierSteps()...)
}

// wantNothingOf is that of these calls.
func wantNothingOf(t *testing.T, what string, tier impl.Tier, steps ...tierStep) {
	t.Helper()
	for _, st := range steps {
		got, a := doTier(tier, st)
		if !sameTier(got, impl.Tier{}) || len(a.sent) != 0 || len(a.told) != 0 {
			t.Errorf("%s, %v: got %s, %v", what, st, tierText(got), a)
		}
	}
}

// TestTierOkEach has all numbers near their edges, of whatever it waits for.
func TestTierOkEach(t *testing.T) {
	count := map[bool]int{}
	ops := []impl.Op{{}, set(0, 0), set(2, 17), bind(2, 3, 5), part(2, 3), {Kind: 4, A: 2, B: 3}, bind(2, 2, 5), {A: 1}}
	for bits := range 4 {
		for _, key := range []int{-1, 0, 1, 22, 23, 24} {
			for _, op := range ops {
				for _, seq := range []int{-1, 0, 1, 1000, 1001} {
					for _, id := range []int{-1, 0, 1, 2} {
						for _, inc := range []int{-1, 0, 1, 1000, 1001} {
							tier := impl.Tier{Id: id, Inc: inc, Seq: seq, Busy: bits&1 > 0, Reads: bits&2 > 0, Key: key, Op: op, Cache: impl.CacheOpen()}
							want := tierTold(tier)
							count[want]++
							if got := impl.TierOk(tier); got != want {
								t.Fatalf("%s: ok is %v, not %v", tierText(tier), got, want)
							}
						}
					}
				}
			}
		}
	}
	if count[true] < 100 || count[false] < 10000 {
		t.Errorf("%v", count)
	}
}

// TestTierOkOfMany has lists that are far longer than any that is ok.
func TestTierOkOfMany(t *testing.T) {
	for waits, m := range plainTiers() {
		long := slices.Repeat(edges(1, 2), 100000)
		right := m.tier().Cache
		for what, c := range map[string]impl.Cache{
			"items":  {Items: slices.Repeat(right.Items, 100000), Floors: right.Floors},
			"floors": {Items: right.Items, Floors: make([]int, 100000)},
			"kin":    {Items: []impl.Item{item(20, 0, impl.Val{Kin: long})}, Floors: make([]int, 24)},
		} {
			tier := m.tier()
			tier.Cache = c
			wantNoTier(t, fmt.Sprintf("%s, so many %s", waits, what), tier)
		}
		for kind, msg := range plainMsgs(0) {
			msg.Item.Val.Kin = long
			wantTier(t, fmt.Sprintf("%s, so many kin, kind %d", waits, kind), m, asksTake(msg))
			msg = plainMsgs(0)[kind]
			msg.Vers = make([]int, 100000)
			wantTier(t, fmt.Sprintf("%s, so many Vers, kind %d", waits, kind), m, asksTake(msg))
		}
	}
}

// TestTierEach has each call of each tier that is ok.
func TestTierEach(t *testing.T) {
	came := map[string]int{}
	steps := []tierStep{asksRetry(), asksFall()}
	for key := -1; key <= 24; key++ {
		steps = append(steps, asksRead(key))
	}
	for _, op := range slices.Concat(rightOps(), wrongOps()) {
		if op.A%3 == 2 || !opTold(op) {
			steps = append(steps, asksWrite(op))
		}
	}
	for what, m := range rightTiers() {
		for _, st := range steps {
			next, a := wantTier(t, what, m, st)
			came[fmt.Sprintf("%s of %q to %q, sent %d, told %d", st.what, m.waits, next.waits, len(a.sent), len(a.told))]++
		}
	}
	want := []string{
		`read of "" to "", sent 0, told 0`, `read of "" to "", sent 0, told 1`, `read of "" to "read", sent 1, told 0`, `read of "read" to "read", sent 0, told 0`, `read of "write" to "write", sent 0, told 0`,
		`write of "" to "", sent 0, told 0`, `write of "" to "write", sent 1, told 0`, `write of "read" to "read", sent 0, told 0`, `write of "write" to "write", sent 0, told 0`,
		`retry of "" to "", sent 0, told 0`, `retry of "read" to "", sent 0, told 1`, `retry of "read" to "read", sent 1, told 0`, `retry of "write" to "write", sent 1, told 0`,
		`fall of "" to "", sent 0, told 0`, `fall of "read" to "", sent 0, told 0`, `fall of "write" to "", sent 0, told 0`,
	}
	slices.Sort(want)
	if got := slices.Sorted(maps.Keys(came)); !slices.Equal(got, want) {
		t.Errorf("got %v, want %v", got, want)
	}
}
