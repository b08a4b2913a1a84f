package tests

import (
	"slices"
	"testing"

	"loop.example/kith/impl"
)

// roomyTier is a tier with room behind the ends of all lists of its cache, all of memory of its own.
func roomyTier(t impl.Tier) impl.Tier {
	t.Cache = roomyCache(t.Cache)
	return t
}

// wholeTier is a copy of all memory of a tier, that behind the ends of its lists too.
func wholeTier(t impl.Tier) impl.Tier {
	t.Cache = wholeCache(t.Cache)
	return t
}

// keptTier is a tier that shares none with the one that is given.
func keptTier(t impl.Tier) impl.Tier {
	t.Cache = keptCache(t.Cache)
	return t
}

// keptAnswer is an answer that shares none with the one that is given.
func keptAnswer(a tierAnswer) tierAnswer {
	kept := tierAnswer{sent: keptMsgs(a.sent), told: slices.Clone(a.told)}
	for place, told := range kept.told {
		kept.told[place].Item.Val = copied(told.Item.Val)
	}
	return kept
}

// scribbleTier writes into all memory of a tier and of what was answered beside it, and says whether no two lists of it share any.
func scribbleTier(t impl.Tier, a tierAnswer) bool {
	// Each answer as a message, with the same list of kin.
	msgs := slices.Clone(a.sent[:cap(a.sent)])
	for _, told := range a.told[:cap(a.told)] {
		msgs = append(msgs, impl.Msg{Item: told.Item})
	}
	apart := scribbleAnswer(impl.Lead{Cache: t.Cache}, impl.Shard{}, msgs)
	fillList(a.sent, impl.Msg{Kind: 55})
	fillList(a.told, impl.Told{Tier: 55})
	return apart
}

// wantTierApart tells a call that writes into an argument, or whose answer shares memory with one or with itself, or is another one once more.
func wantTierApart(t *testing.T, what string, tier impl.Tier, st tierStep) {
	t.Helper()
	wholeT, wholeM := wholeTier(tier), wholeMsg(st.msg)
	asBefore := func() bool {
		return sameTier(wholeTier(tier), wholeT) && sameMsg(wholeMsg(st.msg), wholeM)
	}
	got, a := doTier(tier, st)
	if !asBefore() {
		t.Fatalf("%s, %v: an argument is written into", what, st)
	}
	kept, keptA := keptTier(got), keptAnswer(a)
	if !scribbleTier(got, a) {
		t.Fatalf("%s, %v: two lists of the answer share memory", what, st)
	}
	if !asBefore() {
		t.Fatalf("%s, %v: the answer shares memory with an argument", what, st)
	}
	// Nothing is kept between two calls either.
	if again, againA := doTier(tier, st); !sameTier(again, kept) || !sameTierAnswer(againA, keptA) {
		t.Fatalf("%s, %v: once more: got %s, %v", what, st, tierText(again), againA)
	}
}

// memoryTierSteps are calls of all kinds, those that are told something or send something, and those that don't.
func memoryTierSteps(m tierModel) []tierStep {
	steps := []tierStep{asksRetry(), asksFall(), asksRead(18), asksRead(11), asksRead(2), asksRead(20), asksRead(24), asksWrite(set(2, 17)), asksWrite(bind(3, 2, 5)), asksWrite(impl.Op{})}
	for _, msg := range tierMsgs(m) {
		if msg.Inc == m.inc || msg.Inc == 0 {
			steps = append(steps, asksTake(roomyMsg(msg)))
		}
	}
	return steps
}

func TestTierMemory(t *testing.T) {
	came := map[int]int{}
	for what, m := range rightTiers() {
		tier := roomyTier(m.tier())
		for _, st := range memoryTierSteps(m) {
			wantTierApart(t, what, tier, st)
			if _, a := m.do(st); len(a.told) > 0 {
				came[len(a.told[0].Item.Val.Kin)]++
			}
		}
	}
	for _, many := range []int{0, 1, 2} {
		if came[many] < 100 {
			t.Errorf("%d answers with %d kin", came[many], many)
		}
	}
}

// TestTierMemoryOfWrong has tiers that are not ok: nothing is answered, spare room too.
func TestTierMemoryOfWrong(t *testing.T) {
	for _, change := range slices.Concat(tierNumberChanges(), tierWaitChanges(), tierCacheChanges()) {
		for waits, m := range plainTiers() {
			tier := m.tier()
			change.do(&tier)
			tier = roomyTier(tier)
			for _, st := range noTierSteps() {
				st.msg = roomyMsg(st.msg)
				wantTierApart(t, waits+", "+change.what, tier, st)
			}
		}
	}
}

// TestTierMemoryOfOne has a cache and a message that share their lists: the answers share none.
func TestTierMemoryOfOne(t *testing.T) {
	for waits, m := range plainTiers() {
		for joined := range 4 {
			m.joined = [2]bool{joined&1 > 0, joined&2 > 0}
			tier := roomyTier(m.tier())
			shared := tier.Cache.Items[2].Val // of the key 18
			tier.Cache.Items[3].Val = shared
			for _, ver := range []int{6, 7, 8} {
				for _, key := range []int{18, 11, 20, 9} {
					for _, st := range tierItemMsgs(m, item(key, ver, shared)) {
						wantTierApart(t, waits, tier, asksTake(st))
					}
				}
			}
			for part0 := range 2 {
				wantTierApart(t, waits, tier, asksTake(versMsg(msgOf(8, m.id, part0, m.inc, 0), tier.Cache.Floors...)))
			}
			for _, st := range []tierStep{asksRetry(), asksFall(), asksRead(18), asksRead(11)} {
				wantTierApart(t, waits, tier, st)
			}
		}
	}
}

// TestTierAsksOnly has the call that answers no more than whether it is so.
func TestTierAsksOnly(t *testing.T) {
	for _, change := range slices.Concat(tierNumberChanges(), tierWaitChanges(), tierCacheChanges()) {
		for waits, m := range plainTiers() {
			tier := m.tier()
			change.do(&tier)
			tier = roomyTier(tier)
			whole, ok := wholeTier(tier), impl.TierOk(tier)
			if !sameTier(wholeTier(tier), whole) {
				t.Errorf("%s, %s: the argument is written into", waits, change.what)
			}
			if impl.TierOk(tier) != ok {
				t.Errorf("%s, %s: another answer once more", waits, change.what)
			}
		}
	}
}

// TestTierOpenMemory has two answers: what is done to one is not done to the other.
func TestTierOpenMemory(t *testing.T) {
	for id := range 2 {
		first, second := impl.TierOpen(id), impl.TierOpen(id)
		scribbleTier(first, tierAnswer{})
		for _, tier := range []impl.Tier{second, impl.TierOpen(id)} {
			if !sameTier(tier, tierModel{id: id}.tier()) {
				t.Errorf("got %s", tierText(tier))
			}
		}
		first = impl.TierFall(second)
		scribbleTier(first, tierAnswer{})
		if got := impl.TierFall(second); !sameTier(got, tierModel{id: id, inc: 1}.tier()) {
			t.Errorf("got %s", tierText(got))
		}
	}
}
