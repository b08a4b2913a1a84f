package tests

import (
	"fmt"
	"math"
	"slices"
	"testing"

	"loop.example/kith/impl"
)

// TestShardSteps has calls one behind the other, of a part 0, each with what it answers and the part behind it.
func TestShardSteps(t *testing.T) {
	s, m := impl.ShardOpen(0), partModel{}
	for _, c := range []struct {
		what   string
		step   shardStep
		answer shardAnswer
		part   string
	}{
		{"nobody led yet", writes(0, req(0, 0, 1), set(2, 7)), shardAnswer{done: impl.Done{Req: req(0, 0, 1), Key: 2, Ver: 1}}, "0/0/0 2:1:7 log 2 done 0.0.1:2:1:0 out in"},
		{"somebody leads", fences(1), shardAnswer{}, "0/1/0 2:1:7 log 2 done 0.0.1:2:1:0 out in"},
		{"who led is fenced off", writes(0, req(0, 0, 2), set(2, 8)), shardAnswer{code: 1}, "0/1/0 2:1:7 log 2 done 0.0.1:2:1:0 out in"},
		{"who leads writes", writes(1, req(0, 0, 2), set(2, 8)), shardAnswer{done: impl.Done{Req: req(0, 0, 2), Key: 2, Ver: 2}}, "0/1/0 2:2:8 log 2 2 done 0.0.2:2:2:0 out in"},
		{"it comes again", writes(1, req(0, 0, 2), set(2, 8)), shardAnswer{done: impl.Done{Req: req(0, 0, 2), Key: 2, Ver: 2}, code: 5}, "0/1/0 2:2:8 log 2 2 done 0.0.2:2:2:0 out in"},
		{"an old one comes again", writes(1, req(0, 0, 1), set(2, 7)), shardAnswer{code: 4}, "0/1/0 2:2:8 log 2 2 done 0.0.2:2:2:0 out in"},
		{"the other tier binds", writes(1, req(1, 3, 1), bind(2, 3, 5)), shardAnswer{done: impl.Done{Req: req(1, 3, 1), Key: 18, Ver: 1}},
			"0/1/1 2:2:8 18:1:(3@5) log 2 2 18 done 0.0.2:2:2:0 1.3.1:18:1:0 out 1:2.2.3.5 in"},
		{"one binds more", writes(1, req(0, 1, 0), bind(2, 1, 9)), shardAnswer{done: impl.Done{Req: req(0, 1, 0), Key: 18, Ver: 2}},
			"0/1/2 2:2:8 18:2:(1@9 3@5) log 2 2 18 18 done 0.1.0:18:2:0 1.3.1:18:1:0 out 1:2.2.3.5 2:2.2.1.9 in"},
		{"the bond with the other part comes", backs(1, 4, bind(1, 2, 6)), shardAnswer{key: 10, did: true},
			"0/1/2 2:2:8 10:1:(1@6) 18:2:(1@9 3@5) log 2 2 18 18 10 done 0.1.0:18:2:0 1.3.1:18:1:0 out 1:2.2.3.5 2:2.2.1.9 in 1.2:4"},
		{"an earlier one of it comes late", backs(1, 3, part(1, 2)), shardAnswer{key: 10},
			"0/1/2 2:2:8 10:1:(1@6) 18:2:(1@9 3@5) log 2 2 18 18 10 done 0.1.0:18:2:0 1.3.1:18:1:0 out 1:2.2.3.5 2:2.2.1.9 in 1.2:4"},
		{"the first is known to have come", clears(1, 1), shardAnswer{},
			"0/1/2 2:2:8 10:1:(1@6) 18:2:(1@9 3@5) log 2 2 18 18 10 done 0.1.0:18:2:0 1.3.1:18:1:0 out 2:2.2.1.9 in 1.2:4"},
		{"one parts", writes(1, req(1, 3, 2), part(2, 3)), shardAnswer{done: impl.Done{Req: req(1, 3, 2), Key: 18, Ver: 3}},
			"0/1/3 2:2:8 10:1:(1@6) 18:3:(1@9) log 2 2 18 18 10 18 done 0.1.0:18:2:0 1.3.2:18:3:0 out 2:2.2.1.9 3:3.2.3.0 in 1.2:4"},
		{"a bond with both ends here", writes(1, req(1, 3, 3), bind(4, 2, 6)), shardAnswer{done: impl.Done{Req: req(1, 3, 3), Key: 20, Ver: 1}},
			"0/1/4 2:2:8 10:1:(1@6) 18:3:(1@9) 20:1:(2@6) log 2 2 18 18 10 18 20 done 0.1.0:18:2:0 1.3.3:20:1:0 out 2:2.2.1.9 3:3.2.3.0 4:2.4.2.6 in 1.2:4"},
		{"no room for one more bond", writes(1, req(0, 1, 1), bind(0, 7, 1)), shardAnswer{done: impl.Done{Req: req(0, 1, 1), Key: 16, Ver: 0, Code: 3}, code: 3},
			"0/1/4 2:2:8 10:1:(1@6) 18:3:(1@9) 20:1:(2@6) log 2 2 18 18 10 18 20 done 0.1.1:16:0:3 1.3.3:20:1:0 out 2:2.2.1.9 3:3.2.3.0 4:2.4.2.6 in 1.2:4"},
		{"its other end comes", backs(1, 4, bind(4, 2, 6)), shardAnswer{key: 10, did: true},
			"0/1/4 2:2:8 10:2:(1@6 4@6) 18:3:(1@9) 20:1:(2@6) log 2 2 18 18 10 18 20 10 done 0.1.1:16:0:3 1.3.3:20:1:0 out 2:2.2.1.9 3:3.2.3.0 4:2.4.2.6 in 1.2:4 4.2:4"},
		{"that is known", clears(1, 4), shardAnswer{},
			"0/1/4 2:2:8 10:2:(1@6 4@6) 18:3:(1@9) 20:1:(2@6) log 2 2 18 18 10 18 20 10 done 0.1.1:16:0:3 1.3.3:20:1:0 out 2:2.2.1.9 3:3.2.3.0 in 1.2:4 4.2:4"},
		{"refused for good", writes(1, req(0, 1, 1), bind(0, 7, 1)), shardAnswer{done: impl.Done{Req: req(0, 1, 1), Key: 16, Ver: 0, Code: 3}, code: 5},
			"0/1/4 2:2:8 10:2:(1@6 4@6) 18:3:(1@9) 20:1:(2@6) log 2 2 18 18 10 18 20 10 done 0.1.1:16:0:3 1.3.3:20:1:0 out 2:2.2.1.9 3:3.2.3.0 in 1.2:4 4.2:4"},
		{"a part that is later by far", backs(1, 9, part(1, 2)), shardAnswer{key: 10, did: true},
			"0/1/4 2:2:8 10:3:(4@6) 18:3:(1@9) 20:1:(2@6) log 2 2 18 18 10 18 20 10 10 done 0.1.1:16:0:3 1.3.3:20:1:0 out 2:2.2.1.9 3:3.2.3.0 in 1.2:9 4.2:4"},
		{"who leads next", fences(4), shardAnswer{},
			"0/4/4 2:2:8 10:3:(4@6) 18:3:(1@9) 20:1:(2@6) log 2 2 18 18 10 18 20 10 10 done 0.1.1:16:0:3 1.3.3:20:1:0 out 2:2.2.1.9 3:3.2.3.0 in 1.2:9 4.2:4"},
		{"who led clears no more", clears(1, 2), shardAnswer{code: 1},
			"0/4/4 2:2:8 10:3:(4@6) 18:3:(1@9) 20:1:(2@6) log 2 2 18 18 10 18 20 10 10 done 0.1.1:16:0:3 1.3.3:20:1:0 out 2:2.2.1.9 3:3.2.3.0 in 1.2:9 4.2:4"},
	} {
		got, answer := doStep(s, c.step)
		if answer != c.answer || partText(got) != c.part {
			t.Fatalf("%s: got %v, %s, want %v, %s", c.what, answer, partText(got), c.answer, c.part)
		}
		s, m = wantStep(t, c.what, s, m, c.step)
	}
}

// wantWrite tells a request whose answer, or the part behind it, is not as it is wanted; with refused the part is as it was.
func wantWrite(t *testing.T, what string, m partModel, st shardStep, code int, done impl.Done, refused bool) {
	t.Helper()
	s := m.shard()
	got, gotDone, gotCode := impl.ShardWrite(s, st.term, st.req, st.op)
	if gotCode != code || gotDone != done {
		t.Errorf("%s, %v: got %v, %d, want %v, %d", what, st, gotDone, gotCode, done, code)
	}
	if refused && !samePart(got, m.shard()) {
		t.Errorf("%s, %v: got %s, want it as it was", what, st, partText(got))
	}
	if !impl.ShardOk(got) {
		t.Errorf("%s, %v: %s is not ok", what, st, partText(got))
	}
	wantStep(t, what, s, m, st)
}

// TestShardWriteTerms has terms that are Fence, one below it, one above it, and others.
func TestShardWriteTerms(t *testing.T) {
	for what, m := range rightParts() {
		m.fence = 3
		for _, term := range []int{2, 4, 0, -1, -3, math.MaxInt, math.MinInt} {
			for _, op := range []impl.Op{set(2+m.part, 5), turnedTo(m.part, bind(2, 3, 1)), set(3-m.part, 5), {}} {
				for _, r := range []impl.Req{req(0, 99, 0), req(1, 99, 0), req(0, 0, 0), req(0, 1, 3), req(2, 0, 0), req(0, -1, 0)} {
					wantWrite(t, what, m, writes(term, r, op), 1, impl.Done{}, true)
				}
			}
		}
	}
	for which := range 2 {
		done := impl.Done{Req: req(0, 0, 0), Key: 4 + which, Ver: 1}
		wantWrite(t, "in term 0", partModel{part: which}, writes(0, req(0, 0, 0), set(4+which, 5)), 0, done, false)
		wantWrite(t, "in term 3", partModel{part: which, fence: 3}, writes(3, req(0, 0, 0), set(4+which, 5)), 0, done, false)
		wantWrite(t, "in the last", partModel{part: which, fence: math.MaxInt}, writes(math.MaxInt, req(0, 0, 0), set(4+which, 5)), 0, done, false)
	}
}

// TestShardWriteForms has requests that are none, and writes of the other part.
func TestShardWriteForms(t *testing.T) {
	for what, m := range rightParts() {
		here, there := set(2+m.part, 5), set(3-m.part, 5)
		for _, r := range []impl.Req{req(-1, 9, 9), req(2, 9, 9), req(3, 0, 0), req(math.MaxInt, 9, 9), req(math.MinInt, 9, 9),
			req(0, -1, 9), req(1, 9, -1), req(0, -1, -1), req(1, math.MinInt, 9), req(0, 9, math.MinInt), req(2, -1, -1)} {
			wantWrite(t, what, m, writes(m.fence, r, here), 2, impl.Done{}, true)
			wantWrite(t, what, m, writes(m.fence, r, turnedTo(m.part, bind(2, 3, 5))), 2, impl.Done{}, true)
		}
		for _, op := range slices.Concat(wrongOps(), []impl.Op{there, turnedTo(1-m.part, bind(2, 3, 5)), turnedTo(1-m.part, bind(2, 6, 5)), turnedTo(1-m.part, part(2, 3))}) {
			for _, r := range []impl.Req{req(0, 99, 9), req(0, 0, 0), req(1, 99, 0)} {
				wantWrite(t, what, m, writes(m.fence, r, op), 2, impl.Done{}, true)
			}
		}
	}
	for which := range 2 {
		m := partModel{part: which}
		for _, r := range []impl.Req{req(0, 0, 0), req(1, 0, 0), req(0, 0, 1), req(1, 1, 0), req(0, math.MaxInt, math.MaxInt)} {
			wantWrite(t, "first", m, writes(0, r, set(6+which, 5)), 0, impl.Done{Req: r, Key: 6 + which, Ver: 1}, false)
			// A bond is of A's part, wherever B is.
			wantWrite(t, "first", m, writes(0, r, bind(6+which, 4+which, 5)), 0, impl.Done{Req: r, Key: 22 + which, Ver: 1}, false)
			wantWrite(t, "first", m, writes(0, r, bind(6+which, 5-which, 5)), 0, impl.Done{Req: r, Key: 22 + which, Ver: 1}, false)
			wantWrite(t, "first", m, writes(0, r, part(6+which, 5-which)), 0, impl.Done{Req: r, Key: 22 + which, Ver: 1}, false)
		}
	}
}

// TestShardWriteAll has all writes of each kind and of all people, in an open part of each number.
func TestShardWriteAll(t *testing.T) {
	for which := range 2 {
		m := partModel{part: which, fence: 1}
		for _, op := range rightOps() {
			wantStep(t, "open", m.shard(), m, writes(1, req(1, 2, 3), op))
		}
	}
}

// TestShardWriteAgain has requests that come again, later and earlier ones, of one tier and of the other.
func TestShardWriteAgain(t *testing.T) {
	for which := range 2 {
		m := partModel{part: which, fence: 2}.after(
			writes(2, req(0, 5, 5), set(2+which, 7)), writes(2, req(1, 3, 8), turnedTo(which, bind(2, 3, 5))),
			writes(2, req(1, 3, 9), turnedTo(which, bind(4, 3, 5))), writes(2, req(0, 5, 6), set(2+which, 8)),
		)
		first := impl.Done{Req: req(0, 5, 6), Key: 2 + which, Ver: 2}
		second := impl.Done{Req: req(1, 3, 9), Key: 20 + which, Ver: 1}
		// It is told by whose it is, his life and its number alone: with whatever write it comes.
		for _, op := range []impl.Op{set(2+which, 8), set(2+which, 9), set(4+which, 8), turnedTo(which, bind(2, 1, 1)), turnedTo(which, part(4, 3))} {
			wantWrite(t, "again", m, writes(2, req(0, 5, 6), op), 5, first, true)
			wantWrite(t, "again", m, writes(2, req(1, 3, 9), op), 5, second, true)
			for _, r := range []impl.Req{req(0, 5, 5), req(0, 5, 0), req(0, 4, 6), req(0, 4, 7), req(0, 0, 99), req(0, 0, 0), req(0, 4, math.MaxInt),
				req(1, 3, 8), req(1, 2, 9), req(1, 2, 10), req(1, 0, 0)} {
				wantWrite(t, "old", m, writes(2, r, op), 4, impl.Done{}, true)
			}
		}
		for _, r := range []impl.Req{req(0, 5, 7), req(0, 5, 99), req(0, 6, 0), req(0, 6, 6), req(0, 99, 1), req(0, math.MaxInt, 0),
			req(1, 3, 10), req(1, 4, 0), req(1, 5, 6), req(1, 4, 9)} {
			wantWrite(t, "later", m, writes(2, r, set(2+which, 9)), 0, impl.Done{Req: r, Key: 2 + which, Ver: 3}, false)
		}
		for what, op := range map[string]impl.Op{"of the other part": set(3-which, 8), "no write": {}, "the other way": turnedTo(1-which, bind(2, 3, 5))} {
			wantWrite(t, what, m, writes(2, req(0, 5, 6), op), 2, impl.Done{}, true)
			wantWrite(t, what, m, writes(2, req(0, 5, 5), op), 2, impl.Done{}, true)
		}
	}
}

// TestShardWriteFullLog has a log of 59 commits and one of 60.
func TestShardWriteFullLog(t *testing.T) {
	for which := range 2 {
		long, full := rightParts()[fmt.Sprintf("59 commits, part %d", which)], rightParts()[fmt.Sprintf("60 commits, part %d", which)]
		if len(long.log) != 59 || len(full.log) != 60 {
			t.Fatal(len(long.log), len(full.log))
		}
		for key, op := range map[int]impl.Op{2 + which: set(2+which, 5), 6 + which: set(6+which, 5), 18 + which: turnedTo(which, bind(2, 3, 7)), 22 + which: turnedTo(which, part(6, 5))} {
			for _, r := range []impl.Req{req(0, 9, 1), req(1, 9, 0)} {
				wantWrite(t, "59 commits", long, writes(2, r, op), 0, impl.Done{Req: r, Key: key, Ver: len(long.had[key]) + 1}, false)
				refused := impl.Done{Req: r, Key: key, Ver: len(full.had[key]), Code: 3}
				wantWrite(t, "60 commits", full, writes(2, r, op), 3, refused, false)
				behind, _, _ := impl.ShardWrite(full.shard(), 2, r, op)
				// But for that, it is as it was.
				want := full
				want.last[r.Who] = []impl.Done{refused}
				if !samePart(behind, want.shard()) {
					t.Errorf("%v: got %s, want %s", op, partText(behind), partText(want.shard()))
				}
				wantWrite(t, "refused, again", modelOf(behind), writes(2, r, op), 5, refused, true)
				wantWrite(t, "refused, again with another", modelOf(behind), writes(2, r, set(which, 1)), 5, refused, true)
			}
		}
	}
}

// TestShardWriteFullOfBonds has 2 and 3 intents, and a Stamp of 59 and 60: these bar bonds, and no numbers.
func TestShardWriteFullOfBonds(t *testing.T) {
	for which := range 2 {
		two, three := busyPart(which), rightParts()[fmt.Sprintf("crowded, part %d", which)]
		most, over := rightParts()[fmt.Sprintf("59 bonds, part %d", which)], rightParts()[fmt.Sprintf("60 bonds, part %d", which)]
		if len(two.intents) != 2 || len(three.intents) != 3 || most.stamp != 59 || over.stamp != 60 || len(over.intents) > 2 {
			t.Fatal(two.intents, three.intents, most.stamp, over.stamp)
		}
		over.intents = nil
		for _, r := range []impl.Req{req(0, 9, 0), req(1, 9, 0)} {
			for key, op := range map[int]impl.Op{18 + which: turnedTo(which, bind(2, 3, 7)), 22 + which: turnedTo(which, part(6, 5)), 20 + which: turnedTo(which, part(4, 6)), 16 + which: turnedTo(which, bind(0, 2, 0))} {
				for what, m := range map[string]partModel{"2 intents": two, "stamp 59": most} {
					wantWrite(t, what, m, writes(2, r, op), 0, impl.Done{Req: r, Key: key, Ver: len(m.had[key]) + 1}, false)
					behind, _, _ := impl.ShardWrite(m.shard(), 2, r, op)
					if last := behind.Intents[len(behind.Intents)-1]; behind.Stamp != m.stamp+1 || last != (impl.Intent{Stamp: m.stamp + 1, Op: op}) {
						t.Errorf("%s, %v: got the stamp %d and %v", what, op, behind.Stamp, last)
					}
				}
				for what, m := range map[string]partModel{"3 intents": three, "stamp 60": over} {
					refused := impl.Done{Req: r, Key: key, Ver: len(m.had[key]), Code: 3}
					wantWrite(t, what, m, writes(2, r, op), 3, refused, false)
					behind, _, _ := impl.ShardWrite(m.shard(), 2, r, op)
					wantWrite(t, what+", again", modelOf(behind), writes(2, r, op), 5, refused, true)
				}
			}
			for what, m := range map[string]partModel{"3 intents": three, "stamp 60": over} {
				wantWrite(t, what, m, writes(2, r, set(2+which, 5)), 0, impl.Done{Req: r, Key: 2 + which, Ver: 3}, false)
				behind, _, _ := impl.ShardWrite(m.shard(), 2, r, set(2+which, 5))
				if behind.Stamp != m.stamp || !slices.Equal(behind.Intents, m.intents) {
					t.Errorf("%s: a number makes no intent: %s", what, partText(behind))
				}
			}
		}
	}
}

// TestShardWriteRefusedForGood has a bond that was refused, and comes again when there is room.
func TestShardWriteRefusedForGood(t *testing.T) {
	for which := range 2 {
		bound := turnedTo(which, bind(2, 7, 7))
		m := rightParts()[fmt.Sprintf("crowded, part %d", which)].after(writes(2, req(1, 5, 1), bound), clears(2, 3))
		if len(m.intents) != 2 {
			t.Fatal(m.intents)
		}
		refused := impl.Done{Req: req(1, 5, 1), Key: 18 + which, Ver: 3, Code: 3}
		wantWrite(t, "there is room again", m, writes(2, req(1, 5, 1), bound), 5, refused, true)
		wantWrite(t, "as another write", m, writes(2, req(1, 5, 1), set(2+which, 5)), 5, refused, true)
		wantWrite(t, "as an older request", m, writes(2, req(1, 5, 0), bound), 4, impl.Done{}, true)
		wantWrite(t, "as the next request", m, writes(2, req(1, 5, 2), bound), 0, impl.Done{Req: req(1, 5, 2), Key: 18 + which, Ver: 4}, false)
	}
}

// TestShardWriteOrder has several codes that apply: the first of them is answered.
func TestShardWriteOrder(t *testing.T) {
	for which := range 2 {
		full := rightParts()[fmt.Sprintf("refused all, part %d", which)]
		last, here, none := full.last[1][0], set(2+which, 5), impl.Op{}
		fenced, form, old := writes(1, req(1, 6, 1), here), writes(2, req(1, 6, 1), none), writes(2, req(1, 5, 99), here)
		for _, c := range []struct {
			what string
			step shardStep
			code int
			done impl.Done
		}{
			{"fenced ahead of form, by the write", writes(1, req(1, 9, 0), none), 1, impl.Done{}},
			{"fenced ahead of form, by the part", writes(3, req(1, 9, 0), set(3-which, 5)), 1, impl.Done{}},
			{"fenced ahead of form, by the request", writes(1, req(2, 0, 0), here), 1, impl.Done{}},
			{"fenced ahead of again", writes(1, last.Req, here), 1, impl.Done{}},
			{"fenced ahead of old", writes(3, old.req, here), 1, impl.Done{}},
			{"fenced ahead of full", fenced, 1, impl.Done{}},
			{"form ahead of again, by the write", writes(2, last.Req, none), 2, impl.Done{}},
			{"form ahead of again, by the part", writes(2, last.Req, set(3-which, 5)), 2, impl.Done{}},
			{"form ahead of old, by the write", writes(2, old.req, none), 2, impl.Done{}},
			{"form ahead of old, by the request", writes(2, req(1, 5, -1), here), 2, impl.Done{}},
			{"form ahead of full", form, 2, impl.Done{}},
			{"form ahead of full, by the request", writes(2, req(2, 9, 0), here), 2, impl.Done{}},
			{"again ahead of full", writes(2, last.Req, here), 5, last},
			{"again ahead of full, a bond", writes(2, last.Req, turnedTo(which, bind(2, 3, 5))), 5, last},
			{"old ahead of full", old, 4, impl.Done{}},
			{"old ahead of full, a bond", writes(2, req(0, 0, 99), turnedTo(which, bind(2, 3, 5))), 4, impl.Done{}},
		} {
			wantWrite(t, c.what, full, c.step, c.code, c.done, true)
		}
	}
}
