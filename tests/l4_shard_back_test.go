package tests

import (
	"fmt"
	"math"
	"slices"
	"testing"

	"loop.example/kith/impl"
)

// wantBack tells an other end whose answer is not as it is wanted; if nothing was written, the part is as it was.
func wantBack(t *testing.T, what string, m partModel, st shardStep, key int, did bool, code int) impl.Shard {
	t.Helper()
	s := m.shard()
	got, gotKey, gotDid, gotCode := impl.ShardBack(s, st.term, impl.Intent{Stamp: st.stamp, Op: st.op})
	if gotKey != key || gotDid != did || gotCode != code {
		t.Errorf("%s, %v: got %d, %v, %d, want %d, %v, %d", what, st, gotKey, gotDid, gotCode, key, did, code)
	}
	if !did && !samePart(got, m.shard()) {
		t.Errorf("%s, %v: got %s, want it as it was", what, st, partText(got))
	}
	if !impl.ShardOk(got) {
		t.Errorf("%s, %v: %s is not ok", what, st, partText(got))
	}
	wantStep(t, what, s, m, st)
	return got
}

// TestShardBackTerms has terms that are not Fence, whatever else there is.
func TestShardBackTerms(t *testing.T) {
	for what, m := range rightParts() {
		m.fence = 3
		for _, term := range []int{2, 4, 0, -1, -3, math.MaxInt, math.MinInt} {
			for _, op := range []impl.Op{turnedTo(m.part, bind(3, 2, 1)), turnedTo(m.part, part(1, 2)), turnedTo(m.part, bind(2, 3, 1)), set(2+m.part, 5), {}} {
				for _, stamp := range []int{1, 5, 6, 99, 0, -1} {
					wantBack(t, what, m, backs(term, stamp, op), -1, false, 1)
				}
			}
		}
		wantBack(t, what, m, backs(3, 0, turnedTo(m.part, bind(3, 2, 1))), -1, false, 2)
	}
}

// TestShardBackForms has writes without another end, those whose other end is in the other part, and stamps that are none.
func TestShardBackForms(t *testing.T) {
	for what, m := range rightParts() {
		for _, op := range slices.Concat(wrongOps(), []impl.Op{set(2, 5), set(3, 5), set(m.part, 0), turnedTo(m.part, bind(2, 3, 5)), turnedTo(m.part, bind(3, 1, 5)), turnedTo(m.part, part(2, 3))}) {
			for _, stamp := range []int{1, 9, 0} {
				wantBack(t, what, m, backs(m.fence, stamp, op), -1, false, 2)
			}
		}
		for _, stamp := range []int{0, -1, -9, math.MinInt} {
			wantBack(t, what, m, backs(m.fence, stamp, turnedTo(m.part, bind(3, 2, 5))), -1, false, 2)
			wantBack(t, what, m, backs(m.fence, stamp, turnedTo(m.part, part(7, 0))), -1, false, 2)
		}
	}
}

// TestShardBackAll has all writes of each kind and of all people, in an open part of each number.
func TestShardBackAll(t *testing.T) {
	for which := range 2 {
		m := partModel{part: which, fence: 1}
		for _, op := range rightOps() {
			wantStep(t, "open", m.shard(), m, backs(1, 7, op))
			if op.Kind == 1 || op.B%2 != which {
				continue
			}
			for _, stamp := range []int{1, 2, 60, 61, math.MaxInt} {
				got := wantBack(t, "open", m, backs(1, stamp, op), keyTable[1][op.B], true, 0)
				want := []impl.Seen{{A: op.A, B: op.B, Stamp: stamp}}
				if !slices.Equal(got.Seen, want) || len(got.Log) != 1 || got.Stamp != 0 || len(got.Intents)+len(got.Dones) != 0 {
					t.Errorf("%v: got %s", op, partText(got))
				}
			}
		}
	}
}

// TestShardBackStamps has stamps below, as great as and above the last that came of that bond, of OpBind and OpPart, in either order.
func TestShardBackStamps(t *testing.T) {
	for which := range 2 {
		early, late, parted := turnedTo(which, bind(3, 2, 5)), turnedTo(which, bind(3, 2, 9)), turnedTo(which, part(3, 2))
		for _, first := range []impl.Op{early, late, parted} {
			m := partModel{part: which}.after(backs(0, 3, turnedTo(which, bind(1, 2, 7))), backs(0, 6, first))
			for _, second := range []impl.Op{early, late, parted} {
				for _, stamp := range []int{1, 2, 3, 5, 6} {
					wantBack(t, "not later", m, backs(0, stamp, second), 10+which, false, 0)
				}
				for _, stamp := range []int{7, 8, 60, math.MaxInt} {
					got := wantBack(t, "later", m, backs(0, stamp, second), 10+which, true, 0)
					want := []impl.Seen{{A: 1 ^ which, B: 2 + which, Stamp: 3}, {A: 3 ^ which, B: 2 + which, Stamp: stamp}}
					slices.SortFunc(want, func(a impl.Seen, b impl.Seen) int { return a.A - b.A })
					// Written each time, even if the key has the same behind it.
					if !slices.Equal(got.Seen, want) || got.Rows[10+which].Ver != 3 || len(got.Log) != 3 {
						t.Errorf("%v behind %v: got %s", second, first, partText(got))
					}
				}
			}
			// Of another bond of the same key, and of the same two the other way round, nothing came.
			wantBack(t, "another elder", m, backs(0, 1, turnedTo(which, bind(5, 2, 5))), 10+which, true, 0)
			wantBack(t, "another young", m, backs(0, 1, turnedTo(which, bind(3, 4, 5))), 12+which, true, 0)
		}
		m := partModel{part: which}.after(backs(0, 6, turnedTo(which, bind(4, 2, 5))))
		wantBack(t, "the other way round", m, backs(0, 1, turnedTo(which, bind(2, 4, 5))), 12+which, true, 0)
	}
}

// TestShardBackInAnyOrder is promise 4: of one bond's other ends the last one stays, in whatever order they come, and however often.
func TestShardBackInAnyOrder(t *testing.T) {
	for which := range 2 {
		for _, ops := range [][]impl.Op{
			{bind(3, 2, 5), part(3, 2), bind(3, 2, 9), bind(3, 2, 5)},
			{bind(3, 2, 5), bind(3, 2, 7), bind(3, 2, 9), part(3, 2)},
			{part(3, 2), bind(3, 2, 9), part(3, 2), bind(3, 2, 0)},
		} {
			orders := 0
			eachOrder(edges(0, 0, 1, 0, 2, 0, 3, 0), nil, func(order []impl.Edge) {
				orders++
				m := partModel{part: which}
				s, m := wantStep(t, "another", impl.ShardOpen(which), m, backs(0, 2, turnedTo(which, bind(1, 2, 7))))
				greatest := 0
				for _, e := range slices.Concat(order, order) {
					st := backs(0, 1+e.Who, turnedTo(which, ops[e.Who]))
					before := s
					s, m = wantStep(t, fmt.Sprint(order), s, m, st)
					if written := len(s.Log) > len(before.Log); written != (st.stamp > greatest) {
						t.Errorf("%v, %v: written is %v", order, st, written)
					}
					greatest = max(greatest, st.stamp)
				}
				want := kinChanged(bond(1^which, 7), 3^which, ops[3])
				if !sameVal(s.Rows[10+which].Val, want) {
					t.Errorf("%v: got %v, want %v", order, s.Rows[10+which].Val, want)
				}
			})
			if orders != 24 {
				t.Errorf("%d orders", orders)
			}
		}
	}
}

// TestShardBackFullLog has a log of 59 commits and one of 60.
func TestShardBackFullLog(t *testing.T) {
	for which := range 2 {
		long, full := rightParts()[fmt.Sprintf("59 commits, part %d", which)], rightParts()[fmt.Sprintf("60 commits, part %d", which)]
		for _, op := range []impl.Op{turnedTo(which, bind(3, 2, 5)), turnedTo(which, part(3, 2)), turnedTo(which, bind(4, 6, 5))} {
			key := keyTable[1][op.B]
			if got := wantBack(t, "59 commits", long, backs(2, 7, op), key, true, 0); len(got.Log) != 60 {
				t.Errorf("%d commits", len(got.Log))
			}
			wantBack(t, "60 commits", full, backs(2, 7, op), key, false, 3)
			// It came already: that is ahead of there being no room.
			wantBack(t, "60 commits, came", full, backs(2, 2, op), key, false, 0)
			wantBack(t, "60 commits, put off", full, backs(1, 7, op), -1, false, 1)
			wantBack(t, "60 commits, no stamp", full, backs(2, 0, op), -1, false, 2)
		}
		wantBack(t, "60 commits, no other end", full, backs(2, 7, set(2+which, 5)), -1, false, 2)
		wantBack(t, "60 commits, the other part", full, backs(2, 7, turnedTo(which, bind(2, 3, 5))), -1, false, 2)
		// Neither the intents nor the Stamp bar an other end.
		for _, what := range []string{"crowded", "60 bonds"} {
			m := rightParts()[fmt.Sprintf("%s, part %d", what, which)]
			wantBack(t, what, m, backs(2, 9, turnedTo(which, bind(7, 2, 5))), 10+which, true, 0)
		}
	}
}

// TestShardClear has the stamps of intents, and such of which there is none.
func TestShardClear(t *testing.T) {
	for what, m := range rightParts() {
		for _, stamp := range []int{0, 1, 2, 3, 4, 5, 6, 7, -1, 60, 61, math.MaxInt, math.MinInt} {
			for _, term := range []int{m.fence, m.fence - 1, m.fence + 1, -1, math.MaxInt} {
				want := m.shard()
				code := 1
				if term == m.fence {
					code = 0
					want.Intents = slices.DeleteFunc(want.Intents, func(in impl.Intent) bool { return in.Stamp == stamp })
				}
				got, gotCode := impl.ShardClear(m.shard(), term, stamp)
				if gotCode != code || !samePart(got, want) || !impl.ShardOk(got) {
					t.Errorf("%s, term %d, stamp %d: got %d, %s, want %d, %s", what, term, stamp, gotCode, partText(got), code, partText(want))
				}
			}
		}
	}
}

// TestShardClearEach has three intents, of which one goes behind the other, in all orders, each twice.
func TestShardClearEach(t *testing.T) {
	for which := range 2 {
		eachOrder(edges(3, 0, 4, 0, 5, 0), nil, func(order []impl.Edge) {
			m := rightParts()[fmt.Sprintf("crowded, part %d", which)]
			s := m.shard()
			for place, e := range order {
				for range 2 {
					s, m = wantStep(t, fmt.Sprint(order), s, m, clears(2, e.Who))
					if len(s.Intents) != 2-place || s.Stamp != 5 {
						t.Errorf("%v: got %s", order, partText(s))
					}
				}
			}
			// The next one has a stamp that none had.
			s, _ = wantStep(t, fmt.Sprint(order), s, m, writes(2, req(1, 9, 9), turnedTo(which, bind(2, 7, 1))))
			if !slices.Equal(s.Intents, []impl.Intent{{Stamp: 6, Op: turnedTo(which, bind(2, 7, 1))}}) {
				t.Errorf("%v: got %s", order, partText(s))
			}
		})
	}
}
