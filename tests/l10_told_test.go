package tests

import (
	"fmt"
	"maps"
	"math"
	"slices"
	"testing"

	"loop.example/kith/impl"
)

// wantWas tells another answer to whether an item was so than the one that is wanted.
func wantWas(t *testing.T, what string, s impl.Shard, it impl.Item, want bool) {
	t.Helper()
	if got := impl.ToldWas(s, it); got != want {
		t.Fatalf("%s: %s was so is %v:\n%s", what, itemText(it), got, partText(s))
	}
	if told := wasTold(s, it); told != want {
		t.Fatalf("%s: %s was so is %v in the document's words:\n%s", what, itemText(it), told, partText(s))
	}
}

// TestToldWas is written out: what the keys of a part had, one behind the other.
func TestToldWas(t *testing.T) {
	s := busyPart(0).shard()
	for _, it := range []impl.Item{
		item(2, 1, thing(17)), item(2, 2, thing(3)), item(18, 1, bond(3, 5)), item(18, 2, bond(1, 9, 3, 5)), item(18, 3, bond(1, 9)),
		item(20, 1, bond(6, 9)), item(14, 1, bond(4, 9)), item(10, 1, bond(3, 7)), item(10, 2, bond(1, 8, 3, 7)), item(10, 3, bond(1, 8)), item(0, 1, thing(1000000)), item(8, 1, bond(1, 1000)),
		item(2, 0, impl.Val{}), item(18, 0, impl.Val{}), item(4, 0, impl.Val{}), item(22, 0, impl.Val{}), item(22, 0, impl.Val{Kin: []impl.Edge{}}),
	} {
		wantWas(t, "busy", s, it, true)
		wantWas(t, "the other part", busyPart(1).shard(), it, false)
	}
	for _, it := range []impl.Item{
		item(2, 1, thing(3)), item(2, 2, thing(17)), item(2, 3, thing(3)), item(2, 3, impl.Val{}), item(2, 0, thing(17)), item(2, 1, impl.Val{}), item(4, 0, thing(17)), item(22, 0, bond(3, 5)), item(4, 1, thing(17)), item(4, 1, impl.Val{}), item(0, 2, thing(1000000)),
		item(18, 1, bond(1, 9, 3, 5)), item(18, 2, bond(3, 5)), item(18, 3, bond(1, 9, 3, 5)), item(18, 4, bond(1, 9)), item(18, 0, bond(3, 5)), item(18, 3, impl.Val{}), item(22, 1, impl.Val{}), item(20, 1, bond(4, 9)), item(14, 1, bond(6, 9)),
	} {
		wantWas(t, "busy", s, it, false)
	}
}

// TestToldWasOpen has parts in which nothing was written: of each key nothing was so, as the 0th.
func TestToldWasOpen(t *testing.T) {
	for which := range 2 {
		for _, s := range []impl.Shard{impl.ShardOpen(which), impl.ShardFence(impl.ShardOpen(which), math.MaxInt), impl.WorldOpen().Shards[which]} {
			for key := -1; key <= 24; key++ {
				ours := among(key, 0, 23) && key%2 == which
				wantWas(t, "open", s, item(key, 0, impl.Val{}), ours)
				wantWas(t, "open", s, item(key, 0, impl.Val{Kin: []impl.Edge{}}), ours)
				for _, it := range []impl.Item{item(key, 1, impl.Val{}), item(key, -1, impl.Val{}), item(key, 0, thing(1)), item(key, 0, bond(3, 5)), item(key, 1, thing(1)), item(key, 60, impl.Val{}), item(key, 61, impl.Val{})} {
					wantWas(t, "open", s, it, false)
				}
			}
		}
	}
}

// TestToldWasEach asks parts that are ok of each key and each Ver near to what was written, with what the key had at any time and with what differs from that in one thing.
func TestToldWasEach(t *testing.T) {
	for what, s := range allRightParts() {
		p := modelOf(s)
		for key := range 24 {
			all := p.hadAll(key)
			for ver := -1; ver <= len(all)+1; ver++ {
				for _, had := range all {
					so := key%2 == s.Part && among(ver, 0, len(all)-1) && sameVal(all[ver].Val, had.Val)
					wantWas(t, what, s, item(key, ver, had.Val), so)
				}
			}
			last := all[len(all)-1]
			for _, ver := range []int{59, 60, 61, math.MinInt, math.MaxInt} {
				wantWas(t, what, s, item(key, ver, last.Val), ver == last.Ver && key%2 == s.Part)
			}
		}
	}
}

// TestToldWasOneOff has of each commit of a part another value, other kin in one person, in one time and in length among them.
func TestToldWasOneOff(t *testing.T) {
	for which := range 2 {
		for _, what := range []string{"busy", "60 commits"} {
			s := rightParts()[fmt.Sprintf("%s, part %d", what, which)].shard()
			for _, c := range s.Log {
				wantWas(t, what, s, impl.Item(c), true)
				wantWas(t, what, s, item(1-which, c.Ver, c.Val), false)
				for how, v := range otherVals(c.Key, c.Val) {
					wantWas(t, what+", "+how, s, item(c.Key, c.Ver, v), false)
				}
			}
		}
	}
}

// TestToldWasKin has a list of kin that differs in one thing at each of its places, in its order and in its length.
func TestToldWasKin(t *testing.T) {
	for which := range 2 {
		s := impl.ShardOpen(which)
		kin := edges(2, 900, 0, 7, 1, 7, 5, 7, 7, 0)
		withWritten(&s, 16+which, 1, impl.Val{Kin: kin})
		wantWas(t, "kin", s, item(16+which, 1, impl.Val{Kin: kin}), true)
		for _, other := range [][]impl.Edge{
			nil, kin[:1], kin[:4], kin[1:], edges(2, 900, 0, 7, 1, 7, 5, 7, 7, 0, 6, 0), edges(3, 901, 2, 900, 0, 7, 1, 7, 5, 7, 7, 0), edges(2, 900, 0, 7, 5, 7, 7, 0),
			edges(3, 900, 0, 7, 1, 7, 5, 7, 7, 0), edges(2, 900, 0, 7, 1, 7, 4, 7, 7, 0), edges(2, 900, 0, 7, 1, 7, 5, 7, 6, 0),
			edges(2, 901, 0, 7, 1, 7, 5, 7, 7, 0), edges(2, 900, 0, 7, 1, 7, 5, 6, 7, 0), edges(2, 900, 0, 7, 1, 7, 5, 7, 7, 1),
			edges(0, 7, 2, 900, 1, 7, 5, 7, 7, 0), edges(2, 900, 1, 7, 0, 7, 5, 7, 7, 0), edges(7, 0, 5, 7, 1, 7, 0, 7, 2, 900), slices.Concat(kin, kin),
		} {
			wantWas(t, "other kin", s, item(16+which, 1, impl.Val{Kin: other}), false)
			wantWas(t, "other kin, as the 0th", s, item(16+which, 0, impl.Val{Kin: other}), len(other) == 0)
		}
	}
}

// TestToldWasTurned has two keys that were written by turns, with the same values and with others.
func TestToldWasTurned(t *testing.T) {
	s := impl.ShardOpen(0)
	for ver := 1; ver <= 30; ver++ {
		withWritten(&s, 2, ver, thing(ver%3))
		withWritten(&s, 6, ver, thing(ver%2))
	}
	for ver := -1; ver <= 61; ver++ {
		for num := range 4 {
			wantWas(t, "turned", s, item(2, ver, thing(num)), among(ver, 1, 30) && num == ver%3 || ver == 0 && num == 0)
			wantWas(t, "turned", s, item(6, ver, thing(num)), among(ver, 1, 30) && num == ver%2 || ver == 0 && num == 0)
			wantWas(t, "turned", s, item(4, ver, thing(num)), ver == 0 && num == 0)
		}
	}
}

// TestToldWasLast has parts whose log is full: of one key all 60 commits, and of its last one the Ver ShardLog.
func TestToldWasLast(t *testing.T) {
	for which := range 2 {
		s := impl.ShardOpen(which)
		withSets(&s, 60)
		for _, c := range s.Log {
			wantWas(t, "full", s, impl.Item(c), true)
			wantWas(t, "full", s, item(c.Key, c.Ver, thing(c.Val.Num+1)), false)
			wantWas(t, "full", s, item(c.Key, c.Ver+1, c.Val), false)
			wantWas(t, "full", s, item(c.Key, c.Ver-1, c.Val), c.Ver == 1)
		}
		wantWas(t, "full", s, item(which, 60, thing(59)), true)
		for _, ver := range []int{61, 62, 0, -1, -60, math.MaxInt, math.MinInt} {
			wantWas(t, "full", s, item(which, ver, thing(59)), false)
		}
	}
}

// TestToldWasWrongPart has parts that are not ok: nothing was so there, not what stands in their logs either.
func TestToldWasWrongPart(t *testing.T) {
	for what, s := range wrongParts() {
		for key := -1; key <= 24; key++ {
			wantWas(t, what, s, item(key, 0, impl.Val{}), false)
		}
		for _, c := range s.Log {
			wantWas(t, what, s, impl.Item(c), false)
		}
	}
	for _, c := range busyPart(1).log {
		wantWas(t, "no part", impl.Shard{}, impl.Item(c), false)
	}
}

// TestToldWasWrongItem has items that are not right: by their key, their Ver and what they have.
func TestToldWasWrongItem(t *testing.T) {
	for what, s := range allRightParts() {
		for which, it := range wrongItemList() {
			wantWas(t, what+", "+which, s, it, false)
		}
		for _, c := range s.Log {
			for _, key := range []int{-1, -2, 24, 25, c.Key - 24, c.Key + 24, math.MinInt, math.MaxInt} {
				wantWas(t, what, s, item(key, c.Ver, c.Val), false)
				wantWas(t, what, s, item(key, 0, impl.Val{}), false)
			}
			wantWas(t, what, s, item(c.Key, c.Ver, impl.Val{Num: c.Val.Num + 1, Kin: c.Val.Kin}), false)
			wantWas(t, what, s, item(c.Key, c.Ver, impl.Val{Num: c.Val.Num, Kin: slices.Concat(c.Val.Kin, edges(9, 0))}), false)
		}
	}
}

// wantTrue tells another answer to whether all that was told was so than the one that is wanted.
func wantTrue(t *testing.T, what string, w impl.World, want bool) {
	t.Helper()
	if got := impl.ToldTrue(w); got != want {
		t.Fatalf("%s: all was so is %v:\n%s", what, got, worldText(w))
	}
	if told := trueTold(w); told != want {
		t.Fatalf("%s: all was so is %v in the document's words:\n%s", what, told, worldText(w))
	}
}

// TestToldTrueNone has worlds where nothing was told, ok and not ok.
func TestToldTrueNone(t *testing.T) {
	wantTrue(t, "open", impl.WorldOpen(), true)
	for what, m := range rightWorlds() {
		m.told = nil
		wantTrue(t, what, m.world(), true)
		wantTrue(t, what+", empty lists", emptyWorldLists(m.world()), true)
	}
	wantTrue(t, "no world", impl.World{}, false)
	plain := plainWorld()
	for _, change := range slices.Concat(worldPartChanges(), worldLeadChanges(), worldTierChanges(), worldNetChanges()) {
		w := plain.world()
		change.do(&w)
		w.Told = nil
		wantTrue(t, change.what, w, change.fine)
	}
}

// TestToldTrueOneOff has one thing changed of a world in which all that was told was so.
func TestToldTrueOneOff(t *testing.T) {
	plain, came := plainWorld(), map[bool]int{}
	wantTrue(t, "plain", plain.world(), true)
	for _, change := range worldChanges() {
		w := plain.world()
		change.do(&w)
		want := change.fine && trueTold(w)
		wantTrue(t, change.what, w, want)
		came[want]++
	}
	if came[true] < 100 || came[false] < 100 {
		t.Errorf("%v", came)
	}
}

// TestToldTrueOneAlone has one answer alone that was not so: the first, the last and some in the midst, of keys of both parts.
func TestToldTrueOneAlone(t *testing.T) {
	of := map[string]int{}
	for what, m := range rightWorlds() {
		for _, many := range []int{1, 2, 3, 40, 119, 120} {
			w := m.withSo(many).world()
			wantTrue(t, what, w, true)
			for _, place := range []int{0, 1, many / 2, many - 2, many - 1} {
				if !among(place, 0, many-1) {
					continue
				}
				it := w.Told[place].Item
				for how, other := range otherSo(it) {
					w.Told[place].Item = other
					if wasTold(w.Shards[other.Key%2], other) {
						continue
					}
					wantTrue(t, fmt.Sprintf("%s, %d answers, %s at %d", what, many, how, place), w, false)
					of[fmt.Sprint("part ", other.Key%2, " wrote ", w.Told[place].Wrote)]++
				}
				w.Told[place].Item = it
			}
			wantTrue(t, what, w, true)
		}
	}
	for _, which := range []string{"part 0 wrote false", "part 0 wrote true", "part 1 wrote false", "part 1 wrote true"} {
		if of[which] < 100 {
			t.Errorf("%s: %v", which, of)
		}
	}
}

// otherSo are items that are right, which differ from one in one thing each; most of them were not so.
func otherSo(it impl.Item) map[string]impl.Item {
	others := map[string]impl.Item{}
	for _, ver := range []int{it.Ver - 1, it.Ver + 1, 60, 0} {
		if ver != it.Ver && among(ver, 0, 60) {
			others[fmt.Sprint("the Ver ", ver)] = item(it.Key, ver, it.Val)
		}
	}
	for _, key := range []int{it.Key ^ 1, it.Key ^ 2} {
		others[fmt.Sprint("the key ", key)] = item(key, it.Ver, it.Val)
	}
	vals := otherVals(it.Key, it.Val)
	hows := slices.Sorted(maps.Keys(vals))
	for _, how := range hows[:min(len(hows), 4)] {
		others[how] = item(it.Key, it.Ver, vals[how])
	}
	return others
}

// TestToldTrueParts has answers of each part that were so in the other part alone.
func TestToldTrueParts(t *testing.T) {
	w := impl.WorldOpen()
	for which := range 2 {
		withWritten(&w.Shards[which], 2+which, 1, thing(5+which))
		withWritten(&w.Shards[which], 18+which, 1, bond(6+which, 5))
	}
	right := []impl.Item{item(2, 1, thing(5)), item(3, 1, thing(6)), item(18, 1, bond(6, 5)), item(19, 1, bond(7, 5))}
	wrong := []impl.Item{item(3, 1, thing(5)), item(2, 1, thing(6)), item(19, 1, bond(6, 5)), item(18, 1, bond(7, 5))}
	for place, it := range right {
		w.Told = []impl.Told{toldHas(0, it)}
		wantTrue(t, "alone", w, true)
		w.Told = []impl.Told{toldHas(0, wrong[place])}
		wantTrue(t, "alone", w, false)
		// What was refused was so too.
		for code := range 6 {
			w.Told = []impl.Told{toldHas(1, right[0]), toldWrote(1, it, code), toldHas(0, right[3])}
			wantTrue(t, "wrote", w, true)
			w.Told[1].Item = wrong[place]
			wantTrue(t, "wrote", w, false)
		}
	}
	// What was told may fall back, and still have been so.
	w.Told = []impl.Told{toldHas(0, right[0]), toldHas(0, item(2, 0, impl.Val{})), toldHas(0, right[0])}
	wantTrue(t, "fallen back", w, true)
}
