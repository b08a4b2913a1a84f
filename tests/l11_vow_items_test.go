package tests

import (
	"fmt"
	"maps"
	"slices"
	"testing"

	"loop.example/kith/impl"
)

// noItems is what holds, if an item was never so.
var noItems = vows{false, true, true, true, false}

// twiceWritten has of each part a number that was written twice and a bond that is known to both of its ends; three lead each, and nobody has anything in his cache.
func twiceWritten() worldModel {
	w := openWorld().written(0, set(2, 17), set(2, 18), bind(2, 4, 5)).written(1, set(3, 17), set(3, 18), bind(3, 5, 5))
	w = w.after(eventRises(0), eventRises(1), eventRises(0), eventRises(1))
	for which := range 2 {
		for who := range w.leads[which] {
			w = w.withLead(which, who, leadModel{term: 3 - who, up: who < 2})
		}
		w.tiers[which] = tierModel{id: which}
	}
	w.told = nil
	return w
}

// heldItem is an item of a key of the part 0, or the like of it of the part 1, and whether it was so in twiceWritten.
type heldItem struct {
	it impl.Item
	so bool
}

func heldItems() []heldItem {
	return []heldItem{
		{item(2, 1, thing(17)), true}, {item(2, 2, thing(18)), true}, {item(2, 0, impl.Val{}), true}, {item(4, 0, impl.Val{}), true}, {item(18, 0, impl.Val{}), true}, {item(18, 1, bond(4, 5)), true}, {item(12, 1, bond(2, 5)), true}, {item(12, 0, bond()), true}, {item(22, 0, impl.Val{}), true},
		{item(2, 1, thing(18)), false}, {item(2, 2, thing(17)), false}, {item(2, 2, thing(19)), false}, {item(2, 1, impl.Val{}), false}, {item(2, 2, impl.Val{}), false}, {item(2, 0, thing(17)), false}, {item(2, 0, thing(1)), false}, {item(4, 0, thing(17)), false},
		{item(18, 1, bond(4, 6)), false}, {item(18, 1, bond(6, 5)), false}, {item(18, 1, bond(4, 5, 6, 5)), false}, {item(18, 1, impl.Val{}), false}, {item(18, 0, bond(4, 5)), false}, {item(12, 1, bond(4, 5)), false}, {item(22, 0, bond(4, 5)), false},
	}
}

// turnedItem is the like of an item of a part 0 in another part.
func turnedItem(which int, it impl.Item) impl.Item {
	it = item(it.Key^which, it.Ver, copied(it.Val))
	for place := range it.Val.Kin {
		it.Val.Kin[place].Who ^= which
	}
	return it
}

// cacheWith is a cache with an item among so many others that were so.
func cacheWith(which int, it impl.Item, ahead int) impl.Cache {
	var c cacheModel
	others := slices.DeleteFunc([]impl.Item{item(2, 1, thing(17)), item(18, 1, bond(4, 5)), item(20, 0, impl.Val{}), item(12, 1, bond(2, 5))}, func(other impl.Item) bool { return other.Key == it.Key })
	c = c.after(puts(turnedItem(which, it)))
	for _, other := range others[:ahead] {
		c = c.after(puts(turnedItem(which, other)))
	}
	return c.cache()
}

// TestVowItemsInCaches has one item in the cache of each who leads and of each tier, with none ahead of it, and with up to three.
func TestVowItemsInCaches(t *testing.T) {
	for which := range 2 {
		for _, held := range heldItems() {
			want := noItems
			if held.so {
				want = allKept
			}
			for ahead := range 4 {
				what := fmt.Sprintf("%s in part %d, %d ahead", itemText(held.it), which, ahead)
				c := cacheWith(which, held.it, ahead)
				for who := range 3 {
					w := twiceWritten().world()
					w.Leads[which][who].Cache = c
					wantVows(t, fmt.Sprint(what, ", lead ", who), w, want)
					w.Leads[which] = w.Leads[which][who : who+1]
					wantVows(t, fmt.Sprint(what, ", alone, lead ", who), w, want)
					// Nobody has an item of the other part.
					w = twiceWritten().world()
					w.Leads[1-which][who].Cache = c
					wantVows(t, fmt.Sprint(what, ", lead of the other part ", who), w, noneKept)
				}
				for id := range 2 {
					w := twiceWritten().world()
					w.Tiers[id].Cache = c
					wantVows(t, fmt.Sprint(what, ", tier ", id), w, want)
					w.Tiers[id].Joined, w.Leads = [2]bool{true, true}, make([][]impl.Lead, 2)
					wantVows(t, fmt.Sprint(what, ", joined, nobody leads, tier ", id), w, want)
				}
			}
		}
	}
}

// TestVowItemsAbove has items above the row of their key: none who leads has one, and if a tier does, a floor is too high too.
func TestVowItemsAbove(t *testing.T) {
	for which := range 2 {
		for _, it := range []impl.Item{item(2, 3, thing(18)), item(2, 3, impl.Val{}), item(4, 1, impl.Val{}), item(4, 1, thing(5)), item(18, 2, bond(4, 5)), item(22, 60, impl.Val{})} {
			what, c := fmt.Sprintf("%s in part %d", itemText(it), which), cacheWith(which, it, 1)
			for who := range 3 {
				w := twiceWritten().world()
				w.Leads[which][who].Cache = c
				wantVows(t, what, w, noneKept)
			}
			for id := range 2 {
				w := twiceWritten().world()
				w.Tiers[id].Cache = c
				wantVows(t, what, w, vows{false, false, true, true, false})
			}
			for _, kind := range []int{2, 4, 5} {
				w := twiceWritten().world()
				w.Net = []impl.Msg{itemMsg(msgOf(kind, 0, which, 0, 0), turnedItem(which, it))}
				wantVows(t, what, w, noItems)
			}
		}
	}
}

// TestVowItemsOnWay has one item in a message of each kind that brings one, to each tier, alone, and among 39 others.
func TestVowItemsOnWay(t *testing.T) {
	for which := range 2 {
		for _, held := range heldItems() {
			want := noItems
			if held.so {
				want = allKept
			}
			it := turnedItem(which, held.it)
			for _, kind := range []int{2, 4, 5} {
				for id := range 2 {
					what := fmt.Sprintf("kind %d, %s in part %d, tier %d", kind, itemText(it), which, id)
					w := twiceWritten().world()
					m := itemMsg(msgOf(kind, id, which, 0, 0), it)
					w.Net = []impl.Msg{m}
					wantVows(t, what, w, want)
					for _, place := range []int{0, 1, 20, 39} {
						w.Net = twiceWritten().withNet(40).net
						w.Net[place] = m
						wantVows(t, fmt.Sprint(what, " at ", place), w, want)
					}
					// A message of the other part has no item of this one.
					m.Part = 1 - which
					w.Net = []impl.Msg{m}
					wantVows(t, what+", of the other part", w, noneKept)
				}
			}
			// What was refused, and what comes of other lives and requests, was so too.
			w := twiceWritten().world()
			w.Net = []impl.Msg{codeMsg(itemMsg(msgOf(4, 1, which, 0, 0), it), 3), itemMsg(msgOf(2, 1, which, 1000, 1000), it)}
			wantVows(t, "refused, of another life", w, want)
			w.Net = w.Net[:1]
			wantVows(t, "refused", w, want)
		}
	}
}

// TestVowItemsOtherKinds has messages of the other kinds, whatever they tell: that is not asked.
func TestVowItemsOtherKinds(t *testing.T) {
	for which := range 2 {
		for id := range 2 {
			w := twiceWritten().world()
			for key := which; key < 24; key += 2 {
				for _, ver := range []int{0, 1, 3, 60} {
					w.Net = []impl.Msg{itemMsg(msgOf(6, id, which, 0, 0), item(key, ver, impl.Val{}))}
					wantVows(t, "gone", w, allKept)
				}
				w.Net = []impl.Msg{itemMsg(msgOf(1, id, which, 0, 0), item(key, 0, impl.Val{}))}
				wantVows(t, "fill", w, allKept)
			}
			for _, kind := range []int{1, 3, 6, 7, 8, 9, 10} {
				w.Net = []impl.Msg{plainMsgs(which)[kind]}
				wantVows(t, fmt.Sprint("kind ", kind), w, allKept)
			}
			for _, kind := range []int{2, 4, 5} {
				w.Net = []impl.Msg{plainMsgs(which)[kind]}
				wantVows(t, fmt.Sprint("kind ", kind), w, noItems)
			}
		}
	}
}

// TestVowItemsTold has items that were never so in what was told: VowAll asks that alone.
func TestVowItemsTold(t *testing.T) {
	for which := range 2 {
		for _, held := range heldItems() {
			it := turnedItem(which, held.it)
			w := twiceWritten().world()
			for _, told := range []impl.Told{toldHas(0, it), toldWrote(1, it, 0), toldWrote(0, it, 3)} {
				w.Told = []impl.Told{told}
				wantVows(t, itemText(it), w, vows{true, true, true, true, held.so})
			}
			w.Tiers[1].Cache = cacheWith(which, held.it, 0)
			wantVows(t, itemText(it)+", and in a cache", w, vows{held.so, true, true, true, held.so})
		}
	}
}

// TestVowItemsEach has each item of worlds in which all holds, with other values, and on its way with other Vers.
func TestVowItemsEach(t *testing.T) {
	came := map[string]int{}
	for what, m := range keptWorlds() {
		w := m.world()
		for _, spot := range itemSpots(&w) {
			it := *spot.it
			vals := otherVals(it.Key, it.Val)
			hows := slices.Sorted(maps.Keys(vals))
			for place := came[spot.what] % 5; place < len(hows); place += 5 {
				spot.it.Val = vals[hows[place]]
				wantVows(t, fmt.Sprintf("%s, %s, %s", what, spot.what, hows[place]), w, noItems)
			}
			if spot.net {
				for ver, had := range m.parts[it.Key%2].hadAll(it.Key) {
					*spot.it = had
					wantVows(t, fmt.Sprintf("%s, %s, as the %d", what, spot.what, ver), w, allKept)
					for _, other := range []int{0, it.Ver, ver + 1, 60} {
						spot.it.Ver = other
						so := hadTold(w.Shards[it.Key%2], *spot.it)
						wantVows(t, fmt.Sprintf("%s, %s, the %d as the %d", what, spot.what, ver, other), w, vows{so, true, true, true, so})
						came[fmt.Sprint("another Ver was so ", so)]++
					}
				}
			}
			*spot.it = it
			came[spot.what]++
		}
		wantVows(t, what, w, allKept)
	}
	for _, what := range []string{
		"lead 0 of the part 0", "lead 1 of the part 0", "lead 2 of the part 0", "lead 0 of the part 1", "lead 1 of the part 1", "tier 0", "tier 1", "kind 2 of the part 0", "kind 2 of the part 1",
		"kind 4 of the part 0", "kind 4 of the part 1", "kind 5 of the part 0", "kind 5 of the part 1", "another Ver was so true", "another Ver was so false",
	} {
		if came[what] < 3 {
			t.Errorf("%s came but %d times: %v", what, came[what], came)
		}
	}
}
