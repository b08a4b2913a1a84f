package tests

import (
	"fmt"
	"math"

	"loop.example/kith/impl"
)

// toldHas is an answer to a read, toldWrote one to a write.
func toldHas(tier int, it impl.Item) impl.Told {
	return impl.Told{Tier: tier, Item: it}
}

func toldWrote(tier int, it impl.Item, code int) impl.Told {
	return impl.Told{Tier: tier, Item: it, Wrote: true, Code: code}
}

// toldVers are answers of one tier of one key, by their Vers.
func toldVers(tier int, key int, vers ...int) []impl.Told {
	var list []impl.Told
	for _, ver := range vers {
		list = append(list, toldHas(tier, item(key, ver, impl.Val{})))
	}
	return list
}

// wasTold says whether a key once had what an item says, in the document's words; of parts the program is asked.
func wasTold(s impl.Shard, it impl.Item) bool {
	return impl.ShardOk(s) && among(it.Key, 0, 23) && itemTold(it) && it.Key%2 == s.Part && hadTold(s, it)
}

// hadTold says the same of a part that is ok, and of an item that is right, of a key of it.
func hadTold(s impl.Shard, it impl.Item) bool {
	if it.Ver == 0 && isNothing(it.Val) {
		return true
	}
	for _, c := range s.Log {
		if c.Key == it.Key && c.Ver == it.Ver {
			return sameVal(c.Val, it.Val)
		}
	}
	return false
}

// trueTold says whether all that was told in a world was so.
func trueTold(w impl.World) bool {
	if !worldTold(w) {
		return false
	}
	for _, told := range w.Told {
		if !hadTold(w.Shards[told.Item.Key%2], told.Item) {
			return false
		}
	}
	return true
}

// versTold are the Vers of all answers of a tier of a key.
func versTold(list []impl.Told, tier int, key int) []int {
	var vers []int
	for _, told := range list {
		if told.Tier == tier && told.Item.Key == key {
			vers = append(vers, told.Item.Ver)
		}
	}
	return vers
}

// lastTold is the greatest of these, at least 0.
func lastTold(list []impl.Told, tier int, key int) int {
	last := 0
	for _, ver := range versTold(list, tier, key) {
		last = max(last, ver)
	}
	return last
}

// risesTold says whether no answer's Ver is below the greatest of those ahead of it.
func risesTold(list []impl.Told) bool {
	for place, told := range list {
		if told.Item.Ver < lastTold(list[:place], told.Tier, told.Item.Key) {
			return false
		}
	}
	return true
}

// hadAll is all that a key of the part had, nothing ahead of what was written first.
func (p partModel) hadAll(key int) []impl.Item {
	var all []impl.Item
	for ver := range len(p.had[key]) + 1 {
		all = append(all, p.itemAt(key, ver))
	}
	return all
}

// otherVals are values that differ from one in one thing each, all of which the key can have.
func otherVals(key int, v impl.Val) map[string]impl.Val {
	others := map[string]impl.Val{}
	if key < 8 {
		for _, num := range []int{v.Num - 1, v.Num + 1, v.Num + 10, 0, 1000000} {
			if num != v.Num && among(num, 0, 1000000) {
				others[fmt.Sprint("the number ", num)] = thing(num)
			}
		}
		return others
	}
	for who := range 8 {
		kin := kinModel{-1, -1, -1, -1, -1, -1, -1, -1}
		for _, e := range v.Kin {
			kin[e.Who] = e.At
		}
		at := kin[who]
		for _, other := range []int{-1, at - 1, at + 1, 500} {
			if other != at && among(other, -1, 1000) {
				kin[who] = other
				others[fmt.Sprintf("%d at %d, not at %d", who, other, at)] = impl.Val{Kin: kin.list()}
			}
		}
		for person := range 8 {
			// Somebody else since the same time.
			if kin[who] = at; at >= 0 && kin[person] < 0 {
				kin[who], kin[person] = -1, at
				others[fmt.Sprintf("%d in the place of %d", person, who)] = impl.Val{Kin: kin.list()}
				kin[person] = -1
			}
		}
	}
	return others
}

// withSo has so many answers told, all of which were so: of both tiers and of keys of both parts, to reads and to writes.
func (w worldModel) withSo(many int) worldModel {
	var had []impl.Item
	for key := range 24 {
		had = append(had, w.parts[key%2].hadAll(key)...)
	}
	w.told = nil
	for at := range many {
		told := toldHas(at%2, had[at*7%len(had)])
		if at%3 == 0 {
			told = toldWrote(at%2, told.Item, at/3%6)
		}
		w.told = append(w.told, told)
	}
	return w
}

// anyTold is a list of answers, with some numbers that no tier, no key and no Ver can have.
func (c *chooser) anyTold(many int) []impl.Told {
	var list []impl.Told
	for range many {
		tier, key := []int{0, 1, 0, 1, -1, 2, math.MinInt, math.MaxInt}[c.pick(8)], []int{2, 18, 0, 23, -1, 24, math.MinInt, math.MaxInt}[c.pick(8)]
		ver := []int{0, 1, 1, 2, 3, 60, 61, -1, math.MinInt, math.MaxInt}[c.pick(10)]
		list = append(list, impl.Told{Tier: tier, Item: item(key, ver, []impl.Val{{}, thing(5), bond(3, 5)}[c.pick(3)]), Wrote: c.pick(2) > 0, Code: c.pick(9) - 1})
	}
	return list
}
