package tests

import (
	"fmt"
	"testing"

	"loop.example/kith/impl"
)

// noFloors is what holds, if a floor is too high or too low.
var noFloors = vows{true, false, true, true, false}

// floorsWant is what is wanted, if all else holds.
func floorsWant(kept bool) vows {
	if kept {
		return allKept
	}
	return noFloors
}

// withFloor has another floor in a cache, and no item of that key.
func withFloor(spot cacheSpot, key int, floor int) {
	m := cacheModelOf(*spot.cache)
	m.put[key], m.floor[key] = 0, floor
	*spot.cache = m.cache()
}

// TestVowFloorsEach has each floor of each cache as great as the row's Ver, 1 above it, 1 below it, and others.
func TestVowFloorsEach(t *testing.T) {
	came := map[string]int{}
	for what, m := range keptWorlds() {
		for place := range cacheSpots(new(m.world())) {
			for key := range 24 {
				w := m.world()
				spot, row := cacheSpots(&w)[place], w.Shards[key%2].Rows[key].Ver
				for _, floor := range []int{row, row + 1, row - 1, 0, 60} {
					if !among(floor, 0, 60) {
						continue
					}
					low := spot.tier && w.Tiers[spot.which].Joined[key%2] && floor < lastTold(w.Told, spot.which, key)
					withFloor(spot, key, floor)
					wantVows(t, fmt.Sprintf("%s, %s, key %d, floor %d", what, spot.what, key, floor), w, floorsWant(floor <= row && !low))
					came[fmt.Sprintf("tier %v, part %d, high %v, low %v", spot.tier, key%2, floor > row, low)]++
				}
			}
		}
	}
	for _, what := range []string{
		"tier true, part 0, high true, low false", "tier true, part 1, high true, low false", "tier true, part 0, high false, low true", "tier true, part 1, high false, low true", "tier true, part 0, high false, low false", "tier true, part 1, high false, low false",
		"tier false, part 0, high true, low false", "tier false, part 1, high true, low false", "tier false, part 0, high false, low false", "tier false, part 1, high false, low false",
	} {
		if came[what] < 20 {
			t.Errorf("%s came but %d times: %v", what, came[what], came)
		}
	}
}

// TestVowFloorsRow has one floor alone, in a world where a key of each part was written three times.
func TestVowFloorsRow(t *testing.T) {
	three := openWorld().written(0, set(2, 5), set(2, 6), set(2, 7)).written(1, set(3, 5), set(3, 6), set(3, 7)).after(eventRises(0), eventRises(1), eventRises(1))
	three.told = nil
	for which := range 2 {
		three.tiers[which] = tierModel{id: which}
		for who := range three.leads[which] {
			three = three.withLead(which, who, leadModel{term: len(three.leads[which]) - who})
		}
	}
	for place := range cacheSpots(new(three.world())) {
		for key := range 24 {
			row := 0
			if key == 2 || key == 3 {
				row = 3
			}
			for _, floor := range []int{0, 1, 2, 3, 4, 59, 60} {
				w := three.world()
				spot := cacheSpots(&w)[place]
				spot.cache.Floors[key] = floor
				wantVows(t, fmt.Sprintf("%s, key %d, floor %d", spot.what, key, floor), w, floorsWant(floor <= row))
				// It is asked too of who has joined, or isn't up any more, or can't write.
				w.Tiers[0].Joined, w.Tiers[1].Joined = [2]bool{true, true}, [2]bool{true, true}
				w.Leads[0][0].Up, w.Leads[1][2].Up = true, true
				wantVows(t, fmt.Sprintf("joined, %s, key %d, floor %d", spot.what, key, floor), w, floorsWant(floor <= row))
			}
		}
	}
}

// lowWorld has of each part a key that was written five times, nothing told, and both tiers with such floors of these keys, in parts that are joined or not.
func lowWorld(floor int, joined [2]bool) impl.World {
	w := impl.WorldOpen()
	for which := range 2 {
		for ver := 1; ver <= 5; ver++ {
			withWritten(&w.Shards[which], 2+which, ver, thing(ver))
		}
		w.Leads[which][0].Cache.Floors[2+which] = 1
	}
	for id := range 2 {
		w.Tiers[id].Joined = joined
		w.Tiers[id].Cache.Floors[2], w.Tiers[id].Cache.Floors[3] = floor, floor
	}
	return w
}

// TestVowFloorsTold has floors as great as what was told last, and below and above it, of parts that are joined and not joined.
func TestVowFloorsTold(t *testing.T) {
	for floor := range 6 {
		for _, joined := range [][2]bool{{true, true}, {true, false}, {false, true}, {false, false}} {
			wantVows(t, "nothing told", lowWorld(floor, joined), allKept)
			for id := range 2 {
				for _, key := range []int{2, 3} {
					for last := 1; last <= 5; last++ {
						what := fmt.Sprintf("floor %d, joined %v, the tier %d told %d of %d", floor, joined, id, last, key)
						w := lowWorld(floor, joined)
						kept := !joined[key%2] || floor >= last
						has := toldHas(id, item(key, last, thing(last)))
						w.Told = []impl.Told{has}
						wantVows(t, what, w, floorsWant(kept))
						// Whether it was written, and what else was told, is not asked.
						w.Told = []impl.Told{toldWrote(id, has.Item, 3), toldHas(id, item(key+2, 0, impl.Val{}))}
						wantVows(t, what+", refused", w, floorsWant(kept))
						// Of who leads no floor is too low, nor of the other tier.
						w.Tiers[id].Cache.Floors[key] = last
						wantVows(t, what+", the floor of the other one alone", w, allKept)
						w.Tiers[id].Cache.Floors[key] = last - 1
						w.Tiers[1-id].Cache.Floors[key] = 5
						wantVows(t, what+", the floor of that one alone", w, floorsWant(!joined[key%2]))
					}
				}
			}
		}
	}
}

// TestVowFloorsLast has several answers: the greatest counts, wherever it stands, and those of that tier and key alone.
func TestVowFloorsLast(t *testing.T) {
	tells := func(id int, key int, vers ...int) []impl.Told {
		var list []impl.Told
		for _, ver := range vers {
			v := thing(ver)
			list = append(list, toldHas(id, item(key, ver, v)))
		}
		return list
	}
	for _, c := range []struct {
		vers  []int
		last  int
		rises bool
	}{{[]int{0}, 0, true}, {[]int{0, 0, 1}, 1, true}, {[]int{1, 2, 3}, 3, true}, {[]int{3, 3, 3}, 3, true}, {[]int{3, 1}, 3, false}, {[]int{1, 4, 2}, 4, false}, {[]int{5, 0, 1, 2}, 5, false}, {[]int{2, 4, 4, 1, 4}, 4, false}} {
		for floor := range 6 {
			for _, key := range []int{2, 3} {
				for id := range 2 {
					w := lowWorld(floor, [2]bool{true, true})
					w.Told = tells(id, key, c.vers...)
					kept := floor >= c.last
					wantVows(t, fmt.Sprintf("%v, floor %d", c.vers, floor), w, vows{true, kept, true, true, kept && c.rises})
					// The other tier's answers of that key, and this one's of the other key, don't count.
					w.Tiers[1-id].Cache.Floors[key], w.Tiers[id].Cache.Floors[5-key] = 5, 5
					for _, ver := range []int{5, 5, 5} {
						w.Told = append(w.Told, tells(1-id, key, ver)...)
						w.Told = append(tells(id, 5-key, ver), w.Told...)
					}
					wantVows(t, fmt.Sprintf("%v, floor %d, in a crowd", c.vers, floor), w, vows{true, kept, true, true, kept && c.rises})
				}
			}
		}
	}
}

// TestVowFloorsMost has keys that were written 60 times: no floor is above that.
func TestVowFloorsMost(t *testing.T) {
	for which := range 2 {
		w := impl.WorldOpen()
		withSets(&w.Shards[which], 60)
		for place := range cacheSpots(&w) {
			for _, floor := range []int{0, 59, 60} {
				cacheSpots(&w)[place].cache.Floors[which] = floor
				wantVows(t, fmt.Sprint("floor ", floor), w, allKept)
			}
		}
		w.Tiers[0].Joined[which], w.Told = true, []impl.Told{toldHas(0, item(which, 60, thing(59)))}
		wantVows(t, "all 60 told", w, allKept)
		w.Tiers[0].Cache.Floors[which] = 59
		wantVows(t, "all 60 told, floor 59", w, noFloors)
	}
}
