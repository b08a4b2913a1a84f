package tests

import (
	"fmt"
	"math"
	"testing"

	"loop.example/kith/impl"
)

// wantCache tells a cache whose items, by their keys, or whose floors, of some keys, are not those that are wanted.
func wantCache(t *testing.T, what string, c impl.Cache, keys []int, floors map[int]int) {
	t.Helper()
	wrong := !impl.CacheOk(c) || len(c.Items) != len(keys)
	for place := range min(len(c.Items), len(keys)) {
		wrong = wrong || c.Items[place].Key != keys[place]
	}
	for key, floor := range c.Floors {
		wrong = wrong || floor != floors[key]
	}
	if wrong {
		t.Errorf("%s: got %s, want the items of %v, floors %v", what, cacheText(c), keys, floors)
	}
}

// putAll puts items, one behind the other, none of which is barred.
func putAll(t *testing.T, c impl.Cache, items ...impl.Item) impl.Cache {
	t.Helper()
	for _, it := range items {
		next, put := impl.CachePut(c, it)
		if !put {
			t.Fatalf("%v is not put into %s", it, cacheText(c))
		}
		c = next
	}
	return c
}

// TestCacheSteps tells what comes of puts, floors and drops, number by number.
func TestCacheSteps(t *testing.T) {
	c := putAll(t, impl.CacheOpen(), item(3, 1, thing(17)))
	wantCache(t, "one", c, []int{3}, map[int]int{3: 1})
	c = putAll(t, c, item(11, 2, bond(2, 9)), item(18, 5, bond(3, 5)), item(0, 0, thing(0)))
	wantCache(t, "four", c, []int{0, 18, 11, 3}, map[int]int{3: 1, 11: 2, 18: 5})
	c = putAll(t, c, item(23, 7, bond(1, 1)))
	wantCache(t, "the fifth", c, []int{23, 0, 18, 11}, map[int]int{3: 1, 11: 2, 18: 5, 23: 7})
	c = putAll(t, c, item(18, 5, bond(3, 6)))
	wantCache(t, "once more", c, []int{18, 23, 0, 11}, map[int]int{3: 1, 11: 2, 18: 5, 23: 7})
	if it, has := impl.CacheGet(c, 18); !has || !sameItem(it, item(18, 5, bond(3, 6))) {
		t.Errorf("once more: got %v", it)
	}
	c = impl.CacheFloor(c, 23, 8)
	wantCache(t, "a floor", c, []int{18, 0, 11}, map[int]int{3: 1, 11: 2, 18: 5, 23: 8})
	c = impl.CacheDrop(c, 0)
	wantCache(t, "dropped", c, []int{18, 11}, map[int]int{3: 1, 11: 2, 18: 5, 23: 8})
	if got, put := impl.CachePut(c, item(3, 0, thing(17))); put || !sameCache(got, c) {
		t.Errorf("older than what was crowded out: %s", cacheText(got))
	}
	if got, put := impl.CachePut(c, item(23, 7, bond(1, 1))); put || !sameCache(got, c) {
		t.Errorf("older than the floor: %s", cacheText(got))
	}
	c = putAll(t, c, item(23, 8, bond()), item(3, 1, thing(17)))
	wantCache(t, "put anew", c, []int{3, 23, 18, 11}, map[int]int{3: 1, 11: 2, 18: 5, 23: 8})
}

// TestCacheCrowd has items of all keys put, each behind the other: the last four are there, and all floors stay.
func TestCacheCrowd(t *testing.T) {
	c, floors := impl.CacheOpen(), map[int]int{}
	var keys []int
	for key := range 24 {
		c = putAll(t, c, item(key, key+1, impl.Val{}))
		floors[key] = key + 1
		keys = append([]int{key}, keys...)
		wantCache(t, fmt.Sprintf("put %d", key), c, keys[:min(4, len(keys))], floors)
	}
	for key := range 24 {
		it, has := impl.CacheGet(c, key)
		if has != (key >= 20) || has && !sameItem(it, item(key, key+1, impl.Val{})) || !has && !isNoItem(it) {
			t.Errorf("key %d: got %v, %v", key, it, has)
		}
		if got, put := impl.CachePut(c, item(key, key, impl.Val{})); put || !sameCache(got, c) {
			t.Errorf("key %d: what is older than what it had is put: %s", key, cacheText(got))
		}
		if _, put := impl.CachePut(c, item(key, key+1, impl.Val{})); !put {
			t.Errorf("key %d: what is as old as its floor is not put", key)
		}
	}
}

// TestCachePutAgain has an item of each place put again, of the same Ver, of a greater and of a smaller one.
func TestCachePutAgain(t *testing.T) {
	list := []impl.Item{item(3, 5, thing(3)), item(11, 5, bond(2, 9)), item(18, 5, bond(3, 5)), item(7, 5, thing(7))}
	for count := 1; count <= 4; count++ {
		c := putAll(t, impl.CacheOpen(), list[:count]...)
		for put := range count {
			key := list[put].Key
			keys, floors := []int{key}, map[int]int{}
			for other := count - 1; other >= 0; other-- {
				floors[list[other].Key] = 5
				if other != put {
					keys = append(keys, list[other].Key)
				}
			}
			what := fmt.Sprintf("%d of %d", put, count)
			wantCache(t, what+", as it was", putAll(t, c, list[put]), keys, floors)
			wantCache(t, what+", nothing of the same Ver", putAll(t, c, item(key, 5, impl.Val{})), keys, floors)
			for _, ver := range []int{6, 60} {
				floors[key] = ver
				got := putAll(t, c, item(key, ver, impl.Val{}))
				wantCache(t, what+", a greater Ver", got, keys, floors)
				if it, has := impl.CacheGet(got, key); !has || !sameItem(it, item(key, ver, impl.Val{})) {
					t.Errorf("%s: got %v", what, it)
				}
			}
			for _, ver := range []int{4, 1, 0, -1} {
				if got, is := impl.CachePut(c, item(key, ver, list[put].Val)); is || !sameCache(got, c) {
					t.Errorf("%s, ver %d: got %s", what, ver, cacheText(got))
				}
			}
		}
	}
}

// TestCachePutVers has each Ver put above, at and below each floor, of a key that has an item and of one that has none.
func TestCachePutVers(t *testing.T) {
	for _, key := range []int{0, 7, 8, 15, 16, 23} {
		for _, floor := range []int{0, 1, 2, 30, 59, 60} {
			for what, m := range map[string]cacheModel{
				"an item":        cacheModel{}.after(puts(item(key, floor, impl.Val{}))),
				"none":           cacheModel{}.after(floors(key, floor)),
				"it was dropped": cacheModel{}.after(puts(item(key, floor, impl.Val{})), drops(key)),
				"other ones":     cacheModel{}.after(floors(key, floor), puts(item(1, 1, thing(1))), puts(item(9, 1, bond())), puts(item(17, 1, bond())), puts(item(2, 1, thing(1)))),
			} {
				for _, ver := range []int{math.MinInt, -1, 0, 1, floor - 1, floor, floor + 1, 59, 60, 61, math.MaxInt} {
					got, _ := wantCacheStep(t, what, m.cache(), m, puts(item(key, ver, impl.Val{})))
					if put := floor <= ver && ver <= 60; put != (len(got.Items) > 0 && got.Items[0].Key == key && got.Items[0].Ver == ver) {
						t.Errorf("%s, key %d, floor %d, ver %d: got %s", what, key, floor, ver, cacheText(got))
					}
				}
			}
		}
	}
}

// TestCachePutOfWrong has items that are not right: nothing is put, and nothing is gone.
func TestCachePutOfWrong(t *testing.T) {
	for what, m := range rightCaches() {
		c := m.cache()
		for which, it := range wrongItemList() {
			if got, put := impl.CachePut(c, it); put || !sameCache(got, c) {
				t.Errorf("%s, %s: got %s", what, which, cacheText(got))
			}
		}
	}
}

func TestCacheGet(t *testing.T) {
	for what, m := range rightCaches() {
		c := m.cache()
		for key := -1; key <= 24; key++ {
			it, has := impl.CacheGet(c, key)
			want, is := impl.Item{}, false
			for _, one := range c.Items {
				if one.Key == key {
					want, is = one, true
				}
			}
			if has != is || !sameItem(it, want) {
				t.Errorf("%s, key %d: got %v, %v, want %v, %v", what, key, it, has, want, is)
			}
		}
		for _, key := range noKeys() {
			if it, has := impl.CacheGet(c, key); has || !isNoItem(it) {
				t.Errorf("%s, key %d: got %v", what, key, it)
			}
		}
	}
}

// TestCacheFloor has each floor raised to each Ver: of a key whose item is the first one, the last one or the only one, of one that has none, and of none.
func TestCacheFloor(t *testing.T) {
	for what, m := range rightCaches() {
		c := m.cache()
		for key := range 24 {
			for ver := -2; ver <= 62; ver++ {
				got, _ := wantCacheStep(t, what, c, m, floors(key, ver))
				_, had := impl.CacheGet(c, key)
				_, has := impl.CacheGet(got, key)
				raised := c.Floors[key] < ver && ver <= 60
				if raised != (got.Floors[key] != c.Floors[key]) || raised && (got.Floors[key] != ver || has) || !raised && had != has {
					t.Errorf("%s, key %d, ver %d: got %s", what, key, ver, cacheText(got))
				}
			}
			for _, ver := range []int{math.MaxInt, math.MinInt} {
				if got := impl.CacheFloor(c, key, ver); !sameCache(got, c) {
					t.Errorf("%s, key %d, ver %d: got %s", what, key, ver, cacheText(got))
				}
			}
		}
		for _, key := range noKeys() {
			for _, ver := range []int{-1, 0, 1, 59, 60, 61} {
				if got := impl.CacheFloor(c, key, ver); !sameCache(got, c) {
					t.Errorf("%s, key %d, ver %d: got %s", what, key, ver, cacheText(got))
				}
			}
		}
	}
}

// TestCacheFloorAbove has a floor that is above what there is: nothing is told of the key until something as new comes.
func TestCacheFloorAbove(t *testing.T) {
	c := putAll(t, impl.CacheOpen(), item(18, 3, bond(3, 5)), item(4, 2, thing(4)))
	c = impl.CacheFloor(c, 18, 5)
	wantCache(t, "raised", c, []int{4}, map[int]int{18: 5, 4: 2})
	for ver := range 5 {
		got, put := impl.CachePut(c, item(18, ver, bond(3, 5)))
		if _, has := impl.CacheGet(got, 18); put || has || !sameCache(got, c) {
			t.Errorf("ver %d: got %s", ver, cacheText(got))
		}
	}
	wantCache(t, "a lesser floor", impl.CacheFloor(c, 18, 4), []int{4}, map[int]int{18: 5, 4: 2})
	wantCache(t, "dropped", impl.CacheDrop(c, 18), []int{4}, map[int]int{18: 5, 4: 2})
	c = putAll(t, c, item(18, 5, bond()))
	wantCache(t, "come", c, []int{18, 4}, map[int]int{18: 5, 4: 2})
	// A floor of what the key has leaves its item: it is as new as that.
	wantCache(t, "the same floor", impl.CacheFloor(c, 18, 5), []int{18, 4}, map[int]int{18: 5, 4: 2})
}

// TestCacheDrop has the first item dropped, the last one, the only one, none, and that of no key: all floors stay.
func TestCacheDrop(t *testing.T) {
	for what, m := range rightCaches() {
		c := m.cache()
		for key := range 24 {
			var keys []int
			for _, it := range c.Items {
				if it.Key != key {
					keys = append(keys, it.Key)
				}
			}
			floors := map[int]int{}
			for other, floor := range c.Floors {
				floors[other] = floor
			}
			got, _ := wantCacheStep(t, what, c, m, drops(key))
			wantCache(t, fmt.Sprintf("%s, key %d", what, key), got, keys, floors)
			if c.Floors[key] > 0 {
				if _, put := impl.CachePut(got, item(key, c.Floors[key]-1, impl.Val{})); put {
					t.Errorf("%s, key %d: what is older than its floor is put", what, key)
				}
			}
			if _, put := impl.CachePut(got, item(key, c.Floors[key], impl.Val{})); !put {
				t.Errorf("%s, key %d: what was dropped is not put again", what, key)
			}
		}
		for _, key := range noKeys() {
			if got := impl.CacheDrop(c, key); !sameCache(got, c) {
				t.Errorf("%s, key %d: got %s", what, key, cacheText(got))
			}
		}
	}
}
