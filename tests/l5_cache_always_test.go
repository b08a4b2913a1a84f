package tests

import (
	"fmt"
	"testing"

	"loop.example/kith/impl"
)

// val is something that a key can have; of twelve, one it can't.
func (c *chooser) val(key int) impl.Val {
	if c.pick(12) == 0 {
		key = (key + 8) % 24
	}
	if key < 8 {
		return thing([]int{0, 1, 17, 999999, 1000000}[c.pick(5)])
	}
	lists := rightBonds()
	return lists[c.pick(len(lists))]
}

// cacheStep is some call of a cache, mostly of a few keys, of which there are so many, and of Vers that are near their floors.
func (c *chooser) cacheStep(m cacheModel, many int) cacheStep {
	key := []int{11, 3, 20, 7, 8, 0, 15, 16, 23}[c.pick(many)]
	ver := m.floor[key] + c.pick(4) - 1
	switch c.pick(16) {
	case 0:
		key = c.pick(28) - 2
	case 1:
		ver = c.pick(65) - 2
	}
	switch c.pick(8) {
	case 0:
		return gets(key)
	case 1:
		return floors(key, ver)
	case 2:
		return drops(key)
	}
	return puts(item(key, ver, c.val(key)))
}

// TestCacheAlways is promise 5: whatever is put, dropped or crowded out, the cache is that of the model, and nothing older than what was told or floored comes again.
func TestCacheAlways(t *testing.T) {
	c := chooser(5)
	came := map[string]int{}
	for run := range 120 {
		cache, m := impl.CacheOpen(), cacheModel{}
		var newest [24]int
		for range 150 {
			st := c.cacheStep(m, 1+run%9)
			had := len(cache.Items)
			_, answer := m.do(st)
			cache, m = wantCacheStep(t, "some", cache, m, st)
			came[fmt.Sprintf("%s %v", st.what, answer.is)]++
			came[fmt.Sprintf("%s from %d to %d items", st.what, had, len(cache.Items))]++
			for key := range 24 {
				it, has := impl.CacheGet(cache, key)
				if has && it.Ver < newest[key] {
					t.Fatalf("%v: %v is told behind a Ver of %d", st, it, newest[key])
				}
				newest[key] = max(newest[key], cache.Floors[key])
			}
		}
	}
	for _, what := range []string{"get true", "get false", "put true", "put false", "floor false", "drop false",
		"put from 0 to 1 items", "put from 3 to 4 items", "put from 4 to 4 items", "drop from 4 to 3 items", "drop from 1 to 0 items", "floor from 1 to 0 items", "floor from 4 to 3 items", "floor from 4 to 4 items"} {
		if came[what] < 20 {
			t.Errorf("%s came but %d times: %v", what, came[what], came)
		}
	}
}

// TestCacheEach has each of many calls of each cache that is ok.
func TestCacheEach(t *testing.T) {
	var steps []cacheStep
	for key := -1; key <= 24; key++ {
		steps = append(steps, gets(key), drops(key))
		for _, ver := range []int{-1, 0, 1, 2, 3, 4, 7, 8, 59, 60, 61} {
			steps = append(steps, floors(key, ver))
			for _, v := range []impl.Val{{}, thing(5), bond(3, 5), bond(2, 9, 4, 5), bond(2, 5, 4, 9), {Num: 1, Kin: edges(1, 2)}} {
				steps = append(steps, puts(item(key, ver, v)))
			}
		}
	}
	for what, m := range rightCaches() {
		for _, st := range steps {
			wantCacheStep(t, what, m.cache(), m, st)
		}
	}
}

// TestCacheShort has all ways to put, floor and drop of three keys, four calls long.
func TestCacheShort(t *testing.T) {
	var calls []cacheStep
	for _, key := range []int{0, 11, 23} {
		calls = append(calls, puts(item(key, 1, impl.Val{})), puts(item(key, 2, impl.Val{})), floors(key, 2), drops(key))
	}
	var goOn func(c impl.Cache, m cacheModel, left int)
	goOn = func(c impl.Cache, m cacheModel, left int) {
		if left == 0 {
			return
		}
		for _, st := range calls {
			next, model := wantCacheStep(t, "short", c, m, st)
			goOn(next, model, left-1)
		}
	}
	goOn(impl.CacheOpen(), cacheModel{}, 4)
}
