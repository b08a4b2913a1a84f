package tests

import (
	"fmt"
	"math"
	"slices"
	"testing"

	"loop.example/kith/impl"
)

func TestCacheOpen(t *testing.T) {
	if impl.CacheMax != 4 {
		t.Errorf("%d items", impl.CacheMax)
	}
	got := impl.CacheOpen()
	if len(got.Items) != 0 || !slices.Equal(got.Floors, make([]int, 24)) || !impl.CacheOk(got) {
		t.Errorf("got %s", cacheText(got))
	}
}

// moreRightCaches are caches that are ok, those too that have an item of each key, each Ver and each number that is an edge.
func moreRightCaches() map[string]impl.Cache {
	caches := map[string]impl.Cache{}
	for what, m := range rightCaches() {
		caches[what] = m.cache()
		caches[what+", empty lists"] = emptyCacheLists(m.cache())
	}
	for key := range 24 {
		for _, ver := range []int{0, 1, 59, 60} {
			v := bond(7, 1000, 0, 0)
			if key < 8 {
				v = thing(1000000)
			}
			caches[fmt.Sprintf("key %d, ver %d", key, ver)] = cacheModel{}.after(puts(item(key, ver, v))).cache()
		}
	}
	// Nothing but zeros is an item too: nobody's number was written yet.
	caches["nothing, first"] = cacheModel{}.after(puts(item(18, 7, bond(3, 5))), puts(impl.Item{})).cache()
	caches["nothing, last"] = cacheModel{}.after(puts(impl.Item{}), puts(item(18, 7, bond(3, 5)))).cache()
	caches["items of one Ver"] = cacheModel{}.after(puts(item(9, 3, bond())), puts(item(8, 3, bond())), puts(item(7, 3, thing(0))), puts(item(6, 3, thing(0)))).cache()
	return caches
}

// emptyCacheLists is a cache with empty lists in the place of nil.
func emptyCacheLists(c impl.Cache) impl.Cache {
	c.Items, c.Floors = append([]impl.Item{}, c.Items...), append([]int{}, c.Floors...)
	for place, it := range c.Items {
		c.Items[place].Val.Kin = append([]impl.Edge{}, it.Val.Kin...)
	}
	return c
}

// wrongFloors are changes after which the floors of a cache are not right.
func wrongFloors() map[string]func(c *impl.Cache) {
	changes := map[string]func(c *impl.Cache){
		"no floors":               func(c *impl.Cache) { c.Floors = nil },
		"a floor too few":         func(c *impl.Cache) { c.Floors = c.Floors[:23] },
		"the first floor is gone": func(c *impl.Cache) { c.Floors = c.Floors[1:] },
		"a floor too many":        func(c *impl.Cache) { c.Floors = append(c.Floors, 0) },
		"twice as many":           func(c *impl.Cache) { c.Floors = slices.Concat(c.Floors, c.Floors) },
		"a floor below an item":   func(c *impl.Cache) { c.Floors[c.Items[0].Key]-- },
		"a floor above an item":   func(c *impl.Cache) { c.Floors[c.Items[3].Key]++ },
		"no floor of an item":     func(c *impl.Cache) { c.Floors[c.Items[1].Key] = 0 },
		"the floor of another": func(c *impl.Cache) {
			c.Floors[c.Items[0].Key], c.Floors[c.Items[1].Key] = c.Items[1].Ver, c.Items[0].Ver
		},
		"no items, a floor less": func(c *impl.Cache) { *c = impl.Cache{Floors: make([]int, 23)} },
		"no items, a floor more": func(c *impl.Cache) { *c = impl.Cache{Floors: make([]int, 25)} },
		"nothing":                func(c *impl.Cache) { *c = impl.Cache{} },
		"empty":                  func(c *impl.Cache) { *c = impl.Cache{Items: []impl.Item{}, Floors: []int{}} },
	}
	for _, floor := range []int{-1, 61, -60, math.MaxInt, math.MinInt} {
		for _, key := range []int{0, 12, 23} {
			changes[fmt.Sprintf("a floor of %d, key %d", floor, key)] = func(c *impl.Cache) { c.Floors[key] = floor }
			changes[fmt.Sprintf("a floor of %d alone, key %d", floor, key)] = func(c *impl.Cache) { c.Items, c.Floors[key] = nil, floor }
		}
	}
	return changes
}

// withItem gives a cache an item at a place, and its key, if there is one, that floor.
func withItem(c *impl.Cache, place int, it impl.Item) {
	c.Items[place] = it
	if 0 <= it.Key && it.Key < len(c.Floors) {
		c.Floors[it.Key] = it.Ver
	}
}

// wrongItems are changes after which the items of a cache are not right.
func wrongItems() map[string]func(c *impl.Cache) {
	changes := map[string]func(c *impl.Cache){
		"five items": func(c *impl.Cache) {
			c.Items = append(c.Items, impl.Item{})
			withItem(c, 4, item(4, 2, thing(4)))
		},
		"twice as many items":      func(c *impl.Cache) { c.Items = slices.Concat(c.Items, c.Items) },
		"the first once more":      func(c *impl.Cache) { c.Items[3] = c.Items[0] },
		"one once more beside it":  func(c *impl.Cache) { c.Items[2] = c.Items[1] },
		"two alone of one key":     func(c *impl.Cache) { c.Items = []impl.Item{c.Items[0], c.Items[0]} },
		"two that differ of a key": func(c *impl.Cache) { c.Items[2] = item(c.Items[1].Key, c.Items[1].Ver, bond(6, 6)) },
		"older of one key": func(c *impl.Cache) {
			it := c.Items[1]
			it.Ver--
			c.Items[2] = it
		},
		"newer of one key, behind": func(c *impl.Cache) { c.Items[3] = item(c.Items[2].Key, c.Items[2].Ver+1, bond(6, 6)) },
		"newer of one key, ahead":  func(c *impl.Cache) { c.Items[0] = item(c.Items[1].Key, c.Items[1].Ver+1, bond(6, 6)) },
	}
	for what, it := range wrongItemList() {
		for place := range 4 {
			changes[fmt.Sprintf("%s, at %d", what, place)] = func(c *impl.Cache) { withItem(c, place, it) }
		}
		changes[what+", alone"] = func(c *impl.Cache) {
			*c = impl.Cache{Items: make([]impl.Item, 1), Floors: make([]int, 24)}
			withItem(c, 0, it)
		}
	}
	for place := range 4 {
		for _, ver := range []int{-1, 1} {
			changes[fmt.Sprintf("the Ver %d off at %d", ver, place)] = func(c *impl.Cache) { c.Items[place].Ver += ver }
		}
	}
	return changes
}

// wrongItemList are items that are not right.
func wrongItemList() map[string]impl.Item {
	items := map[string]impl.Item{
		"a number beside kin": item(20, 5, impl.Val{Num: 1, Kin: edges(1, 2)}),
		"kin beside a number": item(4, 5, impl.Val{Num: 1, Kin: edges(1, 2)}),
	}
	for _, ver := range []int{-1, 61, 62, math.MaxInt, math.MinInt} {
		items[fmt.Sprintf("a Ver of %d", ver)] = item(4, ver, thing(4))
		items[fmt.Sprintf("a Ver of %d of young", ver)] = item(20, ver, bond(1, 2))
	}
	for _, key := range []int{-1, 24, 25, -2, math.MaxInt, math.MinInt} {
		items[fmt.Sprintf("the key %d with nothing", key)] = item(key, 0, impl.Val{})
		items[fmt.Sprintf("the key %d with a number", key)] = item(key, 5, thing(4))
		items[fmt.Sprintf("the key %d with kin", key)] = item(key, 5, bond(1, 2))
	}
	for _, num := range []int{-1, 1000001, math.MaxInt, math.MinInt} {
		items[fmt.Sprintf("a number of %d", num)] = item(4, 5, thing(num))
	}
	for _, key := range []int{0, 7} {
		items[fmt.Sprintf("kin of the key %d", key)] = item(key, 5, bond(1, 2))
	}
	for _, key := range []int{8, 15, 16, 23} {
		items[fmt.Sprintf("a number of the key %d", key)] = item(key, 5, thing(1))
	}
	for what, list := range wrongEdges() {
		items["elders: "+what] = item(12, 5, impl.Val{Kin: list})
		items["young: "+what] = item(20, 5, impl.Val{Kin: list})
	}
	return items
}

// wrongCaches are caches that are not ok: each is one of four items but for one thing that CacheOk asks.
func wrongCaches() map[string]impl.Cache {
	caches := map[string]impl.Cache{}
	for _, changes := range []map[string]func(c *impl.Cache){wrongFloors(), wrongItems()} {
		for what, change := range changes {
			c := cacheModel{}.after(puts(item(2, 3, thing(17))), puts(item(11, 3, bond(2, 9, 4, 5))), puts(item(18, 7, bond(3, 5))), puts(item(5, 4, thing(3))), floors(9, 8)).cache()
			change(&c)
			caches[what] = c
		}
	}
	return caches
}

func TestCacheOk(t *testing.T) {
	for what, c := range moreRightCaches() {
		if !impl.CacheOk(c) {
			t.Errorf("%s: %s is ok", what, cacheText(c))
		}
	}
	for what, c := range wrongCaches() {
		if impl.CacheOk(c) {
			t.Errorf("%s: %s is not ok", what, cacheText(c))
		}
	}
}

// TestCacheOkOfMany has lists that are far longer than any that is ok.
func TestCacheOkOfMany(t *testing.T) {
	right := rightCaches()["four"].cache()
	long := slices.Repeat(edges(1, 2), 100000)
	for what, c := range map[string]impl.Cache{
		"items":  {Items: slices.Repeat(right.Items, 100000), Floors: right.Floors},
		"floors": {Items: right.Items, Floors: make([]int, 100000)},
		"kin":    {Items: []impl.Item{item(20, 0, impl.Val{Kin: long})}, Floors: make([]int, 24)},
	} {
		if impl.CacheOk(c) {
			t.Errorf("so many %s are not ok", what)
		}
	}
	if got, put := impl.CachePut(right, item(20, 9, impl.Val{Kin: long})); put || !sameCache(got, right) {
		t.Errorf("so many kin can't be put: %s", cacheText(got))
	}
}

// TestCacheOfWrong has nothing, and false, of what is not ok, whatever is asked.
func TestCacheOfWrong(t *testing.T) {
	steps := []cacheStep{gets(-1), gets(24), drops(-1), drops(24), floors(-1, 5), floors(24, 5), puts(item(-1, 5, impl.Val{})), puts(item(24, 5, impl.Val{})), puts(item(4, 61, thing(4)))}
	for key := range 24 {
		steps = append(steps, gets(key), drops(key), floors(key, 0), floors(key, 9), floors(key, 60), puts(item(key, 0, impl.Val{})), puts(item(key, 9, impl.Val{})), puts(item(key, 60, impl.Val{})))
	}
	for what, c := range wrongCaches() {
		for _, st := range steps {
			want := impl.Cache{}
			if st.what == "get" {
				want = c // no cache is answered
			}
			if got, answer := doCache(c, st); !sameCache(got, want) || !isNoItem(answer.item) || answer.is {
				t.Fatalf("%s, %v: got %s, %v", what, st, cacheText(got), answer)
			}
		}
	}
}

// otherCaches are caches that differ from the one that is given in one thing each.
func otherCaches(c impl.Cache) map[string]impl.Cache {
	others := map[string]impl.Cache{}
	change := func(what string, do func(c *impl.Cache)) {
		other := keptCache(c)
		do(&other)
		others[what] = other
	}
	for key := range c.Floors {
		change(fmt.Sprintf("floor %d", key), func(c *impl.Cache) { c.Floors[key]++ })
	}
	for place := range c.Items {
		change(fmt.Sprintf("key at %d", place), func(c *impl.Cache) { c.Items[place].Key++ })
		change(fmt.Sprintf("ver at %d", place), func(c *impl.Cache) { c.Items[place].Ver++ })
		change(fmt.Sprintf("num at %d", place), func(c *impl.Cache) { c.Items[place].Val.Num++ })
		change(fmt.Sprintf("kin more at %d", place), func(c *impl.Cache) { c.Items[place].Val.Kin = append(c.Items[place].Val.Kin, impl.Edge{}) })
		change(fmt.Sprintf("no item at %d", place), func(c *impl.Cache) { c.Items = slices.Delete(c.Items, place, place+1) })
		change(fmt.Sprintf("one more at %d", place), func(c *impl.Cache) { c.Items = slices.Insert(c.Items, place, impl.Item{}) })
		for spot := range c.Items[place].Val.Kin {
			change(fmt.Sprintf("who %d at %d", spot, place), func(c *impl.Cache) { c.Items[place].Val.Kin[spot].Who++ })
			change(fmt.Sprintf("time %d at %d", spot, place), func(c *impl.Cache) { c.Items[place].Val.Kin[spot].At++ })
		}
		if place > 0 {
			change(fmt.Sprintf("the items at %d turned", place), func(c *impl.Cache) {
				c.Items[place-1], c.Items[place] = c.Items[place], c.Items[place-1]
			})
		}
	}
	change("one item more", func(c *impl.Cache) { c.Items = append(c.Items, impl.Item{}) })
	change("a floor less", func(c *impl.Cache) { c.Floors = c.Floors[:23] })
	change("a floor more", func(c *impl.Cache) { c.Floors = append(c.Floors, 0) })
	return others
}

func TestCacheSame(t *testing.T) {
	caches := moreRightCaches()
	// Caches that are not ok are asked too.
	for what, c := range wrongCaches() {
		caches[what] = c
	}
	for a, c := range caches {
		if !impl.CacheSame(c, emptyCacheLists(c)) || !impl.CacheSame(emptyCacheLists(c), c) {
			t.Errorf("%s: an empty list is the same as nil", a)
		}
		for b, other := range caches {
			if got, want := impl.CacheSame(c, other), sameCache(c, other); got != want {
				t.Errorf("%s and %s: got %v, want %v", a, b, got, want)
			}
		}
	}
}

// TestCacheSameOneOff has one thing changed at each place.
func TestCacheSameOneOff(t *testing.T) {
	for _, which := range []string{"open", "one", "four", "four full", "all of it"} {
		c := rightCaches()[which].cache()
		for what, other := range otherCaches(c) {
			if impl.CacheSame(c, other) || impl.CacheSame(other, c) {
				t.Errorf("%s: another %s", which, what)
			}
			if !impl.CacheSame(other, keptCache(other)) {
				t.Errorf("%s, %s: not the same as itself", which, what)
			}
		}
	}
}
