package tests

import (
	"slices"
	"testing"

	"loop.example/kith/impl"
)

// roomyCache is a cache with room behind the ends of all its lists, all of memory of its own.
func roomyCache(c impl.Cache) impl.Cache {
	r := impl.Cache{Floors: behindEnd(c.Floors, 77)}
	for _, it := range c.Items {
		r.Items = append(r.Items, roomyItem(it))
	}
	r.Items = behindEnd(r.Items, roomyItem(item(77, 77, bond(5, 5))))
	return r
}

func roomyItem(it impl.Item) impl.Item {
	it.Val = roomyVal(it.Val)
	return it
}

// wholeCache is a copy of all memory of a cache, that behind the ends of its lists too.
func wholeCache(c impl.Cache) impl.Cache {
	c.Items, c.Floors = wholeList(c.Items), wholeList(c.Floors)
	for place, it := range c.Items {
		c.Items[place] = wholeItem(it)
	}
	return c
}

func wholeItem(it impl.Item) impl.Item {
	it.Val.Kin = wholeList(it.Val.Kin)
	return it
}

// keptCache is a cache that shares none with the one that is given.
func keptCache(c impl.Cache) impl.Cache {
	c.Items, c.Floors = slices.Clone(c.Items), slices.Clone(c.Floors)
	for place, it := range c.Items {
		c.Items[place].Val = copied(it.Val)
	}
	return c
}

// scribbleItems writes into all memory of items, each list of kin with marks of its own, and says whether each has still its marks then.
func scribbleItems(items []impl.Item) bool {
	all := items[:cap(items)]
	for which, it := range all {
		fillList(it.Val.Kin, impl.Edge{Who: 1000 + which, At: 5555})
	}
	apart := true
	for which, it := range all {
		for _, e := range it.Val.Kin[:cap(it.Val.Kin)] {
			apart = apart && e == impl.Edge{Who: 1000 + which, At: 5555}
		}
	}
	fillList(items, impl.Item{Key: 55})
	return apart
}

// scribbleCache writes into all memory of a cache, and says whether no two of its lists share any.
func scribbleCache(c impl.Cache) bool {
	fillList(c.Floors, 55)
	return scribbleItems(c.Items)
}

// cacheMemorySteps are calls that are barred and calls that are not, of keys that have items and of others.
func cacheMemorySteps() []cacheStep {
	steps := []cacheStep{puts(item(20, 60, bond(5, 3, 6, 2))), puts(item(11, 60, bond(1, 2))), puts(item(18, 60, bond())), puts(item(16, 60, bond(0, 0))), puts(item(0, 60, thing(3))),
		puts(item(20, 61, bond(5, 3))), puts(item(20, 0, bond(5, 3, 5, 3))), puts(item(23, 1, bond(5, 3))), puts(item(-1, 1, bond(5, 3))), puts(item(7, 5, bond(5, 3)))}
	for key := -1; key <= 24; key++ {
		steps = append(steps, gets(key), drops(key), floors(key, 60), floors(key, 0), floors(key, 61))
	}
	return steps
}

// wantCacheApart tells a call that writes into an argument, all memory of which is as before, or whose answer shares memory with one or with itself.
func wantCacheApart(t *testing.T, what string, c impl.Cache, before impl.Cache, st cacheStep) {
	t.Helper()
	given := cacheStep{what: st.what, item: roomyItem(st.item)}
	givenBefore := wholeItem(given.item)
	asBefore := func() bool {
		return sameCache(wholeCache(c), before) && sameItem(wholeItem(given.item), givenBefore)
	}
	got, answer := doCache(c, given)
	if !asBefore() {
		t.Fatalf("%s, %v: an argument is written into", what, st)
	}
	if st.what == "get" {
		got = impl.Cache{} // no cache is answered
	}
	kept, keptItem := keptCache(got), copied(answer.item.Val)
	if !scribbleCache(got) {
		t.Fatalf("%s, %v: two lists of the answer share memory", what, st)
	}
	scribbleItems([]impl.Item{answer.item})
	if !asBefore() {
		t.Fatalf("%s, %v: the answer shares memory with an argument", what, st)
	}
	// Nothing is kept between two calls either.
	again, answerAgain := doCache(c, given)
	if st.what == "get" {
		again = impl.Cache{}
	}
	if !sameCache(again, kept) || !sameVal(answerAgain.item.Val, keptItem) || answerAgain.is != answer.is {
		t.Fatalf("%s, %v: once more: got %s, %v", what, st, cacheText(again), answerAgain)
	}
}

func TestCacheMemory(t *testing.T) {
	caches := map[string]impl.Cache{}
	for what, m := range rightCaches() {
		caches[what] = m.cache()
	}
	for what, c := range wrongCaches() {
		caches[what] = c
	}
	for what, plain := range caches {
		c := roomyCache(plain)
		before := wholeCache(c)
		for _, st := range cacheMemorySteps() {
			wantCacheApart(t, what, c, before, st)
		}
	}
}

// TestCacheMemoryOfOne has arguments that share their kin, with one another too: the answers share none.
func TestCacheMemoryOfOne(t *testing.T) {
	shared := roomyVal(bond(2, 9, 4, 5))
	m := cacheModel{}.after(puts(item(9, 1, shared)), puts(item(12, 2, shared)), puts(item(17, 3, shared)), puts(item(22, 4, shared)))
	c := roomyCache(m.cache())
	for place := range c.Items {
		c.Items[place].Val = shared
	}
	before := wholeCache(c)
	for _, key := range []int{9, 12, 17, 22, 10} {
		for _, ver := range []int{0, 4, 60} {
			got, put := impl.CachePut(c, item(key, ver, shared))
			want, is := m.do(puts(item(key, ver, shared)))
			if put != is.is || !sameCache(got, want.cache()) {
				t.Fatalf("key %d, ver %d: got %s", key, ver, cacheText(got))
			}
			if !scribbleCache(got) {
				t.Errorf("key %d, ver %d: two lists of the answer share memory", key, ver)
			}
			if !sameCache(wholeCache(c), before) {
				t.Fatalf("key %d, ver %d: the answer shares memory with an argument", key, ver)
			}
		}
	}
}

// TestCacheAsksOnly has the calls that answer no cache and no item.
func TestCacheAsksOnly(t *testing.T) {
	caches := moreRightCaches()
	for what, c := range wrongCaches() {
		caches[what] = c
	}
	for what, plain := range caches {
		c, other := roomyCache(plain), roomyCache(plain)
		before, otherBefore := wholeCache(c), wholeCache(other)
		impl.CacheOk(c)
		impl.CacheSame(c, other)
		impl.CacheSame(other, impl.CacheOpen())
		if !sameCache(wholeCache(c), before) || !sameCache(wholeCache(other), otherBefore) {
			t.Errorf("%s: the argument is written into", what)
		}
	}
}

// TestCacheOpenMemory has two answers: what is done to one is not done to the other.
func TestCacheOpenMemory(t *testing.T) {
	first, second := impl.CacheOpen(), impl.CacheOpen()
	scribbleCache(first)
	for _, c := range []impl.Cache{second, impl.CacheOpen()} {
		if !sameCache(c, cacheModel{}.cache()) {
			t.Errorf("got %s", cacheText(c))
		}
	}
}
