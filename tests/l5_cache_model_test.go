package tests

import (
	"fmt"
	"slices"
	"strings"
	"testing"

	"loop.example/kith/impl"
)

// cacheModel is a cache as plain as it can be told: of each key its floor, when its item was put (0, if it has none), and what that is; an item's Ver is the floor.
type cacheModel struct {
	floor [24]int
	put   [24]int
	val   [24]impl.Val
	puts  int
}

// cacheStep is one call of a cache.
type cacheStep struct {
	what string // get, put, floor or drop
	item impl.Item
}

// cacheAnswer is what such a call answers beside the cache.
type cacheAnswer struct {
	item impl.Item
	is   bool
}

func gets(key int) cacheStep {
	return cacheStep{what: "get", item: impl.Item{Key: key}}
}

func puts(it impl.Item) cacheStep {
	return cacheStep{what: "put", item: it}
}

func floors(key int, ver int) cacheStep {
	return cacheStep{what: "floor", item: impl.Item{Key: key, Ver: ver}}
}

func drops(key int) cacheStep {
	return cacheStep{what: "drop", item: impl.Item{Key: key}}
}

func item(key int, ver int, v impl.Val) impl.Item {
	return impl.Item{Key: key, Ver: ver, Val: v}
}

// doCache asks the program; a call that answers no cache leaves it as it is.
func doCache(c impl.Cache, st cacheStep) (impl.Cache, cacheAnswer) {
	got := c
	var a cacheAnswer
	switch st.what {
	case "get":
		a.item, a.is = impl.CacheGet(c, st.item.Key)
	case "put":
		got, a.is = impl.CachePut(c, st.item)
	case "floor":
		got = impl.CacheFloor(c, st.item.Key, st.item.Ver)
	case "drop":
		got = impl.CacheDrop(c, st.item.Key)
	}
	return got, a
}

// do is the model behind a step, and the answer.
func (m cacheModel) do(st cacheStep) (cacheModel, cacheAnswer) {
	key, ver := st.item.Key, st.item.Ver
	if key < 0 || key > 23 {
		return m, cacheAnswer{}
	}
	switch st.what {
	case "get":
		if m.put[key] > 0 {
			return m, cacheAnswer{item: item(key, m.floor[key], m.val[key]), is: true}
		}
	case "put":
		if itemTold(st.item) && ver >= m.floor[key] {
			m.puts++
			m.put[key], m.val[key], m.floor[key] = m.puts, st.item.Val, ver
			return m.crowd(), cacheAnswer{is: true}
		}
	case "floor":
		if m.floor[key] < ver && ver <= 60 {
			m.floor[key], m.put[key] = ver, 0
		}
	case "drop":
		m.put[key] = 0
	}
	return m, cacheAnswer{}
}

// itemTold says whether an item of a key that there is is right, in the document's words.
func itemTold(it impl.Item) bool {
	if it.Ver < 0 || it.Ver > 60 {
		return false
	}
	if it.Key < 8 {
		return 0 <= it.Val.Num && it.Val.Num <= 1000000 && len(it.Val.Kin) == 0
	}
	if it.Val.Num != 0 {
		return false
	}
	met := map[int]bool{}
	for place, e := range it.Val.Kin {
		if e.Who < 0 || e.Who > 7 || e.At < 0 || e.At > 1000 || met[e.Who] {
			return false
		}
		met[e.Who] = true
		if place > 0 {
			ahead := it.Val.Kin[place-1]
			if ahead.At < e.At || ahead.At == e.At && ahead.Who > e.Who {
				return false
			}
		}
	}
	return true
}

// keys are those that have an item, the one that was put last first.
func (m cacheModel) keys() []int {
	var keys []int
	for key, when := range m.put {
		if when > 0 {
			keys = append(keys, key)
		}
	}
	slices.SortFunc(keys, func(a int, b int) int { return m.put[b] - m.put[a] })
	return keys
}

// crowd is without the item that was put first, if there are more than four.
func (m cacheModel) crowd() cacheModel {
	if keys := m.keys(); len(keys) > 4 {
		m.put[keys[4]] = 0
	}
	return m
}

// after is the model behind some steps.
func (m cacheModel) after(steps ...cacheStep) cacheModel {
	for _, st := range steps {
		m, _ = m.do(st)
	}
	return m
}

// cache is the cache of the model, which shares none with it.
func (m cacheModel) cache() impl.Cache {
	var c impl.Cache
	for _, key := range m.keys() {
		c.Items = append(c.Items, item(key, m.floor[key], copied(m.val[key])))
	}
	c.Floors = slices.Clone(m.floor[:])
	return c
}

// cacheModelOf is the model of a cache that is ok.
func cacheModelOf(c impl.Cache) cacheModel {
	m := cacheModel{puts: len(c.Items)}
	copy(m.floor[:], c.Floors)
	for place, it := range c.Items {
		m.put[it.Key], m.val[it.Key] = len(c.Items)-place, copied(it.Val)
	}
	return m
}

func sameItem(a impl.Item, b impl.Item) bool {
	return a.Key == b.Key && a.Ver == b.Ver && sameVal(a.Val, b.Val)
}

// sameCache says whether two caches are one, asked of nothing that is tested.
func sameCache(a impl.Cache, b impl.Cache) bool {
	return slices.EqualFunc(a.Items, b.Items, sameItem) && slices.Equal(a.Floors, b.Floors)
}

func isNoItem(it impl.Item) bool {
	return sameItem(it, impl.Item{})
}

// cacheText tells a cache in one line: its items, and the floors that are not 0.
func cacheText(c impl.Cache) string {
	words := []string{fmt.Sprintf("%d items", len(c.Items))}
	for _, it := range c.Items {
		words = append(words, itemText(it))
	}
	words = append(words, fmt.Sprintf("%d floors", len(c.Floors)))
	for key, floor := range c.Floors {
		if floor != 0 {
			words = append(words, fmt.Sprintf("%d:%d", key, floor))
		}
	}
	return strings.Join(words, " ")
}

func itemText(it impl.Item) string {
	return fmt.Sprintf("%d:%d:%d%v", it.Key, it.Ver, it.Val.Num, it.Val.Kin)
}

func (st cacheStep) String() string {
	return st.what + " " + itemText(st.item)
}

// wantCacheStep asks the program for a step, and tells what is not as the model has it, or breaks promise 5.
func wantCacheStep(t *testing.T, what string, c impl.Cache, m cacheModel, st cacheStep) (impl.Cache, cacheModel) {
	t.Helper()
	got, answer := doCache(c, st)
	next, want := m.do(st)
	if !sameItem(answer.item, want.item) || answer.is != want.is {
		t.Fatalf("%s, %v: got %v, want %v", what, st, answer, want)
	}
	if !sameCache(got, next.cache()) {
		t.Fatalf("%s, %v: got %s, want %s", what, st, cacheText(got), cacheText(next.cache()))
	}
	if !impl.CacheOk(got) {
		t.Fatalf("%s, %v: %s is not ok", what, st, cacheText(got))
	}
	for key := range 24 {
		if got.Floors[key] < c.Floors[key] {
			t.Fatalf("%s, %v: the floor of %d sank: %s", what, st, key, cacheText(got))
		}
		if it, has := impl.CacheGet(got, key); has && it.Ver < got.Floors[key] {
			t.Fatalf("%s, %v: %v is older than its floor: %s", what, st, it, cacheText(got))
		}
	}
	return got, next
}

// rightCaches are caches that are ok.
func rightCaches() map[string]cacheModel {
	open := cacheModel{}
	one := open.after(puts(item(3, 2, thing(17))))
	// Of each kind of key one or two, and of both parts.
	four := open.after(puts(item(0, 1, thing(0))), puts(item(11, 3, bond(2, 9, 4, 5))), puts(item(18, 7, bond(3, 5))), puts(item(23, 60, bond())))
	full := open.after(puts(item(8, 4, bond(0, 9, 1, 9, 2, 9, 3, 9, 4, 9, 5, 9, 6, 9, 7, 9))), puts(item(15, 5, bond(7, 1000, 0, 0))), puts(item(16, 6, bond())), puts(item(7, 7, thing(1000000))))
	return map[string]cacheModel{
		"open":             open,
		"one":              one,
		"one that was":     one.after(drops(3)),
		"one put twice":    one.after(puts(item(3, 9, thing(18)))),
		"one that is 0":    open.after(puts(item(0, 0, thing(0)))),
		"elders that are":  open.after(puts(item(8, 0, bond()))),
		"three":            four.after(drops(11)),
		"four":             four,
		"four full":        full,
		"four things":      open.after(puts(item(0, 1, thing(0))), puts(item(1, 0, thing(1))), puts(item(2, 60, thing(2))), puts(item(7, 2, thing(1000000)))),
		"crowded":          four.after(puts(item(5, 2, thing(5)))),
		"crowded twice":    four.after(puts(item(5, 2, thing(5))), puts(item(9, 8, bond(1, 1)))),
		"floors":           four.after(floors(5, 4), floors(12, 60), floors(23, 60), floors(8, 1)),
		"floors above":     four.after(floors(11, 4), floors(18, 60)),
		"floors alone":     open.after(floors(0, 1), floors(11, 30), floors(18, 7), floors(23, 60)),
		"all floors of 60": allFloors(60),
		"all of it":        full.after(puts(item(16, 8, bond(5, 3))), floors(7, 9), puts(item(7, 9, thing(3))), drops(15), floors(15, 6), puts(item(22, 1, bond(2, 2))), puts(item(14, 1, bond(1, 1)))),
	}
}

// allFloors has all floors at a Ver, and no items.
func allFloors(ver int) cacheModel {
	m := cacheModel{}
	for key := range 24 {
		m = m.after(floors(key, ver))
	}
	return m
}
