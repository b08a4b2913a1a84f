package tests

import (
	"fmt"
	"math"
	"slices"
	"testing"

	"loop.example/kith/impl"
)

// wantVers tells other Vers of a tier of a key than these, or another greatest one.
func wantVers(t *testing.T, what string, list []impl.Told, tier int, key int, want []int, last int) {
	t.Helper()
	if got := impl.ToldOf(list, tier, key); !slices.Equal(got, want) {
		t.Fatalf("%s, tier %d, key %d: got %v, want %v", what, tier, key, got, want)
	}
	if got := impl.ToldLast(list, tier, key); got != last {
		t.Fatalf("%s, tier %d, key %d: the last is %d, not %d", what, tier, key, got, last)
	}
}

// wantRises tells another answer to whether a list rises than the one that is wanted.
func wantRises(t *testing.T, what string, list []impl.Told, want bool) {
	t.Helper()
	if got := impl.ToldRises(list); got != want {
		t.Fatalf("%s: it rises is %v: %v", what, got, list)
	}
	if told := risesTold(list); told != want {
		t.Fatalf("%s: it rises is %v in the document's words: %v", what, told, list)
	}
}

func TestToldOfNone(t *testing.T) {
	for _, list := range [][]impl.Told{nil, {}, impl.WorldOpen().Told} {
		for _, tier := range []int{0, 1, 2, -1, math.MinInt, math.MaxInt} {
			for _, key := range []int{0, 2, 23, 24, -1, math.MinInt, math.MaxInt} {
				wantVers(t, "none", list, tier, key, nil, 0)
			}
		}
		wantRises(t, "none", list, true)
	}
}

func TestToldOf(t *testing.T) {
	list := []impl.Told{
		toldHas(0, item(2, 1, thing(5))), toldHas(1, item(2, 3, thing(7))), toldWrote(0, item(2, 2, thing(6)), 0), toldHas(0, item(18, 9, bond(3, 5))),
		toldWrote(0, item(2, 2, thing(6)), 3), toldHas(1, item(18, 0, impl.Val{})), toldHas(0, item(2, 0, impl.Val{})), toldWrote(1, item(2, 1, thing(5)), 5), toldHas(0, item(20, 60, impl.Val{})),
	}
	wantVers(t, "some", list, 0, 2, []int{1, 2, 2, 0}, 2)
	wantVers(t, "some", list, 1, 2, []int{3, 1}, 3)
	wantVers(t, "some", list, 0, 18, []int{9}, 9)
	wantVers(t, "some", list, 1, 18, []int{0}, 0)
	wantVers(t, "some", list, 0, 20, []int{60}, 60)
	// Of these, nothing was told.
	wantVers(t, "some", list, 1, 20, nil, 0)
	for _, key := range []int{0, 1, 3, 10, 17, 19, 23, 24, -1, -2, 34, math.MinInt, math.MaxInt} {
		wantVers(t, "some", list, 0, key, nil, 0)
		wantVers(t, "some", list, 1, key, nil, 0)
	}
	for _, tier := range []int{-1, 2, 3, -2, math.MinInt, math.MaxInt} {
		wantVers(t, "some", list, tier, 2, nil, 0)
		wantVers(t, "some", list, tier, 18, nil, 0)
	}
}

// TestToldOfAny has answers of tiers and of keys that there are not.
func TestToldOfAny(t *testing.T) {
	numbers := []int{-1, 0, 1, 2, 23, 24, 25, math.MinInt, math.MaxInt}
	var list []impl.Told
	for place, tier := range numbers {
		for at, key := range numbers {
			list = append(list, toldVers(tier, key, place+1, 100*at)...)
		}
	}
	for place, tier := range numbers {
		for at, key := range numbers {
			wantVers(t, "any", list, tier, key, []int{place + 1, 100 * at}, max(place+1, 100*at))
		}
		wantVers(t, "any", list, tier, 3, nil, 0)
		wantVers(t, "any", list, 3, tier, nil, 0)
	}
}

// TestToldOfVers has Vers that rise, sink, are alike, and are no Vers at all.
func TestToldOfVers(t *testing.T) {
	for _, c := range []struct {
		vers  []int
		last  int
		rises bool
	}{
		{[]int{0}, 0, true}, {[]int{1}, 1, true}, {[]int{60}, 60, true}, {[]int{61}, 61, true}, {[]int{math.MaxInt}, math.MaxInt, true},
		{[]int{-1}, 0, false}, {[]int{-60}, 0, false}, {[]int{math.MinInt}, 0, false},
		{[]int{0, 1, 2, 3}, 3, true}, {[]int{1, 5, 60}, 60, true}, {[]int{3, 2, 1, 0}, 3, false}, {[]int{60, 59}, 60, false},
		{[]int{2, 2}, 2, true}, {[]int{0, 0, 0}, 0, true}, {[]int{1, 1, 2, 2, 2, 7}, 7, true}, {[]int{-1, -1}, 0, false},
		{[]int{1, 2, 1}, 2, false}, {[]int{2, 1, 2}, 2, false}, {[]int{1, 0, 2, 3, 4}, 4, false}, {[]int{1, 2, 3, 4, 3}, 4, false}, {[]int{0, 0, 0, -1}, 0, false}, {[]int{-1, 0, 1}, 1, false},
		{[]int{5, 1, 2, 3, 4}, 5, false}, {[]int{9, 9, 9, 9, 9, 9, 8, 9}, 9, false}, {[]int{9, 10, 11, 8}, 11, false}, {[]int{1, 5, 4, 5, 6}, 6, false},
		{[]int{-3, -2, -1}, 0, false}, {[]int{-1, -2, -3}, 0, false}, {[]int{-5, 3, -7}, 3, false}, {[]int{3, -5}, 3, false},
		{[]int{math.MaxInt, math.MaxInt}, math.MaxInt, true}, {[]int{0, math.MaxInt}, math.MaxInt, true}, {[]int{math.MaxInt, math.MaxInt - 1}, math.MaxInt, false}, {[]int{math.MaxInt - 1, math.MaxInt}, math.MaxInt, true},
		{[]int{math.MinInt, math.MaxInt}, math.MaxInt, false}, {[]int{math.MaxInt, math.MinInt}, math.MaxInt, false}, {[]int{math.MinInt, math.MinInt + 1}, 0, false}, {[]int{0, math.MinInt}, 0, false},
	} {
		for _, tier := range []int{0, 1, -1, 2} {
			for _, key := range []int{0, 2, 11, 23, -1, 24} {
				list := toldVers(tier, key, c.vers...)
				wantVers(t, "alone", list, tier, key, c.vers, c.last)
				wantRises(t, "alone", list, c.rises)
				// Others of all else, ahead, between and behind, change nothing.
				crowd := crowded(list, tier, key)
				wantVers(t, "in a crowd", crowd, tier, key, c.vers, c.last)
				wantRises(t, "in a crowd", crowd, c.rises)
			}
		}
	}
}

// crowded is a list among answers of other tiers and of other keys, each of which rises.
func crowded(list []impl.Told, tier int, key int) []impl.Told {
	var all []impl.Told
	for place := range len(list) + 1 {
		all = append(all, toldVers(tier+1, key, 50+place, 51+place)...)
		all = append(all, toldVers(tier, key+1, place)...)
		if place < len(list) {
			all = append(all, list[place])
		}
		if key != tier {
			all = append(all, toldVers(key, tier, 70+place)...)
		}
		all = append(all, toldVers(tier-1, key-1, place/2)...)
	}
	return all
}

// TestToldRisesOfOne has answers that sink, but of two tiers of one key, or of one tier of two keys, in each order.
func TestToldRisesOfOne(t *testing.T) {
	for _, both := range [][2]impl.Told{
		{toldHas(0, item(2, 5, thing(5))), toldHas(1, item(2, 3, thing(3)))},
		{toldHas(0, item(2, 5, thing(5))), toldHas(0, item(3, 3, thing(3)))},
		{toldHas(0, item(2, 5, thing(5))), toldHas(0, item(10, 3, bond(3, 5)))},
		{toldHas(0, item(2, 5, thing(5))), toldHas(0, item(18, 3, bond(3, 5)))},
		{toldHas(0, item(1, 5, thing(5))), toldHas(1, item(0, 3, thing(3)))},
		{toldHas(0, item(24, 5, thing(5))), toldHas(1, item(0, 3, thing(3)))},
		{toldWrote(1, item(18, 5, bond(3, 5)), 0), toldWrote(0, item(18, 0, impl.Val{}), 3)},
		{toldHas(-1, item(2, 5, thing(5))), toldHas(2, item(2, 3, thing(3)))},
		{toldHas(0, item(-1, 5, thing(5))), toldHas(0, item(24, 3, thing(3)))},
	} {
		a, b := both[0], both[1]
		for _, list := range [][]impl.Told{{a, b}, {b, a}, {a, b, a, b}, {b, a, a, b}, {a, a, b, b}, {b, b, b, a}} {
			wantRises(t, "two", list, true)
		}
		low := a
		low.Item.Ver--
		for _, list := range [][]impl.Told{{a, low}, {b, a, low}, {a, b, low}, {a, low, b}, {a, b, b, low, b}, {b, a, b, low, a}} {
			wantRises(t, "two, and one that sinks", list, false)
		}
		wantRises(t, "two, and one ahead", []impl.Told{low, b, a, b, a}, true)
	}
	// What a tier wrote counts as what it has, whatever the code, and whatever it has.
	for code := range 6 {
		wrote, has := toldWrote(0, item(2, 2, thing(6)), code), toldHas(0, item(2, 1, thing(5)))
		wantRises(t, "has, then wrote", []impl.Told{has, wrote}, true)
		wantRises(t, "wrote, then has", []impl.Told{wrote, has}, false)
		wantRises(t, "wrote, then wrote", []impl.Told{wrote, toldWrote(0, item(2, 1, thing(6)), 5-code)}, false)
		wantRises(t, "wrote, then another value", []impl.Told{wrote, toldHas(0, item(2, 2, bond(3, 5)))}, true)
	}
}

// TestToldRisesFar has an answer that sinks at the end, at the beginning, and far behind the greater one.
func TestToldRisesFar(t *testing.T) {
	for _, many := range []int{2, 3, 120, 5000} {
		rising := make([]impl.Told, many)
		for place := range rising {
			rising[place] = toldHas(place%2, item(place%24, place, impl.Val{}))
		}
		wantRisesFast(t, rising, true)
		for _, place := range []int{0, many / 2, many - 1} {
			one := slices.Clone(rising)
			one[place].Item.Ver = -1
			wantRisesFast(t, one, false)
		}
		// The first one is the greatest of its tier and key; all between are of others.
		for _, last := range []struct {
			ver   int
			rises bool
		}{{6, false}, {7, true}, {8, true}} {
			list := slices.Concat(toldVers(1, 18, 7), slices.Repeat(toldVers(0, 18, 3), many), slices.Repeat(toldVers(1, 17, 3), many), toldVers(1, 18, last.ver))
			wantRisesFast(t, list, last.rises)
			wantRisesFast(t, slices.Concat(list, slices.Repeat(toldVers(1, 18, 8), many)), last.rises)
		}
	}
}

// wantRisesFast is of a list too long for the document's words to be gone through.
func wantRisesFast(t *testing.T, list []impl.Told, want bool) {
	t.Helper()
	if got := impl.ToldRises(list); got != want {
		t.Fatalf("%d answers: it rises is %v", len(list), got)
	}
}

// TestToldSome has any answers: all tiers and keys of them, and whether they rise.
func TestToldSome(t *testing.T) {
	c, rises := chooser(10), map[bool]int{}
	for run := range 2000 {
		list := c.anyTold(c.pick(12))
		if run%4 > 0 {
			// Else, most don't rise.
			list = slices.DeleteFunc(list, func(told impl.Told) bool { return told.Item.Ver < c.pick(3) })
		}
		for _, tier := range []int{0, 1, 2, -1, 3, math.MinInt, math.MaxInt} {
			for _, key := range []int{0, 2, 18, 23, 24, -1, 5, math.MinInt, math.MaxInt} {
				wantVers(t, fmt.Sprint(list), list, tier, key, versTold(list, tier, key), lastTold(list, tier, key))
			}
		}
		want := risesTold(list)
		wantRises(t, "some", list, want)
		rises[want]++
		if want {
			// Those ahead rise too, and so do those of one tier alone.
			wantRises(t, "some ahead", list[:c.pick(len(list)+1)], true)
			wantRises(t, "some of one", slices.DeleteFunc(list, func(told impl.Told) bool { return told.Tier != 0 }), true)
		}
	}
	if rises[true] < 400 || rises[false] < 400 {
		t.Errorf("%v", rises)
	}
}

// TestToldMany has far more answers than any world has.
func TestToldMany(t *testing.T) {
	list := slices.Repeat(slices.Concat(toldVers(0, 2, 5), toldVers(1, 2, 3), toldVers(0, 3, 9)), 100000)
	wantVers(t, "many", list[:30], 0, 2, slices.Repeat([]int{5}, 10), 5)
	if got := impl.ToldOf(list, 1, 2); len(got) != 100000 || slices.Max(got) != 3 || slices.Min(got) != 3 {
		t.Errorf("got %d", len(got))
	}
	if impl.ToldLast(list, 0, 3) != 9 || impl.ToldLast(list, 1, 3) != 0 || len(impl.ToldOf(list, 1, 3)) != 0 {
		t.Error("of many")
	}
	wantRisesFast(t, list, true)
	wantRisesFast(t, slices.Concat(list, toldVers(0, 3, 8)), false)
}
