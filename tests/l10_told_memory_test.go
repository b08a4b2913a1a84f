package tests

import (
	"fmt"
	"math"
	"reflect"
	"slices"
	"testing"

	"loop.example/kith/impl"
)

// toldArgs are what all calls of the chapter can be given.
type toldArgs struct {
	S    impl.Shard
	It   impl.Item
	W    impl.World
	List []impl.Told
	Tier int
	Key  int
}

// toldCalls are all calls of the chapter, by their names.
func toldCalls() map[string]func(a toldArgs) any {
	return map[string]func(a toldArgs) any{
		"was":   func(a toldArgs) any { return impl.ToldWas(a.S, a.It) },
		"true":  func(a toldArgs) any { return impl.ToldTrue(a.W) },
		"rises": func(a toldArgs) any { return impl.ToldRises(a.List) },
		"of":    func(a toldArgs) any { return impl.ToldOf(a.List, a.Tier, a.Key) },
		"last":  func(a toldArgs) any { return impl.ToldLast(a.List, a.Tier, a.Key) },
	}
}

// wantToldApart has all calls given the same, with something behind the ends of all lists.
func wantToldApart(t *testing.T, what string, a toldArgs) {
	t.Helper()
	a = roomyValue(reflect.ValueOf(a)).Interface().(toldArgs)
	for name, do := range toldCalls() {
		wantCallApart(t, what+", "+name, reflect.ValueOf(a), func() any { return do(a) })
	}
}

func TestToldMemory(t *testing.T) {
	c := chooser(101)
	for what, m := range rightWorlds() {
		w := m.world()
		for key := range 24 {
			s, it := w.Shards[key%2], m.parts[key%2].item(key)
			if len(w.Told) > 0 && key%3 == 0 {
				it = w.Told[c.pick(len(w.Told))].Item
			}
			wantToldApart(t, fmt.Sprintf("%s, key %d", what, key), toldArgs{S: s, It: it, W: w, List: w.Told, Tier: key % 2, Key: []int{key, 20, 18, 2}[key%4]})
		}
	}
	for run := range 200 {
		a := toldArgs{List: c.anyTold(c.pick(40)), Tier: c.pick(4) - 1, Key: []int{2, 18, 23, 24, -1}[c.pick(5)]}
		wantToldApart(t, fmt.Sprint("any answers ", run), a)
	}
}

// TestToldMemoryOfWrong has what isn't ok.
func TestToldMemoryOfWrong(t *testing.T) {
	wantToldApart(t, "nothing", toldArgs{})
	plain := plainWorld()
	for what, it := range wrongItemList() {
		wantToldApart(t, what, toldArgs{S: plain.parts[0].shard(), It: it, List: []impl.Told{toldHas(0, it)}, Key: it.Key})
	}
	for what, s := range wrongParts() {
		wantToldApart(t, what, toldArgs{S: s, It: item(2, 1, thing(17))})
	}
	for place, change := range worldChanges() {
		if place%20 > 0 || change.fine {
			continue
		}
		w := plain.world()
		change.do(&w)
		wantToldApart(t, change.what, toldArgs{W: w, List: w.Told, Key: 18})
	}
}

// TestToldBehindEnds has something behind the ends of lists that would be another answer, if it were asked.
func TestToldBehindEnds(t *testing.T) {
	s := busyPart(0).shard()
	withWritten(&s, 2, 3, thing(9))
	next := s.Log[len(s.Log)-1]
	cut := s
	cut.Log, cut.Rows = s.Log[:len(s.Log)-1], busyPart(0).shard().Rows
	wantWas(t, "with the last commit", s, impl.Item(next), true)
	wantWas(t, "without it", cut, impl.Item(next), false)
	w := plainWorld().withSo(9).world()
	w.Told[7].Item.Val = thing(123)
	w.Told[7].Item.Key = 2
	wantTrue(t, "with the answer", w, false)
	w.Told = w.Told[:7]
	wantTrue(t, "without it", w, true)
	list := toldVers(0, 2, 3, 5, 4, 9)
	wantRises(t, "with the one that sinks", list, false)
	wantRises(t, "without it", list[:2], true)
	wantVers(t, "without it", list[:2], 0, 2, []int{3, 5}, 5)
	wantVers(t, "with one", list[:1], 0, 2, []int{3}, 3)
	wantVers(t, "with none", list[:0], 0, 2, nil, 0)
	wantVers(t, "from the last on", list[2:], 0, 2, []int{4, 9}, 9)
	wantRises(t, "from the last on", list[2:], true)
}

// TestToldOfApart writes into what was answered, spare room included: the argument and later answers are as they were.
func TestToldOfApart(t *testing.T) {
	for _, many := range []int{1, 2, 3, 5, 8, 9, 120} {
		list := slices.Repeat(slices.Concat(toldVers(0, 2, 7), toldVers(1, 2, 8), toldVers(0, 18, 9)), many)
		kept := slices.Clone(list)
		for range 3 {
			for place, which := range [][2]int{{0, 2}, {1, 2}, {0, 18}, {1, 18}} {
				got := impl.ToldOf(list, which[0], which[1])
				want := slices.Repeat([]int{7 + place}, many)
				if place == 3 {
					want = nil
				}
				if !slices.Equal(got, want) {
					t.Fatalf("%d: got %v, want %v", many, got, want)
				}
				fillList(got, 1000)
			}
		}
		if !slices.EqualFunc(list, kept, sameTold) {
			t.Fatalf("%d: the list is %v", many, list)
		}
	}
}

// TestToldKeepsNone asks all calls of many things, in one order and in the other: the answers are the same.
func TestToldKeepsNone(t *testing.T) {
	c := chooser(102)
	var args []toldArgs
	for _, m := range rightWorlds() {
		w := m.withSo(c.pick(30)).world()
		if c.pick(2) == 0 {
			w.Told = append(w.Told, toldHas(0, item(2, 9, thing(123))))
		}
		for key := range 24 {
			it := m.parts[key%2].item(key)
			it.Ver -= c.pick(2)
			args = append(args, toldArgs{S: w.Shards[key%2], It: it, W: w, List: slices.Concat(w.Told, c.anyTold(c.pick(4))), Tier: c.pick(2), Key: key})
		}
	}
	answers := map[string][]any{}
	for _, a := range args {
		for name, do := range toldCalls() {
			answers[name] = append(answers[name], do(a))
		}
	}
	for place, a := range slices.Backward(args) {
		for name, do := range toldCalls() {
			if got := do(a); !reflect.DeepEqual(got, answers[name][place]) {
				t.Fatalf("%s of %+v: got %v, and %v ahead", name, a, got, answers[name][place])
			}
		}
	}
}

// TestToldAny has any numbers at all in parts, in items, in worlds and in answers: it answers as the document says, and doesn't panic.
func TestToldAny(t *testing.T) {
	c, came := chooser(103), map[string]int{}
	for range 3000 {
		w := c.anyWorld()
		for place := range w.Told {
			if c.pick(4) == 0 {
				w.Told[place].Item.Ver = c.pick(4)
			}
		}
		want := trueTold(w)
		wantTrue(t, "any", w, want)
		came[fmt.Sprint("true ", want)]++
		for _, s := range w.Shards {
			it := item([]int{2, 3, 18, 19, c.some()}[c.pick(5)], []int{0, 1, 2, c.some()}[c.pick(4)], []impl.Val{{}, thing(17), thing(3), bond(3, 5), thing(c.some()), bond(c.some(), c.some())}[c.pick(6)])
			was := wasTold(s, it)
			wantWas(t, "any", s, it, was)
			came[fmt.Sprint("was ", was)]++
		}
		wantRises(t, "any", w.Told, risesTold(w.Told))
	}
	for _, what := range []string{"true true", "true false", "was true", "was false"} {
		if came[what] < 200 {
			t.Errorf("%s came but %d times: %v", what, came[what], came)
		}
	}
	// Lists of nothing, too short and too long for what they are asked.
	long := make([]impl.Row, 100000)
	for _, s := range []impl.Shard{{}, {Rows: long[:23]}, {Rows: long}, {Log: make([]impl.Commit, 100000)}, {Part: -1, Rows: long[:24]}, {Part: math.MaxInt, Rows: long[:24]}, {Part: math.MinInt}} {
		for _, it := range []impl.Item{{}, item(2, 1, thing(5)), item(math.MaxInt, math.MaxInt, thing(math.MinInt)), item(math.MinInt, math.MinInt, impl.Val{Kin: make([]impl.Edge, 100000)})} {
			wantWas(t, "none", s, it, false)
			wantTrue(t, "none", impl.World{Shards: []impl.Shard{s}, Told: []impl.Told{toldHas(5, it)}}, false)
			wantTrue(t, "none", impl.World{Shards: []impl.Shard{s, s}, Leads: make([][]impl.Lead, 2), Tiers: make([]impl.Tier, 2), Told: slices.Repeat([]impl.Told{toldHas(5, it)}, 1000)}, false)
		}
	}
}
