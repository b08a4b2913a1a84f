package tests

import (
	"slices"
	"testing"

	"loop.example/kith/impl"
)

// roomy is a list with room behind its end, and all of that memory.
func roomy(list []impl.Edge) ([]impl.Edge, []impl.Edge) {
	all := slices.Clone(list)
	for range 12 {
		all = append(all, impl.Edge{Who: 77, At: 7777})
	}
	return all[:len(list):len(all)], all
}

// scribble writes into all memory of a list, its spare room included.
func scribble(list []impl.Edge) {
	all := list[:cap(list)]
	for place := range all {
		all[place] = impl.Edge{Who: 55, At: 5555}
	}
}

// edgeCalls are all calls that are given a list and answer a list.
func edgeCalls() map[string]func([]impl.Edge) []impl.Edge {
	add := func(who int, at int) func([]impl.Edge) []impl.Edge {
		return func(list []impl.Edge) []impl.Edge {
			got, _ := impl.EdgeAdd(list, who, at)
			return got
		}
	}
	drop := func(who int) func([]impl.Edge) []impl.Edge {
		return func(list []impl.Edge) []impl.Edge {
			got, _ := impl.EdgeDrop(list, who)
			return got
		}
	}
	part := func(from int, n int) func([]impl.Edge) []impl.Edge {
		return func(list []impl.Edge) []impl.Edge { return impl.EdgeRange(list, from, n) }
	}
	time := func(low int, high int) func([]impl.Edge) []impl.Edge {
		return func(list []impl.Edge) []impl.Edge { return impl.EdgeTime(list, low, high) }
	}
	return map[string]func([]impl.Edge) []impl.Edge{
		"add first": add(0, 1000), "add between": add(5, 6), "add last": add(6, 0), "add the same": add(1, 5),
		"add later": add(3, 10), "add earlier": add(2, 1), "add nobody": add(8, 5), "add at no time": add(1, 1001),
		"drop first": drop(2), "drop between": drop(1), "drop last": drop(3), "drop one who is not there": drop(4), "drop nobody": drop(-1),
		"range of all": part(0, 9), "range of some": part(1, 1), "range of none": part(0, 0), "range from behind": part(3, 1), "range from below": part(-1, 2),
		"time of all": time(0, 1000), "time of some": time(5, 5), "time of none": time(6, 5),
	}
}

func TestEdgeMemory(t *testing.T) {
	lists := map[string][]impl.Edge{
		"three": edges(2, 9, 1, 5, 3, 5),
		"one":   edges(2, 9),
		"none":  {},
		"all":   edges(2, 9, 4, 8, 1, 5, 3, 5, 5, 5, 0, 2, 6, 1, 7, 0),
		"wrong": edges(1, 5, 2, 9, 3, 5),
		"twice": edges(1, 9, 1, 5),
	}
	for what, call := range edgeCalls() {
		for which, plain := range lists {
			list, all := roomy(plain)
			before := slices.Clone(all)
			got := call(list)
			if !slices.Equal(all, before) {
				t.Errorf("%s, %s: the argument is written into: %v", what, which, all)
			}
			kept := slices.Clone(got)
			scribble(got)
			if !slices.Equal(all, before) {
				t.Errorf("%s, %s: the answer shares memory with the argument: %v", what, which, all)
			}
			// Nothing is kept between two calls either.
			if again := call(list); !slices.Equal(again, kept) {
				t.Errorf("%s, %s: once more: got %v, want %v", what, which, again, kept)
			}
		}
	}
}

// TestEdgeAsksOnly has the calls that answer no list.
func TestEdgeAsksOnly(t *testing.T) {
	for _, plain := range [][]impl.Edge{edges(2, 9, 1, 5, 3, 5), edges(3, 5, 1, 5, 2, 9), {}} {
		list, all := roomy(plain)
		other, otherAll := roomy(plain)
		before := slices.Clone(all)
		impl.EdgeOk(list)
		impl.EdgeSame(list, other)
		impl.EdgeHas(list, 3)
		impl.EdgeHas(list, 4)
		impl.EdgeText(list)
		if !slices.Equal(all, before) || !slices.Equal(otherAll, before) {
			t.Errorf("%v: the argument is written into", plain)
		}
	}
}

// TestEdgeReadMemory has two answers to one text: what is done to one is not done to the other.
func TestEdgeReadMemory(t *testing.T) {
	first, _ := impl.EdgeRead("(2@9 1@5 3@5)")
	second, _ := impl.EdgeRead("(2@9 1@5 3@5)")
	scribble(first)
	wantEdges(t, "read twice", second, edges(2, 9, 1, 5, 3, 5))
}
