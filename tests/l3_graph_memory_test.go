package tests

import (
	"slices"
	"testing"

	"loop.example/kith/impl"
)

// roomyGraph is a graph with room behind the ends of all its lists, and all of that memory.
func roomyGraph(g impl.Graph) (impl.Graph, impl.Graph) {
	var rows, all []impl.Val
	for _, v := range g.Rows {
		list, whole := roomy(v.Kin)
		rows = append(rows, impl.Val{Num: v.Num, Kin: list})
		all = append(all, impl.Val{Num: v.Num, Kin: whole})
	}
	for range 3 {
		_, whole := roomy(edges(5, 5))
		rows = append(rows, impl.Val{Num: 77, Kin: whole})
		all = append(all, impl.Val{Num: 77, Kin: whole})
	}
	return impl.Graph{Rows: rows[:len(g.Rows)]}, impl.Graph{Rows: all}
}

// untouched is a question: whether a graph of roomyGraph, with all its memory, is as it was.
func untouched(g impl.Graph, all impl.Graph) func() bool {
	rows := g.Rows[:len(all.Rows)]
	keptRows, keptAll := keptGraph(impl.Graph{Rows: rows}), keptGraph(all)
	return func() bool {
		return sameRows(impl.Graph{Rows: rows}, keptRows) && sameRows(all, keptAll)
	}
}

// keptGraph is a graph that shares none with the one that is given.
func keptGraph(g impl.Graph) impl.Graph {
	var rows []impl.Val
	for _, v := range g.Rows {
		rows = append(rows, impl.Val{Num: v.Num, Kin: append([]impl.Edge(nil), v.Kin...)})
	}
	return impl.Graph{Rows: rows}
}

// scribbleGraph writes into all memory of a graph, each list with marks of its own, and says whether each has still its marks then.
func scribbleGraph(g impl.Graph) bool {
	all := g.Rows[:cap(g.Rows)]
	for place := range all {
		all[place].Num = 55
		kin := all[place].Kin
		for spot := range kin[:cap(kin)] {
			kin[:cap(kin)][spot] = impl.Edge{Who: 1000 + place, At: spot}
		}
	}
	for place := range all {
		kin := all[place].Kin
		for spot, e := range kin[:cap(kin)] {
			if e != (impl.Edge{Who: 1000 + place, At: spot}) {
				return false
			}
		}
		all[place].Kin = nil
	}
	return true
}

// graphOps are some writes of each kind, ok and not.
func graphOps() []impl.Op {
	return []impl.Op{
		set(2, 17), set(2, 3), set(0, 0), set(7, 1000000), bind(2, 3, 5), bind(2, 3, 6), bind(2, 1, 9), bind(0, 4, 1000), bind(4, 0, 0), bind(5, 6, 5), bind(3, 2, 7),
		part(2, 3), part(2, 1), part(3, 2), part(0, 7), part(5, 6), {}, set(2, -1), set(8, 1), bind(2, 2, 5), bind(2, 3, 1001), {Kind: 3, A: 2, B: 3, N: 1}, {Kind: 4, A: 2, B: 3},
	}
}

// memoryGraphs are graphs, ok and not.
func memoryGraphs() map[string]impl.Graph {
	graphs := map[string]impl.Graph{"open": impl.GraphOpen()}
	for what, m := range rightModels() {
		graphs[what] = m.graph()
	}
	for _, what := range []string{"no rows", "some, one row too few", "some, one row too many", "young and a number", "young since another", "elder, the young not"} {
		graphs[what] = wrongGraphs()[what]
	}
	return graphs
}

func TestGraphDoMemory(t *testing.T) {
	for what, plain := range memoryGraphs() {
		for _, op := range graphOps() {
			g, all := roomyGraph(plain)
			asBefore := untouched(g, all)
			got, ok := impl.GraphDo(g, op)
			if !asBefore() {
				t.Errorf("%s, %v: the argument is written into", what, op)
			}
			kept := keptGraph(got)
			if !scribbleGraph(got) {
				t.Errorf("%s, %v: two rows of the answer share memory", what, op)
			}
			if !asBefore() {
				t.Errorf("%s, %v: the answer shares memory with the argument", what, op)
			}
			// Nothing is kept between two calls either.
			if again, same := impl.GraphDo(g, op); same != ok || !sameRows(again, kept) {
				t.Errorf("%s, %v: once more: got %v, want %v", what, op, again, kept)
			}
		}
	}
}

// TestGraphAsksOnly has the calls that answer no graph.
func TestGraphAsksOnly(t *testing.T) {
	for what, plain := range memoryGraphs() {
		g, all := roomyGraph(plain)
		other, otherAll := roomyGraph(plain)
		asBefore, otherAsBefore := untouched(g, all), untouched(other, otherAll)
		impl.GraphOk(g)
		impl.GraphSame(g, other)
		impl.GraphSame(other, impl.GraphOpen())
		if !asBefore() || !otherAsBefore() {
			t.Errorf("%s: the argument is written into", what)
		}
	}
}

// TestGraphOpenMemory has two answers: what is done to one is not done to the other.
func TestGraphOpenMemory(t *testing.T) {
	first, second := impl.GraphOpen(), impl.GraphOpen()
	scribbleGraph(first)
	for _, g := range []impl.Graph{second, impl.GraphOpen()} {
		if !sameRows(g, noBonds().graph()) {
			t.Errorf("got %v", g)
		}
	}
}

func TestOpDoMemory(t *testing.T) {
	calls := []func(v impl.Val, op impl.Op) impl.Val{impl.OpDo, impl.OpBack}
	lists := [][]impl.Edge{{}, edges(3, 5), edges(2, 9, 1, 5, 3, 5), edges(6, 4, 7, 2), edges(1, 5, 2, 9), edges(3, 5, 3, 5), edges(0, 9, 1, 9, 2, 9, 3, 9, 4, 9, 5, 9, 6, 9, 7, 9)}
	for which, call := range calls {
		for _, plain := range lists {
			for _, op := range graphOps() {
				list, all := roomy(plain)
				before := slices.Clone(all)
				v := impl.Val{Num: 7, Kin: list}
				got := call(v, op)
				if !slices.Equal(all, before) {
					t.Errorf("call %d, %v, %v: the argument is written into", which, plain, op)
				}
				num, kept := got.Num, slices.Clone(got.Kin)
				scribble(got.Kin)
				if !slices.Equal(all, before) {
					t.Errorf("call %d, %v, %v: the answer shares memory with the argument", which, plain, op)
				}
				if again := call(v, op); !sameVal(again, impl.Val{Num: num, Kin: kept}) {
					t.Errorf("call %d, %v, %v: once more: got %v, want %v", which, plain, op, again, kept)
				}
			}
		}
	}
}
