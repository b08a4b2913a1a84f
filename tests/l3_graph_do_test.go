package tests

import (
	"slices"
	"testing"

	"loop.example/kith/impl"
)

// wantDone tells a graph behind a write that is not the one that is wanted.
func wantDone(t *testing.T, what string, g impl.Graph, op impl.Op, want impl.Graph) impl.Graph {
	t.Helper()
	got, ok := impl.GraphDo(g, op)
	if !ok || !sameRows(got, want) {
		t.Fatalf("%s, %v: got %v, %v, want %v", what, op, got, ok, want)
	}
	if !impl.GraphOk(got) {
		t.Fatalf("%s, %v: %v is not ok", what, op, got)
	}
	return got
}

// TestGraphDoSteps has writes one behind the other, each with the rows that have anything behind it.
func TestGraphDoSteps(t *testing.T) {
	g := impl.GraphOpen()
	for _, step := range []struct {
		what string
		op   impl.Op
		rows map[int]string
	}{
		{"a number", set(2, 17), map[int]string{2: "17"}},
		{"a bond", bind(2, 3, 5), map[int]string{2: "17", 18: "(3@5)", 11: "(2@5)"}},
		{"the same once more", bind(2, 3, 5), map[int]string{2: "17", 18: "(3@5)", 11: "(2@5)"}},
		{"another young", bind(2, 1, 9), map[int]string{2: "17", 18: "(1@9 3@5)", 11: "(2@5)", 9: "(2@9)"}},
		{"another elder", bind(0, 3, 5), map[int]string{2: "17", 18: "(1@9 3@5)", 16: "(3@5)", 11: "(0@5 2@5)", 9: "(2@9)"}},
		{"since later", bind(2, 3, 10), map[int]string{2: "17", 18: "(3@10 1@9)", 16: "(3@5)", 11: "(2@10 0@5)", 9: "(2@9)"}},
		{"since earlier", bind(2, 3, 0), map[int]string{2: "17", 18: "(1@9 3@0)", 16: "(3@5)", 11: "(0@5 2@0)", 9: "(2@9)"}},
		{"the other way round too", bind(3, 2, 7), map[int]string{2: "17", 18: "(1@9 3@0)", 16: "(3@5)", 11: "(0@5 2@0)", 9: "(2@9)", 19: "(2@7)", 10: "(3@7)"}},
		{"parted, one way", part(2, 3), map[int]string{2: "17", 18: "(1@9)", 16: "(3@5)", 11: "(0@5)", 9: "(2@9)", 19: "(2@7)", 10: "(3@7)"}},
		{"parted twice", part(2, 3), map[int]string{2: "17", 18: "(1@9)", 16: "(3@5)", 11: "(0@5)", 9: "(2@9)", 19: "(2@7)", 10: "(3@7)"}},
		{"parted that never were", part(6, 7), map[int]string{2: "17", 18: "(1@9)", 16: "(3@5)", 11: "(0@5)", 9: "(2@9)", 19: "(2@7)", 10: "(3@7)"}},
		{"parted, the other way", part(3, 2), map[int]string{2: "17", 18: "(1@9)", 16: "(3@5)", 11: "(0@5)", 9: "(2@9)"}},
		{"bound once more", bind(2, 3, 8), map[int]string{2: "17", 18: "(1@9 3@8)", 16: "(3@5)", 11: "(2@8 0@5)", 9: "(2@9)"}},
		{"a number of 0", set(2, 0), map[int]string{18: "(1@9 3@8)", 16: "(3@5)", 11: "(2@8 0@5)", 9: "(2@9)"}},
		{"the greatest of all", set(7, 1000000), map[int]string{7: "1000000", 18: "(1@9 3@8)", 16: "(3@5)", 11: "(2@8 0@5)", 9: "(2@9)"}},
		{"of the last, at 1000", bind(7, 0, 1000), map[int]string{7: "1000000", 18: "(1@9 3@8)", 16: "(3@5)", 11: "(2@8 0@5)", 9: "(2@9)", 23: "(0@1000)", 8: "(7@1000)"}},
	} {
		want := impl.Graph{Rows: make([]impl.Val, 24)}
		for key, text := range step.rows {
			v, ok := impl.ValRead(key, text)
			if !ok {
				t.Fatalf("%s: %q", step.what, text)
			}
			want.Rows[key] = v
		}
		g = wantDone(t, step.what, g, step.op, want)
	}
}

// TestGraphDoTouchesTwo is promise 3: a write touches its two keys alone, these have what OpDo and OpBack say, and done twice is done once.
func TestGraphDoTouchesTwo(t *testing.T) {
	for what, m := range rightModels() {
		g := m.graph()
		for _, op := range rightOps() {
			got := wantDone(t, what, g, op, m.do(op).graph())
			key, other := impl.OpKey(op), impl.OpOther(op)
			for place, v := range got.Rows {
				want := g.Rows[place]
				switch place {
				case key:
					want = impl.OpDo(want, op)
				case other:
					want = impl.OpBack(want, op)
				}
				if !sameVal(v, want) {
					t.Errorf("%s, %v: key %d: got %v, want %v", what, op, place, v, want)
				}
			}
			wantDone(t, what+", twice", got, op, got)
		}
	}
}

// TestGraphDoAlways is promise 3: whatever is written, each bond is known from both of its ends.
func TestGraphDoAlways(t *testing.T) {
	numbers, times := []int{0, 1, 17, 999999, 1000000}, []int{0, 1, 2, 500, 999, 1000}
	state := uint32(3)
	pick := func(n int) int {
		state = state*1664525 + 1013904223
		return int(state>>16) % n
	}
	m, g := noBonds(), impl.GraphOpen()
	for range 4000 {
		a := pick(8)
		b := (a + 1 + pick(7)) % 8
		op := []impl.Op{set(a, numbers[pick(5)]), bind(a, b, times[pick(6)]), bind(a, b, times[pick(6)]), part(a, b)}[pick(4)]
		m = m.do(op)
		g = wantDone(t, "some", g, op, m.graph())
	}
}

// TestGraphDoInAnyOrder has writes of different keys in all orders: they come to the same graph.
func TestGraphDoInAnyOrder(t *testing.T) {
	ops := []impl.Op{bind(2, 3, 5), bind(2, 1, 9), bind(0, 3, 5), set(2, 17), bind(3, 2, 5)}
	want := behind(ops...).graph()
	places := edges(0, 0, 1, 0, 2, 0, 3, 0, 4, 0)
	eachOrder(places, nil, func(order []impl.Edge) {
		g := impl.GraphOpen()
		for _, e := range order {
			g, _ = impl.GraphDo(g, ops[e.Who])
		}
		if !sameRows(g, want) {
			t.Errorf("%v: got %v, want %v", order, g, want)
		}
	})
}

// TestGraphDoFull has somebody whose young and whose elders are all seven others.
func TestGraphDoFull(t *testing.T) {
	m := rightModels()["full"]
	g := m.graph()
	if len(g.Rows[16].Kin) != 7 || len(g.Rows[8].Kin) != 7 {
		t.Fatal(g)
	}
	for who := 1; who < 8; who++ {
		for _, op := range []impl.Op{bind(0, who, who), bind(0, who, 1000), bind(0, who, 0), bind(who, 0, 500), bind(who, 0, 501), part(0, who), part(who, 0)} {
			wantDone(t, "full", g, op, m.do(op).graph())
		}
	}
}

// TestGraphDoOfWrongWrites has a graph as it is behind a write that is not ok.
func TestGraphDoOfWrongWrites(t *testing.T) {
	for what, m := range rightModels() {
		g := m.graph()
		for _, op := range wrongOps() {
			if got, ok := impl.GraphDo(g, op); ok || !sameRows(got, g) {
				t.Errorf("%s, %v: got %v, %v", what, op, got, ok)
			}
		}
	}
}

// TestGraphDoOfWrongGraphs has nothing of a graph that is not ok, whatever is written.
func TestGraphDoOfWrongGraphs(t *testing.T) {
	for what, g := range wrongGraphs() {
		for _, op := range slices.Concat(rightOps(), wrongOps()) {
			if got, ok := impl.GraphDo(g, op); ok || len(got.Rows) != 0 {
				t.Errorf("%s, %v: got %v, %v", what, op, got, ok)
			}
		}
	}
}
