package tests

import (
	"slices"
	"testing"

	"loop.example/kith/impl"
)

// graphModel is a graph as plain as it can be told: everybody's number, and of each two the time, or -1.
type graphModel struct {
	nums  [8]int
	since [8][8]int // of the elder, then of the young
}

// noBonds is the model in which nobody has anything.
func noBonds() graphModel {
	var m graphModel
	for a := range 8 {
		for b := range 8 {
			m.since[a][b] = -1
		}
	}
	return m
}

// do is the model behind a write that is ok.
func (m graphModel) do(op impl.Op) graphModel {
	switch op.Kind {
	case 1:
		m.nums[op.A] = op.N
	case 2:
		m.since[op.A][op.B] = op.N
	case 3:
		m.since[op.A][op.B] = -1
	}
	return m
}

// graph is the graph of the model.
func (m graphModel) graph() impl.Graph {
	rows := make([]impl.Val, 24)
	for who := range 8 {
		var elders, young kinModel
		for other := range 8 {
			elders[other], young[other] = m.since[other][who], m.since[who][other]
		}
		rows[who] = thing(m.nums[who])
		rows[8+who] = impl.Val{Kin: elders.list()}
		rows[16+who] = impl.Val{Kin: young.list()}
	}
	return impl.Graph{Rows: rows}
}

// sameRows says whether two graphs are one, asked of nothing that is tested.
func sameRows(a impl.Graph, b impl.Graph) bool {
	return slices.EqualFunc(a.Rows, b.Rows, sameVal)
}

// behind is the model behind some writes.
func behind(ops ...impl.Op) graphModel {
	m := noBonds()
	for _, op := range ops {
		m = m.do(op)
	}
	return m
}

// rightModels are models that several writes have made.
func rightModels() map[string]graphModel {
	full := behind(set(0, 1000000))
	for who := 1; who < 8; who++ {
		full = full.do(bind(0, who, who)).do(bind(who, 0, 500))
	}
	all := noBonds()
	for a := range 8 {
		for b := range 8 {
			if a != b {
				all = all.do(bind(a, b, (a*8+b)%3))
			}
		}
	}
	return map[string]graphModel{
		"none":    noBonds(),
		"numbers": behind(set(0, 1), set(2, 17), set(7, 1000000)),
		"one":     behind(bind(2, 3, 5)),
		"some": behind(set(2, 17), bind(2, 3, 5), bind(2, 1, 9), bind(4, 3, 5), bind(0, 7, 0), bind(7, 0, 1000), bind(3, 6, 5), bind(1, 3, 5),
			part(2, 1), bind(2, 1, 4), set(3, 8)),
		"full": full,
		"all":  all,
	}
}

// withRow is a graph with another row; it shares none with the graph.
func withRow(g impl.Graph, key int, v impl.Val) impl.Graph {
	rows := slices.Clone(g.Rows)
	rows[key] = v
	return impl.Graph{Rows: rows}
}

// wrongGraphs are graphs that are not ok.
func wrongGraphs() map[string]impl.Graph {
	open := noBonds().graph()
	some := rightModels()["some"].graph()
	wrong := map[string]impl.Graph{
		"no rows":                 {},
		"an empty list":           {Rows: []impl.Val{}},
		"one row":                 {Rows: make([]impl.Val, 1)},
		"one row too few":         {Rows: open.Rows[:23]},
		"one row too many":        {Rows: append(slices.Clone(open.Rows), impl.Val{})},
		"some, one row too few":   {Rows: some.Rows[1:]},
		"some, one row too many":  {Rows: append(slices.Clone(some.Rows), thing(17))},
		"twice as many":           {Rows: slices.Concat(open.Rows, open.Rows)},
		"a number below 0":        withRow(open, 2, thing(-1)),
		"a number too great":      withRow(open, 7, thing(1000001)),
		"a number with kin":       withRow(open, 2, bond(3, 5)),
		"elders with a number":    withRow(open, 11, thing(17)),
		"young with a number":     withRow(open, 23, thing(1)),
		"young and a number":      withRow(some, 18, impl.Val{Num: 1, Kin: some.Rows[18].Kin}),
		"young, the elder not":    withRow(open, 18, bond(3, 5)),
		"elder, the young not":    withRow(open, 11, bond(2, 5)),
		"young since another":     withRow(behind(bind(2, 3, 5)).graph(), 18, bond(3, 6)),
		"elder since another":     withRow(behind(bind(2, 3, 5)).graph(), 11, bond(2, 4)),
		"young of each other":     withRow(withRow(open, 18, bond(3, 5)), 19, bond(2, 5)),
		"elders of each other":    withRow(withRow(open, 10, bond(3, 5)), 11, bond(2, 5)),
		"the other way round":     withRow(withRow(open, 18, bond(3, 5)), 10, bond(3, 5)),
		"of somebody else":        withRow(withRow(open, 18, bond(3, 5)), 12, bond(2, 5)),
		"his own young alone":     withRow(open, 18, bond(2, 5)),
		"his own elder alone":     withRow(open, 10, bond(2, 5)),
		"his own, since two":      withRow(withRow(open, 10, bond(2, 5)), 18, bond(2, 6)),
		"one more young, the end": withRow(some, 23, bond(0, 1000, 6, 1)),
	}
	for what, list := range wrongEdges() {
		wrong["young: "+what] = withRow(open, 17, impl.Val{Kin: list})
		wrong["elders: "+what] = withRow(open, 9, impl.Val{Kin: list})
		wrong["both: "+what] = withRow(withRow(open, 9, impl.Val{Kin: list}), 17, impl.Val{Kin: list})
	}
	return wrong
}

func TestGraphOpen(t *testing.T) {
	g := impl.GraphOpen()
	if len(g.Rows) != 24 {
		t.Fatalf("%d rows", len(g.Rows))
	}
	for key, v := range g.Rows {
		if !isNothing(v) {
			t.Errorf("key %d has %v", key, v)
		}
	}
	if !impl.GraphOk(g) {
		t.Error("it is not ok")
	}
}

func TestGraphOk(t *testing.T) {
	for what, m := range rightModels() {
		g := m.graph()
		if !impl.GraphOk(g) {
			t.Errorf("%s: %v is ok", what, g)
		}
		// The empty list and the nil list are the same value.
		for key, v := range g.Rows {
			if len(v.Kin) == 0 {
				g.Rows[key].Kin = []impl.Edge{}
			}
		}
		if !impl.GraphOk(g) {
			t.Errorf("%s, empty lists: %v is ok", what, g)
		}
	}
	for what, g := range wrongGraphs() {
		if impl.GraphOk(g) {
			t.Errorf("%s: %v is not ok", what, g)
		}
	}
}

// TestGraphOkOfHisOwn has a bond of somebody to himself: no write makes it, but the document doesn't bar it if both ends know it.
func TestGraphOkOfHisOwn(t *testing.T) {
	g := withRow(withRow(impl.GraphOpen(), 10, bond(2, 5)), 18, bond(2, 5))
	if !impl.GraphOk(g) {
		t.Error("known from both ends")
	}
	got, ok := impl.GraphDo(g, bind(2, 3, 5))
	want := withRow(withRow(g, 18, bond(2, 5, 3, 5)), 11, bond(2, 5))
	if !ok || !sameRows(got, want) {
		t.Errorf("got %v, %v", got, ok)
	}
}

// TestGraphOkOneOff has at each key one less, one more, and one since another time: the other end knows nothing of it.
func TestGraphOkOneOff(t *testing.T) {
	for what, m := range rightModels() {
		g := m.graph()
		for key := 8; key < 24; key++ {
			for who := range 8 {
				old, has := impl.EdgeHas(g.Rows[key].Kin, who)
				less, _ := impl.EdgeDrop(g.Rows[key].Kin, who)
				if has && impl.GraphOk(withRow(g, key, impl.Val{Kin: less})) {
					t.Errorf("%s: key %d without %d is ok", what, key, who)
				}
				for _, at := range []int{0, 1, 2, 4, 5, 6, 9, 500, 999, 1000} {
					other, _ := impl.EdgeAdd(g.Rows[key].Kin, who, at)
					is := has && old == at
					if impl.GraphOk(withRow(g, key, impl.Val{Kin: other})) != is {
						t.Errorf("%s: key %d with %d since %d: ok is not %v", what, key, who, at, is)
					}
				}
			}
		}
	}
}

func TestGraphSame(t *testing.T) {
	graphs := wrongGraphs()
	// These two have no rows, so they are one.
	delete(graphs, "an empty list")
	for what, m := range rightModels() {
		graphs[what] = m.graph()
	}
	// Graphs that are not ok are asked too.
	for a, g := range graphs {
		copied := impl.Graph{Rows: slices.Clone(g.Rows)}
		if !impl.GraphSame(g, copied) {
			t.Errorf("%s: not the same as itself", a)
		}
		for b, h := range graphs {
			if got, want := impl.GraphSame(g, h), sameRows(g, h); got != want {
				t.Errorf("%s and %s: got %v, want %v", a, b, got, want)
			}
		}
	}
	if !impl.GraphSame(impl.Graph{}, impl.Graph{Rows: []impl.Val{}}) {
		t.Error("no rows are no rows")
	}
}

// TestGraphSameOneOff has another row at each key, and one row more or less.
func TestGraphSameOneOff(t *testing.T) {
	g := rightModels()["some"].graph()
	for key, v := range g.Rows {
		empty := v
		if len(v.Kin) == 0 {
			empty.Kin = []impl.Edge{}
		}
		if h := withRow(g, key, empty); !impl.GraphSame(g, h) || !impl.GraphSame(h, g) {
			t.Errorf("key %d: an empty list is the same as nil", key)
		}
		for _, other := range []impl.Val{{Num: v.Num + 1, Kin: v.Kin}, {Num: v.Num, Kin: append(slices.Clone(v.Kin), impl.Edge{Who: 5, At: 0})}, {Num: -1}} {
			if h := withRow(g, key, other); impl.GraphSame(g, h) || impl.GraphSame(h, g) {
				t.Errorf("key %d: %v is not %v", key, v, other)
			}
		}
	}
	for size := range len(g.Rows) {
		if h := (impl.Graph{Rows: g.Rows[:size]}); impl.GraphSame(g, h) || impl.GraphSame(h, g) {
			t.Errorf("%d rows are not 24", size)
		}
	}
	if h := (impl.Graph{Rows: append(slices.Clone(g.Rows), impl.Val{})}); impl.GraphSame(g, h) || impl.GraphSame(h, g) {
		t.Error("25 rows are not 24")
	}
}
