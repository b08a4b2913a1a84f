package tests

import (
	"math"
	"slices"
	"testing"

	"loop.example/kith/impl"
)

// edges makes a list of numbers by twos: who, and since when.
func edges(numbers ...int) []impl.Edge {
	var list []impl.Edge
	for place := 0; place+1 < len(numbers); place += 2 {
		list = append(list, impl.Edge{Who: numbers[place], At: numbers[place+1]})
	}
	return list
}

// wantEdges tells a list that is not the one that is wanted.
func wantEdges(t *testing.T, what string, got []impl.Edge, want []impl.Edge) {
	t.Helper()
	if !slices.Equal(got, want) {
		t.Errorf("%s: got %v, want %v", what, got, want)
	}
}

// wrongEdges are lists that are not ok.
func wrongEdges() map[string][]impl.Edge {
	return map[string][]impl.Edge{
		"a lesser time ahead of a greater":        edges(1, 5, 2, 6),
		"a lesser time ahead, the others right":   edges(4, 9, 1, 5, 2, 6, 3, 1),
		"of one time the greater who ahead":       edges(2, 5, 1, 5),
		"of one time, behind others":              edges(7, 9, 0, 5, 3, 5, 2, 5),
		"somebody twice since one time":           edges(1, 5, 1, 5),
		"somebody twice since two times":          edges(1, 9, 1, 5),
		"somebody twice, another one between":     edges(1, 9, 2, 7, 1, 5),
		"the last one is the first one once more": edges(0, 8, 1, 7, 2, 6, 3, 5, 4, 4, 5, 3, 6, 2, 0, 1),
		"who 8":                     edges(8, 5),
		"who below 0":               edges(-1, 5),
		"who far above":             edges(math.MaxInt, 5),
		"who far below":             edges(math.MinInt, 5),
		"at 1001":                   edges(1, 1001),
		"at below 0":                edges(1, -1),
		"at far above":              edges(1, math.MaxInt),
		"at far below":              edges(1, math.MinInt),
		"who 8 behind a right one":  edges(7, 5, 8, 5),
		"at below 0 behind a right": edges(1, 5, 2, -1),
		"nine":                      edges(0, 9, 1, 9, 2, 9, 3, 9, 4, 9, 5, 9, 6, 9, 7, 9, 8, 9),
	}
}

func TestEdgeOk(t *testing.T) {
	for _, list := range [][]impl.Edge{
		nil,
		{},
		edges(0, 0),
		edges(7, 1000),
		edges(0, 1000, 7, 0),
		edges(7, 1000, 0, 0),
		edges(1, 5, 2, 5),
		edges(2, 9, 1, 5, 3, 5),
		edges(0, 3, 1, 3, 2, 3, 3, 3, 4, 3, 5, 3, 6, 3, 7, 3),
		edges(7, 8, 6, 7, 5, 6, 4, 5, 3, 4, 2, 3, 1, 2, 0, 1),
	} {
		if !impl.EdgeOk(list) {
			t.Errorf("%v is ok", list)
		}
	}
	for what, list := range wrongEdges() {
		if impl.EdgeOk(list) {
			t.Errorf("%s: %v is not ok", what, list)
		}
	}
}

func TestEdgeOkOfOneOrderAlone(t *testing.T) {
	right := edges(4, 9, 0, 5, 3, 5, 6, 2)
	count := 0
	eachOrder(right, nil, func(list []impl.Edge) {
		count++
		if ok, want := impl.EdgeOk(list), slices.Equal(list, right); ok != want {
			t.Errorf("%v: got %v, want %v", list, ok, want)
		}
	})
	if count != 24 {
		t.Errorf("%d orders", count)
	}
}

// eachOrder gives all orders of the edges that are left, behind those that were taken.
func eachOrder(left []impl.Edge, taken []impl.Edge, give func([]impl.Edge)) {
	if len(left) == 0 {
		give(taken)
		return
	}
	for place, e := range left {
		others := slices.Delete(slices.Clone(left), place, place+1)
		eachOrder(others, append(slices.Clone(taken), e), give)
	}
}

func TestEdgeSame(t *testing.T) {
	list := edges(2, 9, 1, 5, 3, 5)
	for _, same := range [][2][]impl.Edge{
		{nil, nil},
		{nil, {}},
		{{}, nil},
		{list, slices.Clone(list)},
		{edges(-1, 2000, -1, 2000), edges(-1, 2000, -1, 2000)},
	} {
		if !impl.EdgeSame(same[0], same[1]) {
			t.Errorf("%v and %v are the same", same[0], same[1])
		}
	}
	for _, other := range [][]impl.Edge{
		nil,
		edges(2, 9, 1, 5),
		edges(2, 9, 1, 5, 3, 5, 4, 1),
		edges(2, 9, 3, 5, 1, 5),
		edges(2, 8, 1, 5, 3, 5),
		edges(0, 9, 1, 5, 3, 5),
		edges(2, 9, 1, 5, 3, 4),
		edges(2, 9, 1, 5, 4, 5),
	} {
		if impl.EdgeSame(list, other) || impl.EdgeSame(other, list) {
			t.Errorf("%v and %v are not the same", list, other)
		}
	}
}

func TestEdgeAdd(t *testing.T) {
	list := edges(2, 9, 1, 5, 3, 5)
	for _, c := range []struct {
		what    string
		list    []impl.Edge
		who, at int
		want    []impl.Edge
	}{
		{"into none", nil, 4, 7, edges(4, 7)},
		{"into an empty list", []impl.Edge{}, 4, 7, edges(4, 7)},
		{"first", list, 4, 10, edges(4, 10, 2, 9, 1, 5, 3, 5)},
		{"between", list, 4, 7, edges(2, 9, 4, 7, 1, 5, 3, 5)},
		{"last", list, 4, 4, edges(2, 9, 1, 5, 3, 5, 4, 4)},
		{"of one time, the least", list, 0, 5, edges(2, 9, 0, 5, 1, 5, 3, 5)},
		{"of one time, the greatest", list, 7, 5, edges(2, 9, 1, 5, 3, 5, 7, 5)},
		{"of one time, between", edges(1, 5, 4, 5), 3, 5, edges(1, 5, 3, 5, 4, 5)},
		{"once more, since later", list, 1, 10, edges(1, 10, 2, 9, 3, 5)},
		{"once more, since later, in its place", list, 1, 6, edges(2, 9, 1, 6, 3, 5)},
		{"once more, since the time of another one", list, 1, 9, edges(1, 9, 2, 9, 3, 5)},
		{"once more, since earlier", list, 2, 5, edges(1, 5, 2, 5, 3, 5)},
		{"once more, since earliest", list, 2, 0, edges(1, 5, 3, 5, 2, 0)},
		{"once more, since the same", list, 1, 5, list},
		{"the only one, since another time", edges(6, 3), 6, 4, edges(6, 4)},
		{"who 0, at 0", list, 0, 0, edges(2, 9, 1, 5, 3, 5, 0, 0)},
		{"who 7, at 1000", list, 7, 1000, edges(7, 1000, 2, 9, 1, 5, 3, 5)},
	} {
		got, ok := impl.EdgeAdd(c.list, c.who, c.at)
		if !ok {
			t.Errorf("%s: refused", c.what)
		}
		wantEdges(t, c.what, got, c.want)
	}
}

func TestEdgeAddRefuses(t *testing.T) {
	for _, e := range edges(8, 5, -1, 5, math.MaxInt, 5, math.MinInt, 5, 1, 1001, 1, -1, 1, math.MaxInt, 1, math.MinInt, 8, 1001) {
		for _, list := range [][]impl.Edge{nil, edges(2, 9, 1, 5)} {
			if got, ok := impl.EdgeAdd(list, e.Who, e.At); ok || len(got) != 0 {
				t.Errorf("%v with %v: got %v, %v", list, e, got, ok)
			}
		}
	}
	for what, list := range wrongEdges() {
		for _, e := range edges(0, 0, 1, 5, 1, 7, 2, 1000) {
			if got, ok := impl.EdgeAdd(list, e.Who, e.At); ok || len(got) != 0 {
				t.Errorf("%s: %v with %v: got %v, %v", what, list, e, got, ok)
			}
		}
	}
}

func TestEdgeDrop(t *testing.T) {
	list := edges(2, 9, 1, 5, 3, 5)
	for _, c := range []struct {
		what string
		list []impl.Edge
		who  int
		want []impl.Edge
		had  bool
	}{
		{"the first", list, 2, edges(1, 5, 3, 5), true},
		{"the middle one", list, 1, edges(2, 9, 3, 5), true},
		{"the last", list, 3, edges(2, 9, 1, 5), true},
		{"the only one", edges(0, 0), 0, nil, true},
		{"who 7", edges(7, 1000, 1, 5), 7, edges(1, 5), true},
		{"one who is not there", list, 4, list, false},
		{"who 0, who is not there", list, 0, list, false},
		{"out of none", nil, 1, nil, false},
		{"out of an empty list", []impl.Edge{}, 1, nil, false},
		{"who 8", list, 8, list, false},
		{"who below 0", list, -1, list, false},
		{"who far above", list, math.MaxInt, list, false},
		{"who far below", list, math.MinInt, list, false},
	} {
		got, had := impl.EdgeDrop(c.list, c.who)
		if had != c.had {
			t.Errorf("%s: had %v", c.what, had)
		}
		wantEdges(t, c.what, got, c.want)
	}
	for what, list := range wrongEdges() {
		for who := -1; who <= 8; who++ {
			if got, had := impl.EdgeDrop(list, who); had || len(got) != 0 {
				t.Errorf("%s: %v without %d: got %v, %v", what, list, who, got, had)
			}
		}
	}
}

func TestEdgeHas(t *testing.T) {
	list := edges(7, 1000, 2, 9, 1, 5, 3, 5, 0, 0)
	for _, c := range []struct {
		list    []impl.Edge
		who, at int
		has     bool
	}{
		{list, 7, 1000, true},
		{list, 2, 9, true},
		{list, 1, 5, true},
		{list, 3, 5, true},
		{list, 0, 0, true},
		{list, 4, 0, false},
		{list, 8, 0, false},
		{list, -1, 0, false},
		{list, math.MaxInt, 0, false},
		{list, math.MinInt, 0, false},
		{nil, 0, 0, false},
		{[]impl.Edge{}, 0, 0, false},
		// It is asked of any list: the first of somebody is told, in whatever order they stand.
		{edges(1, 4, 1, 9, 1, 2), 1, 4, true},
		{edges(1, 2, 0, 7, 4, 3, 0, 8), 0, 7, true},
		{edges(9, 2000, -3, -4), -3, -4, true},
		{edges(9, 2000, -3, -4), 9, 2000, true},
		{edges(9, 2000, -3, -4), 0, 0, false},
	} {
		if at, has := impl.EdgeHas(c.list, c.who); at != c.at || has != c.has {
			t.Errorf("%v has %d: got %d, %v, want %d, %v", c.list, c.who, at, has, c.at, c.has)
		}
	}
}

func TestEdgeRange(t *testing.T) {
	list := edges(4, 9, 2, 8, 1, 5, 3, 5)
	for _, c := range []struct {
		from, n int
		want    []impl.Edge
	}{
		{0, 0, nil},
		{0, 1, list[:1]},
		{0, 4, list},
		{0, 5, list},
		{1, 2, list[1:3]},
		{1, 3, list[1:]},
		{1, 4, list[1:]},
		{2, 1, list[2:3]},
		{3, 1, list[3:]},
		{3, 9, list[3:]},
		{4, 1, nil},
		{5, 1, nil},
		{-1, 1, nil},
		{-1, 9, nil},
		{-2, 4, nil},
		{0, -1, nil},
		{2, -1, nil},
		{5, -1, nil},
		{-1, -1, nil},
		{0, math.MaxInt, list},
		{1, math.MaxInt, list[1:]},
		{3, math.MaxInt, list[3:]},
		{4, math.MaxInt, nil},
		{math.MaxInt, 1, nil},
		{math.MaxInt, math.MaxInt, nil},
		{math.MinInt, math.MaxInt, nil},
		{math.MinInt, math.MinInt, nil},
		{0, math.MinInt, nil},
		{1, math.MinInt, nil},
		{math.MaxInt, math.MinInt, nil},
	} {
		wantEdges(t, "range", impl.EdgeRange(list, c.from, c.n), c.want)
		wantEdges(t, "range of none", impl.EdgeRange(nil, c.from, c.n), nil)
	}
	wrong := edges(1, 5, 9, 2000, 1, 5, -2, -6)
	wantEdges(t, "of a list that is not ok", impl.EdgeRange(wrong, 1, 2), edges(9, 2000, 1, 5))
}

func TestEdgeTime(t *testing.T) {
	list := edges(7, 1000, 4, 9, 2, 8, 1, 5, 3, 5, 0, 0)
	for _, c := range []struct {
		low, high int
		want      []impl.Edge
	}{
		{0, 1000, list},
		{5, 9, edges(4, 9, 2, 8, 1, 5, 3, 5)},
		{5, 8, edges(2, 8, 1, 5, 3, 5)},
		{6, 8, edges(2, 8)},
		{5, 5, edges(1, 5, 3, 5)},
		{6, 7, nil},
		{0, 0, edges(0, 0)},
		{1000, 1000, edges(7, 1000)},
		{1, 999, list[1:5]},
		{9, 5, nil},
		{6, 5, nil},
		{1000, 0, nil},
		{1001, 2000, nil},
		{-9, -1, nil},
		{-9, 5, edges(1, 5, 3, 5, 0, 0)},
		{9, 2000, edges(7, 1000, 4, 9)},
		{math.MinInt, math.MaxInt, list},
		{math.MaxInt, math.MinInt, nil},
	} {
		wantEdges(t, "time", impl.EdgeTime(list, c.low, c.high), c.want)
		wantEdges(t, "time of none", impl.EdgeTime(nil, c.low, c.high), nil)
	}
	wrong := edges(1, 5, 9, 2000, 2, 7, 1, 5, -2, -6, 3, 6)
	wantEdges(t, "of a list that is not ok", impl.EdgeTime(wrong, 5, 6), edges(1, 5, 1, 5, 3, 6))
	wantEdges(t, "of times that are none", impl.EdgeTime(wrong, math.MinInt, -1), edges(-2, -6))
}

// kinModel is a list as plain as it can be told: of everybody the time, or -1.
type kinModel [impl.EdgeWho]int

// list is the list of the model, found by going through all times.
func (m kinModel) list() []impl.Edge {
	var list []impl.Edge
	for at := impl.EdgeAt; at >= 0; at-- {
		for who, since := range m {
			if since == at {
				list = append(list, impl.Edge{Who: who, At: at})
			}
		}
	}
	return list
}

// TestEdgeAlways is promise 1: whatever is put in and dropped, the list is that of the model.
func TestEdgeAlways(t *testing.T) {
	times := []int{0, 1, 2, 500, 999, 1000}
	model := kinModel{-1, -1, -1, -1, -1, -1, -1, -1}
	var list []impl.Edge
	state := uint32(1)
	pick := func(n int) int {
		state = state*1664525 + 1013904223
		return int(state>>16) % n
	}
	for range 5000 {
		who, at := pick(impl.EdgeWho), times[pick(len(times))]
		if pick(3) == 0 {
			had := model[who] >= 0
			model[who] = -1
			got, dropped := impl.EdgeDrop(list, who)
			if dropped != had {
				t.Fatalf("%v without %d: dropped %v", list, who, dropped)
			}
			list = got
		} else {
			model[who] = at
			got, ok := impl.EdgeAdd(list, who, at)
			if !ok {
				t.Fatalf("%v with %d since %d: refused", list, who, at)
			}
			list = got
		}
		checkModel(t, list, model)
	}
}

// checkModel holds all that can be asked of a list against the model.
func checkModel(t *testing.T, list []impl.Edge, model kinModel) {
	t.Helper()
	if !impl.EdgeOk(list) || !impl.EdgeSame(list, model.list()) {
		t.Fatalf("got %v, want %v", list, model.list())
	}
	for who, since := range model {
		at, has := impl.EdgeHas(list, who)
		if has != (since >= 0) || at != max(since, 0) {
			t.Fatalf("%v has %d: got %d, %v", list, who, at, has)
		}
	}
	read, ok := impl.EdgeRead(impl.EdgeText(list))
	if !ok || !slices.Equal(read, list) {
		t.Fatalf("%v is read as %v, %v", list, read, ok)
	}
}

// TestEdgeAddInAnyOrder puts the same into a list in all orders.
func TestEdgeAddInAnyOrder(t *testing.T) {
	want := edges(6, 1000, 0, 7, 3, 7, 5, 7, 1, 0)
	eachOrder(want, nil, func(order []impl.Edge) {
		var list []impl.Edge
		for _, e := range order {
			list, _ = impl.EdgeAdd(list, e.Who, e.At)
		}
		if !slices.Equal(list, want) {
			t.Errorf("%v: got %v", order, list)
		}
	})
}
