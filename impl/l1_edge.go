package impl

import (
	"cmp"
	"iter"
	"slices"
	"strconv"
	"strings"
)

// Edge is somebody, and since when.
type Edge struct {
	Who int
	At  int
}

// Bounds of lists.
const (
	EdgeWho = 8
	EdgeAt  = 1000
)

// edgeMaxText is how many bytes a text has at most that is read as a list.
const edgeMaxText = 200

// EdgeOk says whether a list is one.
func EdgeOk(list []Edge) bool {
	// The order tells one who is there twice since one time, but not since two.
	var met [EdgeWho]bool
	for _, e := range list {
		if !edgeRight(e) || met[e.Who] {
			return false
		}
		met[e.Who] = true
	}
	return slices.IsSortedFunc(list, compareEdges)
}

// EdgeSame says whether two lists are one.
func EdgeSame(a []Edge, b []Edge) bool {
	return slices.Equal(a, b)
}

// EdgeAdd is a list with somebody, since a time.
func EdgeAdd(list []Edge, who int, at int) ([]Edge, bool) {
	e := Edge{Who: who, At: at}
	if !EdgeOk(list) || !edgeRight(e) {
		return nil, false
	}
	others := edgesWithout(list, who)
	return slices.Insert(others, edgePlace(others, e, compareEdges), e), true
}

// EdgeDrop is a list without somebody.
func EdgeDrop(list []Edge, who int) ([]Edge, bool) {
	if !EdgeOk(list) {
		return nil, false
	}
	others := edgesWithout(list, who)
	return others, len(others) < len(list)
}

// EdgeHas is since when somebody is in a list.
func EdgeHas(list []Edge, who int) (int, bool) {
	// A list that is not ok is asked too, so each place is looked at.
	for _, e := range list {
		if e.Who == who {
			return e.At, true
		}
	}
	return 0, false
}

// EdgeRange is so many of a list, from a place on.
func EdgeRange(list []Edge, from int, n int) []Edge {
	var some []Edge
	for e := range edgesFrom(list, from) {
		// Counted here: from and n added up may be too great for an int.
		if len(some) >= n {
			break
		}
		some = append(some, e)
	}
	return some
}

// EdgeTime is those of a list since a time of two.
func EdgeTime(list []Edge, low int, high int) []Edge {
	return gatherEdges(edgesThat(list, func(e Edge) bool { return low <= e.At && e.At <= high }))
}

// EdgeText writes a list.
func EdgeText(list []Edge) string {
	words := make([]string, len(list))
	for place, e := range list {
		words[place] = strconv.Itoa(e.Who) + "@" + strconv.Itoa(e.At)
	}
	return "(" + strings.Join(words, " ") + ")"
}

// EdgeRead reads a list.
func EdgeRead(text string) ([]Edge, bool) {
	if len(text) > edgeMaxText {
		return nil, false
	}
	list, read := readEdges(text)
	// A number is read with a sign or needless zeros too: what is written back tells these.
	if !read || !EdgeOk(list) || EdgeText(list) != text {
		return nil, false
	}
	return list, true
}

// edgeRight says whether there is such a one, and such a time.
func edgeRight(e Edge) bool {
	return 0 <= e.Who && e.Who < EdgeWho && 0 <= e.At && e.At <= EdgeAt
}

// compareEdges is the order of lists: the later time first, of one time the lesser Who.
func compareEdges(a Edge, b Edge) int {
	return cmp.Or(cmp.Compare(b.At, a.At), cmp.Compare(a.Who, b.Who))
}

// edgePlace is where an edge belongs in a list that has that order.
func edgePlace(list []Edge, e Edge, compare func(a Edge, b Edge) int) int {
	place, _ := slices.BinarySearchFunc(list, e, compare)
	return place
}

// edgesFrom yields the edges from a place on.
func edgesFrom(list []Edge, from int) iter.Seq[Edge] {
	return func(yield func(Edge) bool) {
		if from < 0 {
			return
		}
		for place := from; place < len(list); place++ {
			if !yield(list[place]) {
				return
			}
		}
	}
}

// edgesThat yields the edges that are wanted, in their order.
func edgesThat(list []Edge, wanted func(e Edge) bool) iter.Seq[Edge] {
	return func(yield func(Edge) bool) {
		for _, e := range list {
			if wanted(e) && !yield(e) {
				return
			}
		}
	}
}

// edgesWithout is all edges but those of somebody, as a list of its own.
func edgesWithout(list []Edge, who int) []Edge {
	return gatherEdges(edgesThat(list, func(e Edge) bool { return e.Who != who }))
}

// gatherEdges makes a list of what is yielded.
func gatherEdges(edges iter.Seq[Edge]) []Edge {
	var list []Edge
	for e := range edges {
		list = append(list, e)
	}
	return list
}

// readEdges reads the edges between the brackets of a text.
func readEdges(text string) ([]Edge, bool) {
	inner, opened := strings.CutPrefix(text, "(")
	inner, closed := strings.CutSuffix(inner, ")")
	if !opened || !closed {
		return nil, false
	}
	if inner == "" {
		return nil, true
	}
	var list []Edge
	for word := range strings.SplitSeq(inner, " ") {
		e, read := readEdge(word)
		if !read {
			return nil, false
		}
		list = append(list, e)
	}
	return list, true
}

// readEdge reads one edge.
func readEdge(word string) (Edge, bool) {
	who, at, parted := strings.Cut(word, "@")
	whoNum, whoErr := strconv.Atoi(who)
	atNum, atErr := strconv.Atoi(at)
	if !parted || whoErr != nil || atErr != nil {
		return Edge{}, false
	}
	return Edge{Who: whoNum, At: atNum}, true
}
