package tests

import (
	"math"
	"slices"
	"strconv"
	"strings"
	"testing"

	"loop.example/kith/impl"
)

func TestEdgeText(t *testing.T) {
	for _, c := range []struct {
		list []impl.Edge
		want string
	}{
		{nil, "()"},
		{[]impl.Edge{}, "()"},
		{edges(0, 0), "(0@0)"},
		{edges(7, 1000), "(7@1000)"},
		{edges(2, 9, 1, 5, 3, 5), "(2@9 1@5 3@5)"},
		{edges(0, 10, 1, 10, 2, 10, 3, 10, 4, 10, 5, 10, 6, 10, 7, 10), "(0@10 1@10 2@10 3@10 4@10 5@10 6@10 7@10)"},
		// A list that is not ok has a text too.
		{edges(1, 5, 1, 5, 3, 900), "(1@5 1@5 3@900)"},
		{edges(-1, -20, 12, 3456), "(-1@-20 12@3456)"},
		{edges(math.MinInt64, math.MaxInt64), "(-9223372036854775808@9223372036854775807)"},
	} {
		if got := impl.EdgeText(c.list); got != c.want {
			t.Errorf("%v: got %q, want %q", c.list, got, c.want)
		}
	}
}

func TestEdgeRead(t *testing.T) {
	for _, c := range []struct {
		text string
		want []impl.Edge
	}{
		{"()", nil},
		{"(0@0)", edges(0, 0)},
		{"(7@1000)", edges(7, 1000)},
		{"(1@10)", edges(1, 10)},
		{"(2@9 1@5 3@5)", edges(2, 9, 1, 5, 3, 5)},
		{"(0@1000 1@1000 2@1000 3@1000 4@1000 5@1000 6@1000 7@1000)", edges(0, 1000, 1, 1000, 2, 1000, 3, 1000, 4, 1000, 5, 1000, 6, 1000, 7, 1000)},
	} {
		got, ok := impl.EdgeRead(c.text)
		if !ok {
			t.Errorf("%q is refused", c.text)
		}
		wantEdges(t, c.text, got, c.want)
	}
}

func TestEdgeReadRefuses(t *testing.T) {
	for _, text := range []string{
		// No brackets, or more than two.
		"", " ", "(", ")", ")(", "1@5", "(1@5", "1@5)", "((1@5))", "((1@5)", "(1@5))", "()()", "(1@5)(0@4)", "(()", "[1@5]",
		// Something ahead or behind.
		" ()", "() ", "()\n", "\n()", "(1@5) ", " (1@5)", "(1@5)x", "x(1@5)", "(1@5)\x00",
		// Spaces too many or too few, and what is no space.
		"( )", "( 1@5)", "(1@5 )", "(2@9  1@5)", "(2@91@5)", "(2@9,1@5)", "(2@9, 1@5)", "(2@9\t1@5)", "(2@9\n1@5)", "(1 @5)", "(1@ 5)", "(2@9 1@5 )", "( 2@9 1@5)", "(2@9\u00a01@5)",
		// Parts that are missing, or too many.
		"(1)", "(@)", "(1@)", "(@5)", "(1@5@6)", "(1@@5)", "(1 5)", "(1@5 2)", "(2@9 @5)", "(2@9 1@)", "(2@9 1@5 @)", "(1-5)",
		// Needless zeros, and signs.
		"(01@5)", "(1@05)", "(00@0)", "(0@00)", "(1@0005)", "(1@01000)", "(+1@5)", "(1@+5)", "(-0@5)", "(1@-0)", "(-1@5)", "(1@-5)", "(--1@5)", "(1@5-)", "(2@9 01@5)", "(2@9 1@+5)",
		// What is no decimal.
		"(a@5)", "(1@x)", "(0x1@5)", "(1@0x5)", "(1@5.0)", "(1@1e2)", "(1@1_0)", "(1@5a)", "(\u0661@5)", "(1@\uff15)", "(1@\xff)",
		// Numbers that are none of an edge, also too great for any int.
		"(8@5)", "(10@5)", "(1@1001)", "(1@10000)", "(2@9 8@5)", "(2@1001 1@5)",
		"(1@9223372036854775807)", "(1@9223372036854775808)", "(1@18446744073709551621)", "(18446744073709551617@5)", "(1@-9223372036854775809)", "(1@4294967301)", "(4294967297@5)", "(1@99999999999999999999999999999999999999)", "(99999999999999999999999999999999999999@5)",
		// Lists that are not ok.
		"(1@5 2@9)", "(2@5 1@5)", "(1@5 1@5)", "(1@9 1@5)", "(1@9 2@7 1@5)",
		"(0@9 1@8 2@7 3@6 4@5 5@4 6@3 7@2 0@1)", "(0@9 1@9 2@9 3@9 4@9 5@9 6@9 7@9 8@9)",
	} {
		if got, ok := impl.EdgeRead(text); ok || len(got) != 0 {
			t.Errorf("%q: got %v, %v", text, got, ok)
		}
	}
}

// TestEdgeReadWrong reads back the texts of lists that are not ok.
func TestEdgeReadWrong(t *testing.T) {
	for what, list := range wrongEdges() {
		text := impl.EdgeText(list)
		if got, ok := impl.EdgeRead(text); ok || len(got) != 0 {
			t.Errorf("%s: %q: got %v, %v", what, text, got, ok)
		}
	}
}

// TestEdgeReadLong has texts at the limit of 200 bytes and one behind it: no list that is ok has so long a text, so both are refused.
func TestEdgeReadLong(t *testing.T) {
	for _, size := range []int{199, 200, 201, 20000} {
		for _, text := range []string{
			"(1@" + strings.Repeat("0", size-5) + "5)",
			"(1@" + strings.Repeat("9", size-4) + ")",
			"(1@5" + strings.Repeat(" ", size-5) + ")",
			"()" + strings.Repeat(" ", size-2),
			strings.Repeat("(", size),
			manyEdges(size),
		} {
			if len(text) != size {
				t.Fatalf("%d bytes, not %d", len(text), size)
			}
			if got, ok := impl.EdgeRead(text); ok || len(got) != 0 {
				t.Errorf("%d bytes: got %v, %v", size, got, ok)
			}
		}
	}
}

// manyEdges is the text of a list of that size that is not ok for somebody being there again and again.
func manyEdges(size int) string {
	text := "(7@1000"
	for len(text)+4 < size-7 {
		text += " 1@5"
	}
	return text + " 2@" + strings.Repeat("1", size-len(text)-4) + ")"
}

// TestEdgeReadShort reads all texts of up to six of these bytes: just those are read that are the text of a list.
func TestEdgeReadShort(t *testing.T) {
	want := map[string]bool{"()": true}
	for _, who := range []int{0, 1} {
		for _, at := range []int{0, 1, 9, 10, 11, 19, 90, 91, 99} {
			want["("+strconv.Itoa(who)+"@"+strconv.Itoa(at)+")"] = true
		}
	}
	count := 0
	eachText("()@ 019-+", 6, "", func(text string) {
		list, ok := impl.EdgeRead(text)
		if ok {
			count++
		}
		if ok != want[text] || ok && impl.EdgeText(list) != text || !ok && len(list) != 0 {
			t.Errorf("%q: got %v, %v", text, list, ok)
		}
	})
	if count != len(want) {
		t.Errorf("%d texts are read, not %d", count, len(want))
	}
}

// eachText gives all texts of at most so many of these bytes behind what there is.
func eachText(bytes string, most int, text string, give func(string)) {
	give(text)
	if most == 0 {
		return
	}
	for place := range len(bytes) {
		eachText(bytes, most-1, text+bytes[place:place+1], give)
	}
}

// TestEdgeReadOneByteOff puts another byte into each place of a text, leaves one out, and puts one in: what is still read is a list that is ok, with that text.
func TestEdgeReadOneByteOff(t *testing.T) {
	text := "(7@1000 2@9 1@5 3@5)"
	try := func(near string) {
		list, ok := impl.EdgeRead(near)
		if ok && (!impl.EdgeOk(list) || impl.EdgeText(list) != near) || !ok && len(list) != 0 {
			t.Errorf("%q: got %v, %v", near, list, ok)
		}
	}
	for place := range len(text) {
		try(text[:place] + text[place+1:])
		for b := range 256 {
			try(text[:place] + string([]byte{byte(b)}) + text[place+1:])
			try(text[:place] + string([]byte{byte(b)}) + text[place:])
		}
	}
}

// TestEdgeReadAll reads back the text of every list of five people and three times.
func TestEdgeReadAll(t *testing.T) {
	count := 0
	eachModel(0, kinModel{-1, -1, -1, -1, -1, -1, -1, -1}, func(model kinModel) {
		count++
		want := model.list()
		got, ok := impl.EdgeRead(impl.EdgeText(want))
		if !ok || !slices.Equal(got, want) {
			t.Errorf("%v: got %v, %v", want, got, ok)
		}
	})
	if count != 4*4*4*4*4 {
		t.Errorf("%d lists", count)
	}
}

// eachModel gives all that these people can have: not there, or since one of three times.
func eachModel(done int, model kinModel, give func(kinModel)) {
	people := []int{0, 1, 3, 6, 7}
	if done == len(people) {
		give(model)
		return
	}
	for _, at := range []int{-1, 0, 10, 1000} {
		model[people[done]] = at
		eachModel(done+1, model, give)
	}
}
