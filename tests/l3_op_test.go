package tests

import (
	"math"
	"slices"
	"testing"

	"loop.example/kith/impl"
)

// set, bind and part are the writes of the three kinds.
func set(a int, n int) impl.Op {
	return impl.Op{Kind: 1, A: a, N: n}
}

func bind(a int, b int, n int) impl.Op {
	return impl.Op{Kind: 2, A: a, B: b, N: n}
}

func part(a int, b int) impl.Op {
	return impl.Op{Kind: 3, A: a, B: b}
}

// rightOps are all writes of each kind, of all people, with some of the numbers and times.
func rightOps() []impl.Op {
	var ops []impl.Op
	for a := range 8 {
		for _, n := range []int{0, 1, 17, 999999, 1000000} {
			ops = append(ops, set(a, n))
		}
		for b := range 8 {
			if a == b {
				continue
			}
			for _, n := range []int{0, 1, 5, 999, 1000} {
				ops = append(ops, bind(a, b, n))
			}
			ops = append(ops, part(a, b))
		}
	}
	return ops
}

// wrongOps are writes that are not ok.
func wrongOps() []impl.Op {
	ops := []impl.Op{
		{}, {Kind: 0, A: 2, N: 17}, {Kind: 0, A: 2, B: 3, N: 5}, {Kind: 0, A: 2, B: 3},
		{Kind: 4, A: 2, N: 17}, {Kind: 4, A: 2, B: 3, N: 5}, {Kind: 4, A: 2, B: 3},
		{Kind: -1, A: 2, B: 3}, {Kind: -2, A: 2, B: 3, N: 5}, {Kind: math.MaxInt, A: 2, B: 3}, {Kind: math.MinInt, A: 2, B: 3},
		// Numbers that are none.
		set(2, -1), set(2, 1000001), set(0, -1), set(7, 1000001), set(2, math.MaxInt), set(2, math.MinInt),
		// OpSet has no B.
		{Kind: 1, A: 2, B: 1, N: 17}, {Kind: 1, A: 2, B: -1, N: 17}, {Kind: 1, A: 2, B: 2, N: 17}, {Kind: 1, A: 2, B: 7, N: 0}, {Kind: 1, A: 2, B: 8, N: 17},
		// Times that are none.
		bind(2, 3, -1), bind(2, 3, 1001), bind(0, 7, -1), bind(7, 0, 1001), bind(2, 3, math.MaxInt), bind(2, 3, math.MinInt), bind(2, 3, 1000000),
		// OpPart has no N.
		{Kind: 3, A: 2, B: 3, N: 1}, {Kind: 3, A: 2, B: 3, N: -1}, {Kind: 3, A: 2, B: 3, N: 5}, {Kind: 3, A: 2, B: 3, N: 1000}, {Kind: 3, A: 2, B: 3, N: math.MinInt},
	}
	for who := range 8 {
		ops = append(ops, bind(who, who, 0), bind(who, who, 5), bind(who, who, 1000), part(who, who))
	}
	for _, nobody := range []int{-1, 8, -8, 16, 9, math.MaxInt, math.MinInt} {
		ops = append(ops, set(nobody, 17), set(nobody, 0))
		for _, who := range []int{0, 3, 7, nobody} {
			ops = append(ops, bind(nobody, who, 5), bind(who, nobody, 5), part(nobody, who), part(who, nobody))
		}
	}
	return ops
}

func TestOpNames(t *testing.T) {
	if impl.OpSet != 1 || impl.OpBind != 2 || impl.OpPart != 3 {
		t.Error("kinds")
	}
}

func TestOpOk(t *testing.T) {
	for _, op := range rightOps() {
		if !impl.OpOk(op) {
			t.Errorf("%v is ok", op)
		}
	}
	for _, op := range wrongOps() {
		if impl.OpOk(op) {
			t.Errorf("%v is not ok", op)
		}
	}
}

// opTold is the sentence of the document: whether a write is one.
func opTold(op impl.Op) bool {
	aIs, bIs := 0 <= op.A && op.A <= 7, 0 <= op.B && op.B <= 7
	switch op.Kind {
	case 1:
		return aIs && op.B == 0 && 0 <= op.N && op.N <= 1000000
	case 2:
		return aIs && bIs && op.A != op.B && 0 <= op.N && op.N <= 1000
	case 3:
		return aIs && bIs && op.A != op.B && op.N == 0
	}
	return false
}

// eachOp gives all writes of these kinds, people and numbers, ok or not.
func eachOp(give func(op impl.Op)) {
	for kind := -1; kind <= 5; kind++ {
		for a := -2; a <= 9; a++ {
			for b := -2; b <= 9; b++ {
				for _, n := range []int{-1, 0, 1, 5, 1000, 1001, 1000000, 1000001} {
					give(impl.Op{Kind: kind, A: a, B: b, N: n})
				}
			}
		}
	}
}

// TestOpKeys has of all writes whether they are ok, and of which keys they are.
func TestOpKeys(t *testing.T) {
	eachOp(func(op impl.Op) {
		key, other := -1, -1
		if opTold(op) && op.Kind == 1 {
			key = keyTable[0][op.A]
		}
		if opTold(op) && op.Kind != 1 {
			key, other = keyTable[2][op.A], keyTable[1][op.B]
		}
		if got := impl.OpOk(op); got != opTold(op) {
			t.Errorf("%v: ok is %v", op, got)
		}
		if gotKey, gotOther := impl.OpKey(op), impl.OpOther(op); gotKey != key || gotOther != other {
			t.Errorf("%v: of key %d and %d, not %d and %d", op, gotKey, gotOther, key, other)
		}
	})
}

func TestOpKeysOfWrong(t *testing.T) {
	for _, op := range wrongOps() {
		if key, other := impl.OpKey(op), impl.OpOther(op); key != -1 || other != -1 {
			t.Errorf("%v: of key %d and %d", op, key, other)
		}
	}
}

func TestOpDo(t *testing.T) {
	for _, c := range []struct {
		what      string
		v         impl.Val
		op        impl.Op
		key, back impl.Val
	}{
		{"a number", thing(3), set(2, 17), thing(17), impl.Val{}},
		{"a number of 0", thing(3), set(2, 0), impl.Val{}, impl.Val{}},
		{"the greatest number", impl.Val{}, set(7, 1000000), thing(1000000), impl.Val{}},
		{"a number where kin were", bond(2, 9), set(2, 17), thing(17), impl.Val{}},
		{"bound to nobody's", impl.Val{}, bind(2, 3, 5), bond(3, 5), bond(2, 5)},
		{"bound first", bond(6, 7), bind(2, 3, 8), bond(3, 8, 6, 7), bond(2, 8, 6, 7)},
		{"bound last", bond(6, 7), bind(2, 3, 0), bond(6, 7, 3, 0), bond(6, 7, 2, 0)},
		{"bound of one time", bond(1, 5, 6, 5), bind(2, 3, 5), bond(1, 5, 3, 5, 6, 5), bond(1, 5, 2, 5, 6, 5)},
		{"bound since another time", bond(3, 9, 2, 6, 1, 4), bind(2, 3, 5), bond(2, 6, 3, 5, 1, 4), bond(3, 9, 2, 5, 1, 4)},
		{"bound since the same time", bond(3, 5, 1, 4), bind(2, 3, 5), bond(3, 5, 1, 4), bond(2, 5, 3, 5, 1, 4)},
		{"bound at 1000", bond(3, 5), bind(7, 0, 1000), bond(0, 1000, 3, 5), bond(7, 1000, 3, 5)},
		{"kin alone, bound", impl.Val{Num: 17, Kin: edges(6, 7)}, bind(2, 3, 5), bond(6, 7, 3, 5), bond(6, 7, 2, 5)},
		{"kin alone, with a number that is none", impl.Val{Num: -1}, bind(2, 3, 5), bond(3, 5), bond(2, 5)},
		{"parted", bond(3, 9, 2, 6, 1, 4), part(2, 3), bond(2, 6, 1, 4), bond(3, 9, 1, 4)},
		{"parted from all", bond(3, 9), part(2, 3), impl.Val{}, bond(3, 9)},
		{"parted from who is not there", bond(1, 4), part(2, 3), bond(1, 4), bond(1, 4)},
		{"parted where nobody is", impl.Val{}, part(0, 7), impl.Val{}, impl.Val{}},
		{"kin alone, parted", impl.Val{Num: 17, Kin: edges(3, 9, 2, 6)}, part(2, 3), bond(2, 6), bond(3, 9)},
		{"kin alone, parted from who is not there", impl.Val{Num: -17, Kin: edges(1, 4)}, part(2, 3), bond(1, 4), bond(1, 4)},
	} {
		if got := impl.OpDo(c.v, c.op); !sameVal(got, c.key) {
			t.Errorf("%s: %v behind %v: got %v, want %v", c.what, c.v, c.op, got, c.key)
		}
		if got := impl.OpBack(c.v, c.op); !sameVal(got, c.back) {
			t.Errorf("%s: the other end of %v, %v: got %v, want %v", c.what, c.op, c.v, got, c.back)
		}
	}
}

// TestOpDoFull has a key whose kin are all seven others.
func TestOpDoFull(t *testing.T) {
	all := bond(1, 9, 2, 8, 3, 7, 4, 6, 5, 5, 6, 4, 7, 3)
	for _, c := range []struct {
		op   impl.Op
		want impl.Val
	}{
		{bind(0, 4, 6), all},
		{bind(0, 4, 10), bond(4, 10, 1, 9, 2, 8, 3, 7, 5, 5, 6, 4, 7, 3)},
		{bind(0, 4, 0), bond(1, 9, 2, 8, 3, 7, 5, 5, 6, 4, 7, 3, 4, 0)},
		{part(0, 4), bond(1, 9, 2, 8, 3, 7, 5, 5, 6, 4, 7, 3)},
		{part(0, 1), bond(2, 8, 3, 7, 4, 6, 5, 5, 6, 4, 7, 3)},
		{part(0, 7), bond(1, 9, 2, 8, 3, 7, 4, 6, 5, 5, 6, 4)},
	} {
		if got := impl.OpDo(all, c.op); !sameVal(got, c.want) {
			t.Errorf("%v: got %v, want %v", c.op, got, c.want)
		}
		turned := c.op
		turned.A, turned.B = c.op.B, c.op.A
		if got := impl.OpBack(all, turned); !sameVal(got, c.want) {
			t.Errorf("the other end of %v: got %v, want %v", turned, got, c.want)
		}
	}
}

// TestOpDoOfWrongWrites has nothing behind a write that is not ok, whatever the key had.
func TestOpDoOfWrongWrites(t *testing.T) {
	for _, op := range wrongOps() {
		for _, v := range slices.Concat(rightThings(), rightBonds(), []impl.Val{thing(-1), bond(1, 5, 1, 5), {Num: 17, Kin: edges(2, 9)}}) {
			if got := impl.OpDo(v, op); !isNothing(got) {
				t.Errorf("%v behind %v: got %v", v, op, got)
			}
			if got := impl.OpBack(v, op); !isNothing(got) {
				t.Errorf("the other end of %v, %v: got %v", op, v, got)
			}
		}
	}
}

// TestOpDoOfWrongKin has nothing of kin that are not ok; OpSet doesn't ask them.
func TestOpDoOfWrongKin(t *testing.T) {
	for what, list := range wrongEdges() {
		for _, v := range []impl.Val{{Kin: list}, {Num: 3, Kin: list}} {
			for _, op := range rightOps() {
				want := impl.Val{}
				if op.Kind == 1 {
					want = thing(op.N)
				}
				if got := impl.OpDo(v, op); !sameVal(got, want) {
					t.Errorf("%s: %v behind %v: got %v, want %v", what, v, op, got, want)
				}
				if got := impl.OpBack(v, op); !isNothing(got) {
					t.Errorf("%s: the other end of %v, %v: got %v", what, op, v, got)
				}
			}
		}
	}
}

// TestOpDoTwice is promise 3 at one key: what is done twice is done once.
func TestOpDoTwice(t *testing.T) {
	for _, op := range rightOps() {
		for _, v := range slices.Concat(rightThings(), rightBonds()) {
			once, back := impl.OpDo(v, op), impl.OpBack(v, op)
			if twice := impl.OpDo(once, op); !sameVal(twice, once) {
				t.Errorf("%v, %v: once %v, twice %v", v, op, once, twice)
			}
			if twice := impl.OpBack(back, op); !sameVal(twice, back) {
				t.Errorf("the other end of %v, %v: once %v, twice %v", op, v, back, twice)
			}
		}
	}
}
