package tests

import (
	"math"
	"slices"
	"testing"

	"loop.example/kith/impl"
)

// keyTable is of each kind the keys of everybody, written out.
var keyTable = [3][8]int{
	{0, 1, 2, 3, 4, 5, 6, 7},
	{8, 9, 10, 11, 12, 13, 14, 15},
	{16, 17, 18, 19, 20, 21, 22, 23},
}

// noKeys are numbers of which there is no key.
func noKeys() []int {
	return []int{-1, -2, -7, -8, -9, -16, -24, 24, 25, 31, 32, 48, 1000, math.MaxInt, math.MaxInt - 7, math.MinInt, math.MinInt + 8}
}

// thing is what a key of KeyThing has.
func thing(num int) impl.Val {
	return impl.Val{Num: num}
}

// bond is what all other keys have: kin, by twos of numbers.
func bond(numbers ...int) impl.Val {
	return impl.Val{Kin: edges(numbers...)}
}

// sameVal says whether two values are one, asked of nothing that is tested.
func sameVal(a impl.Val, b impl.Val) bool {
	return a.Num == b.Num && slices.Equal(a.Kin, b.Kin)
}

// isNothing says whether a value is nothing.
func isNothing(v impl.Val) bool {
	return v.Num == 0 && len(v.Kin) == 0
}

// rightThings are values that a key of KeyThing can have.
func rightThings() []impl.Val {
	return []impl.Val{
		{}, {Kin: []impl.Edge{}}, thing(1), thing(9), thing(10), thing(17), thing(1000), thing(1001), thing(999999), thing(1000000),
	}
}

// rightBonds are values that a key of KeyElders or KeyYoung can have.
func rightBonds() []impl.Val {
	return []impl.Val{
		{}, {Kin: []impl.Edge{}}, bond(0, 0), bond(7, 1000), bond(3, 5), bond(2, 9, 1, 5), bond(2, 9, 1, 5, 3, 5),
		bond(0, 3, 1, 3, 2, 3, 3, 3, 4, 3, 5, 3, 6, 3, 7, 3),
		bond(7, 1000, 6, 7, 5, 6, 4, 5, 3, 4, 2, 3, 1, 2, 0, 0),
	}
}

func TestKeyNames(t *testing.T) {
	if impl.KeyThing != 0 || impl.KeyElders != 1 || impl.KeyYoung != 2 {
		t.Error("kinds")
	}
	if impl.KeyAll != 24 || impl.KeyShards != 2 || impl.KeyNum != 1000000 {
		t.Error("bounds")
	}
}

func TestKeyMake(t *testing.T) {
	for kind, row := range keyTable {
		for who, want := range row {
			if got := impl.KeyMake(kind, who); got != want {
				t.Errorf("kind %d of %d: got %d, want %d", kind, who, got, want)
			}
		}
	}
}

func TestKeyMakeOfNone(t *testing.T) {
	noKinds := []int{-1, -2, 3, 4, 8, math.MaxInt, math.MinInt, math.MaxInt / 8, math.MaxInt/8 + 1, math.MinInt / 8}
	nobody := []int{-1, -8, 8, 9, 16, math.MaxInt, math.MinInt}
	for _, kind := range noKinds {
		for _, who := range []int{0, 3, 7} {
			wantNoKey(t, kind, who)
		}
		for _, who := range nobody {
			wantNoKey(t, kind, who)
		}
	}
	for kind := range keyTable {
		for _, who := range nobody {
			wantNoKey(t, kind, who)
		}
	}
}

// wantNoKey tells a key of a kind or of somebody that is none.
func wantNoKey(t *testing.T, kind int, who int) {
	t.Helper()
	if got := impl.KeyMake(kind, who); got != -1 {
		t.Errorf("kind %d of %d: got %d", kind, who, got)
	}
}

func TestKeyParts(t *testing.T) {
	for kind, row := range keyTable {
		for who, key := range row {
			if got := impl.KeyKind(key); got != kind {
				t.Errorf("key %d is of kind %d, not %d", key, kind, got)
			}
			if got := impl.KeyWho(key); got != who {
				t.Errorf("key %d is of %d, not of %d", key, who, got)
			}
			if got, want := impl.KeyShard(key), [8]int{0, 1, 0, 1, 0, 1, 0, 1}[who]; got != want {
				t.Errorf("key %d is in part %d, not %d", key, want, got)
			}
		}
	}
	for _, key := range noKeys() {
		if kind, who, part := impl.KeyKind(key), impl.KeyWho(key), impl.KeyShard(key); kind != -1 || who != -1 || part != -1 {
			t.Errorf("key %d: got kind %d, of %d, in part %d", key, kind, who, part)
		}
	}
}

// TestKeyOfOneKindAndPerson is promise 2: each key is of one kind and of one person, and of each there is one key.
func TestKeyOfOneKindAndPerson(t *testing.T) {
	var met [impl.KeyAll]int
	for kind := -20; kind <= 20; kind++ {
		for who := -200; who <= 200; who++ {
			key := impl.KeyMake(kind, who)
			if key == -1 {
				continue
			}
			if key < 0 || key >= len(met) {
				t.Fatalf("kind %d of %d is key %d", kind, who, key)
			}
			met[key]++
			if impl.KeyKind(key) != kind || impl.KeyWho(key) != who {
				t.Errorf("kind %d of %d is key %d, of kind %d of %d", kind, who, key, impl.KeyKind(key), impl.KeyWho(key))
			}
		}
	}
	for key, count := range met {
		if count != 1 {
			t.Errorf("key %d is made %d times", key, count)
		}
	}
	for key := -300; key <= 300; key++ {
		kind, who := impl.KeyKind(key), impl.KeyWho(key)
		isKey := 0 <= key && key < 24
		if back := impl.KeyMake(kind, who); isKey && back != key || !isKey && back != -1 {
			t.Errorf("key %d is of kind %d of %d, which is key %d", key, kind, who, back)
		}
	}
}

func TestValOk(t *testing.T) {
	for _, key := range keyTable[impl.KeyThing] {
		for _, v := range rightThings() {
			if !impl.ValOk(key, v) {
				t.Errorf("key %d can have %v", key, v)
			}
		}
	}
	for _, key := range slices.Concat(keyTable[impl.KeyElders][:], keyTable[impl.KeyYoung][:]) {
		for _, v := range rightBonds() {
			if !impl.ValOk(key, v) {
				t.Errorf("key %d can have %v", key, v)
			}
		}
	}
}

func TestValOkRefusesThings(t *testing.T) {
	wrong := []impl.Val{
		thing(-1), thing(1000001), thing(-1000000), thing(math.MaxInt), thing(math.MinInt),
		bond(0, 0), bond(3, 5), bond(2, 9, 1, 5), {Num: 17, Kin: edges(3, 5)}, {Num: 1000000, Kin: edges(0, 0)},
		bond(9, 9), bond(1, 5, 1, 5), {Num: -1, Kin: edges(3, 5)},
	}
	for _, key := range keyTable[impl.KeyThing] {
		for _, v := range wrong {
			if impl.ValOk(key, v) {
				t.Errorf("key %d can't have %v", key, v)
			}
		}
	}
}

func TestValOkRefusesBonds(t *testing.T) {
	wrong := []impl.Val{
		thing(1), thing(-1), thing(17), thing(1000000), thing(1000001), thing(math.MaxInt), thing(math.MinInt),
		{Num: 1, Kin: edges(3, 5)}, {Num: -1, Kin: edges(3, 5)}, {Num: 5, Kin: []impl.Edge{}},
	}
	for _, list := range wrongEdges() {
		wrong = append(wrong, impl.Val{Kin: list}, impl.Val{Num: 1, Kin: list})
	}
	for _, key := range slices.Concat(keyTable[impl.KeyElders][:], keyTable[impl.KeyYoung][:]) {
		for _, v := range wrong {
			if impl.ValOk(key, v) {
				t.Errorf("key %d can't have %v", key, v)
			}
		}
	}
}

func TestValOkOfNoKey(t *testing.T) {
	for _, key := range noKeys() {
		for _, v := range slices.Concat(rightThings(), rightBonds(), []impl.Val{thing(-1), thing(1000001), bond(8, 5)}) {
			if impl.ValOk(key, v) {
				t.Errorf("there is no key %d that can have %v", key, v)
			}
		}
	}
}

func TestValSame(t *testing.T) {
	for _, same := range [][2]impl.Val{
		{{}, {}},
		{{}, {Kin: []impl.Edge{}}},
		{{Kin: []impl.Edge{}}, {}},
		{thing(17), {Num: 17, Kin: []impl.Edge{}}},
		{thing(17), thing(17)},
		{bond(2, 9, 1, 5), bond(2, 9, 1, 5)},
		// They are asked of what no key can have too.
		{{Num: -4, Kin: edges(1, 5, 1, 5)}, {Num: -4, Kin: edges(1, 5, 1, 5)}},
		{thing(math.MinInt), thing(math.MinInt)},
	} {
		if !impl.ValSame(same[0], same[1]) {
			t.Errorf("%v and %v are the same", same[0], same[1])
		}
	}
	some := []impl.Val{
		{}, thing(1), thing(17), thing(-17), thing(math.MaxInt), thing(math.MinInt), bond(0, 0), bond(1, 0), bond(0, 1), bond(1, 5, 2, 9), bond(2, 9, 1, 5), bond(2, 9),
		bond(2, 9, 1, 5, 3, 5), bond(2, 9, 1, 4), bond(2, 9, 0, 5), {Num: 17, Kin: edges(2, 9)}, {Num: 17, Kin: edges(2, 9, 1, 5)}, {Num: 18, Kin: edges(2, 9)},
	}
	for place, a := range some {
		for other, b := range some {
			if got := impl.ValSame(a, b); got != (place == other) {
				t.Errorf("%v and %v: got %v", a, b, got)
			}
		}
	}
}
