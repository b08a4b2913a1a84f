package tests

import (
	"math"
	"slices"
	"strconv"
	"strings"
	"testing"

	"loop.example/kith/impl"
)

func TestValText(t *testing.T) {
	for _, c := range []struct {
		v           impl.Val
		thing, bond string
	}{
		{impl.Val{}, "0", "()"},
		{impl.Val{Kin: []impl.Edge{}}, "0", "()"},
		{thing(7), "7", "()"},
		{thing(10), "10", "()"},
		{thing(1000000), "1000000", "()"},
		{bond(0, 0), "0", "(0@0)"},
		{bond(2, 9, 1, 5, 3, 5), "0", "(2@9 1@5 3@5)"},
		{bond(7, 1000, 0, 0), "0", "(7@1000 0@0)"},
		// What no key can have has a text too.
		{thing(-17), "-17", "()"},
		{thing(1000001), "1000001", "()"},
		{impl.Val{Num: 17, Kin: edges(2, 9)}, "17", "(2@9)"},
		{impl.Val{Num: -1, Kin: edges(1, 5, 1, 5, -3, 4000)}, "-1", "(1@5 1@5 -3@4000)"},
		{thing(math.MaxInt64), "9223372036854775807", "()"},
		{thing(math.MinInt64), "-9223372036854775808", "()"},
	} {
		for kind, row := range keyTable {
			for _, key := range row {
				want := c.bond
				if kind == impl.KeyThing {
					want = c.thing
				}
				if got := impl.ValText(key, c.v); got != want {
					t.Errorf("key %d has %v: got %q, want %q", key, c.v, got, want)
				}
			}
		}
		// All else than a key of KeyThing: a key that is none too.
		for _, key := range noKeys() {
			if got := impl.ValText(key, c.v); got != c.bond {
				t.Errorf("no key %d has %v: got %q, want %q", key, c.v, got, c.bond)
			}
		}
	}
}

// wantRead tells a text that is not read as that value.
func wantRead(t *testing.T, key int, text string, want impl.Val) {
	t.Helper()
	if got, ok := impl.ValRead(key, text); !ok || !sameVal(got, want) {
		t.Errorf("key %d, %q: got %v, %v, want %v", key, text, got, ok, want)
	}
}

// wantUnread tells a text that is read.
func wantUnread(t *testing.T, key int, text string) {
	t.Helper()
	if got, ok := impl.ValRead(key, text); ok || !isNothing(got) {
		t.Errorf("key %d, %q: got %v, %v", key, text, got, ok)
	}
}

// bondKeys are the keys of KeyElders and KeyYoung.
func bondKeys() []int {
	return slices.Concat(keyTable[impl.KeyElders][:], keyTable[impl.KeyYoung][:])
}

// thingTexts are texts of numbers that a key of KeyThing can have.
func thingTexts() map[string]int {
	return map[string]int{"0": 0, "1": 1, "9": 9, "10": 10, "17": 17, "100": 100, "1001": 1001, "999999": 999999, "1000000": 1000000}
}

func TestValReadThings(t *testing.T) {
	for text, num := range thingTexts() {
		for _, key := range keyTable[impl.KeyThing] {
			wantRead(t, key, text, thing(num))
		}
		for _, key := range bondKeys() {
			wantUnread(t, key, text)
		}
	}
}

func TestValReadBonds(t *testing.T) {
	for text, v := range map[string]impl.Val{
		"()":                                {},
		"(0@0)":                             bond(0, 0),
		"(7@1000)":                          bond(7, 1000),
		"(2@9 1@5)":                         bond(2, 9, 1, 5),
		"(2@9 1@5 3@5)":                     bond(2, 9, 1, 5, 3, 5),
		"(0@3 1@3 2@3 3@3 4@3 5@3 6@3 7@3)": bond(0, 3, 1, 3, 2, 3, 3, 3, 4, 3, 5, 3, 6, 3, 7, 3),
		"(0@1000 1@1000 2@1000 3@1000 4@1000 5@1000 6@1000 7@1000)": bond(0, 1000, 1, 1000, 2, 1000, 3, 1000, 4, 1000, 5, 1000, 6, 1000, 7, 1000),
	} {
		for _, key := range bondKeys() {
			wantRead(t, key, text, v)
		}
		for _, key := range keyTable[impl.KeyThing] {
			wantUnread(t, key, text)
		}
	}
}

func TestValReadRefusesThings(t *testing.T) {
	for _, text := range []string{
		"", " ", "\x00", "\n",
		// Needless zeros, and signs.
		"00", "01", "007", "0017", "01000000", "0000000000000000000000000000017", "+0", "+17", "-0", "-1", "-17", "--1", "+-1", "17-", "17+", "+", "-",
		// Something ahead, between or behind.
		" 17", "17 ", "1 7", "17\n", "\n17", "\t17", "17\x00", "17x", "x17", "17 18", "17,18", "1,000", "1_000", "(17)", "()", "17()", "17.", "17.0", ".17", "1e3", "0x11", "0b1", "0o7", "17\xff",
		// Digits of no decimal.
		"\u0661\u0667", "\uff11\uff17", "\u00b2", "a", "A", "ten", "1O", "l7", "NaN", "inf",
		// Numbers that are none of a key, also too great for any int.
		"1000001", "1000010", "9999999", "10000000", "4294967296", "4294967313", "9223372036854775807", "9223372036854775808", "18446744073709551616", "18446744073709551633",
		"-9223372036854775808", "-9223372036854775809", "340282366920938463463374607431768211473", "99999999999999999999999999999999999999999999",
		strings.Repeat("0", 300) + "17", strings.Repeat("9", 30000), strings.Repeat("1", 201), strings.Repeat(" ", 400) + "17",
	} {
		for _, key := range keyTable[impl.KeyThing] {
			wantUnread(t, key, text)
		}
	}
}

func TestValReadRefusesBonds(t *testing.T) {
	for _, text := range []string{
		"", " ", "(", ")", "0", "7", "17", "-1", "1@5", "(17)", "(1)", "((1@5))", "(1@5) ", " (1@5)", "(1@5)\n", "( 1@5)", "(1@5 )", "(2@9  1@5)", "(2@9,1@5)",
		"(01@5)", "(1@05)", "(+1@5)", "(1@+5)", "(-0@5)", "(1@-0)", "(1@-5)", "(8@5)", "(1@1001)", "(1@9223372036854775808)", "(18446744073709551617@5)",
		"(1@5 2@9)", "(2@5 1@5)", "(1@5 1@5)", "(1@9 1@5)", "0()", "()0", "17 (1@5)", "(1@5) 17", "(\u0661@5)",
		strings.Repeat("(", 201), manyEdges(200), manyEdges(201), "(1@" + strings.Repeat("0", 300) + "5)",
	} {
		for _, key := range bondKeys() {
			wantUnread(t, key, text)
		}
	}
	for _, list := range wrongEdges() {
		for _, key := range bondKeys() {
			wantUnread(t, key, impl.EdgeText(list))
		}
	}
}

func TestValReadOfNoKey(t *testing.T) {
	for _, key := range noKeys() {
		for _, text := range []string{"", "0", "17", "1000000", "()", "(0@0)", "(2@9 1@5)", "-1", "(1@5 2@9)"} {
			wantUnread(t, key, text)
		}
	}
}

// TestValReadText is promise 2: what is read from the text of what a key can have is that.
func TestValReadText(t *testing.T) {
	for kind, row := range keyTable {
		values := rightBonds()
		if kind == impl.KeyThing {
			values = rightThings()
		}
		for _, key := range row {
			for _, v := range values {
				wantRead(t, key, impl.ValText(key, v), v)
			}
		}
	}
}

// TestValReadAllNumbers reads back all numbers that there are, and some behind them.
func TestValReadAllNumbers(t *testing.T) {
	for num := -1000; num <= impl.KeyNum+1000; num++ {
		got, ok := impl.ValRead(num&7, strconv.Itoa(num))
		isNum := 0 <= num && num <= 1000000
		if ok != isNum || isNum && !sameVal(got, thing(num)) || !isNum && !isNothing(got) {
			t.Fatalf("%d: got %v, %v", num, got, ok)
		}
	}
}

// TestValReadAllBonds reads back the text of every list of five people and three times.
func TestValReadAllBonds(t *testing.T) {
	eachModel(0, kinModel{-1, -1, -1, -1, -1, -1, -1, -1}, func(model kinModel) {
		v := impl.Val{Kin: model.list()}
		for _, key := range []int{8, 15, 16, 23} {
			wantRead(t, key, impl.ValText(key, v), v)
		}
	})
}

// TestValReadShort reads all texts of up to five of these bytes: just those are read that are the text of what the key can have.
func TestValReadShort(t *testing.T) {
	things, bonds := 0, 0
	eachText("0129@() -+", 5, "", func(text string) {
		for _, key := range []int{0, 7, 8, 15, 16, 23} {
			v, ok := impl.ValRead(key, text)
			if !ok {
				if !isNothing(v) {
					t.Errorf("key %d, %q: got %v", key, text, v)
				}
				continue
			}
			if key <= 7 {
				things++
			} else {
				bonds++
			}
			if !impl.ValOk(key, v) || impl.ValText(key, v) != text {
				t.Errorf("key %d, %q: got %v", key, text, v)
			}
		}
	})
	// Of four digits: a nought, or one of three ahead of up to four.
	if want := 2 * (1 + 3*(1+4+16+64+256)); things != want {
		t.Errorf("%d numbers are read, not %d", things, want)
	}
	// No kin, or one of three since one of four times.
	if want := 4 * (1 + 3*4); bonds != want {
		t.Errorf("%d lists are read, not %d", bonds, want)
	}
}

// TestValReadOneByteOff puts another byte into each place of a text, leaves one out, and puts one in: what is still read is what the key can have, with that text.
func TestValReadOneByteOff(t *testing.T) {
	try := func(key int, near string) {
		v, ok := impl.ValRead(key, near)
		if ok && (!impl.ValOk(key, v) || impl.ValText(key, v) != near) || !ok && !isNothing(v) {
			t.Errorf("key %d, %q: got %v, %v", key, near, v, ok)
		}
	}
	for _, text := range []string{"1000000", "999999", "0", "(7@1000 2@9 1@5 3@5)", "()"} {
		for _, key := range []int{0, 7, 8, 15, 16, 23, -1, 24} {
			for place := range len(text) {
				try(key, text[:place]+text[place+1:])
				for b := range 256 {
					try(key, text[:place]+string([]byte{byte(b)})+text[place+1:])
					try(key, text[:place]+string([]byte{byte(b)})+text[place:])
				}
			}
		}
	}
}

// TestValMemory has no argument written into, also not behind its end.
func TestValMemory(t *testing.T) {
	for _, plain := range [][]impl.Edge{{}, edges(2, 9), edges(2, 9, 1, 5, 3, 5), edges(1, 5, 2, 9), edges(0, 3, 1, 3, 2, 3, 3, 3, 4, 3, 5, 3, 6, 3, 7, 3)} {
		list, all := roomy(plain)
		other, otherAll := roomy(plain)
		before := slices.Clone(all)
		for key := -1; key <= impl.KeyAll; key++ {
			for _, num := range []int{0, 17, -1} {
				v := impl.Val{Num: num, Kin: list}
				impl.ValOk(key, v)
				impl.ValText(key, v)
				impl.ValSame(v, impl.Val{Num: num, Kin: other})
			}
		}
		if !slices.Equal(all, before) || !slices.Equal(otherAll, before) {
			t.Errorf("%v: the argument is written into", plain)
		}
	}
}

// TestValReadMemory has two answers to one text: what is done to one is not done to the other.
func TestValReadMemory(t *testing.T) {
	for _, text := range []string{"()", "(2@9 1@5 3@5)", "(0@3 1@3 2@3 3@3 4@3 5@3 6@3 7@3)"} {
		first, _ := impl.ValRead(11, text)
		second, _ := impl.ValRead(11, text)
		kept := slices.Clone(second.Kin)
		scribble(first.Kin)
		wantEdges(t, "read twice", second.Kin, kept)
		again, _ := impl.ValRead(11, text)
		wantEdges(t, "read once more", again.Kin, kept)
	}
}
