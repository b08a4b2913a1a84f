package tests

import (
	"fmt"
	"slices"
	"strings"
	"testing"

	"loop.example/kith/impl"
)

// msgTexts are messages and their texts, written out.
func msgTexts() map[string]impl.Msg {
	zeros, many := strings.Repeat(" 0", 24), " 0 60 1 59 2 58 3 57 10 9 11 8 12 0 7 1 40 30 20 5 4 3 2 1"
	return map[string]impl.Msg{
		"fill 0 0 0 0 0 0":                                      itemMsg(msgOf(1, 0, 0, 0, 0), item(0, 0, impl.Val{})),
		"fill 1 1 1000 1000 23 0":                               itemMsg(msgOf(1, 1, 1, 1000, 1000), item(23, 0, impl.Val{})),
		"filled 1 0 2 3 0 2 5 17":                               itemMsg(msgOf(2, 1, 0, 2, 3), item(2, 5, thing(17))),
		"filled 0 1 0 1 0 7 60 0":                               itemMsg(msgOf(2, 0, 1, 0, 1), item(7, 60, thing(0))),
		"filled 0 0 0 1 0 8 0 ()":                               itemMsg(msgOf(2, 0, 0, 0, 1), item(8, 0, bond())),
		"write 0 0 0 1 1 6 0 1000000":                           opMsg(msgOf(3, 0, 0, 0, 1), set(6, 1000000)),
		"write 1 1 4 0 2 3 2 0":                                 opMsg(msgOf(3, 1, 1, 4, 0), bind(3, 2, 0)),
		"write 1 0 10 20 3 0 7 0":                               opMsg(msgOf(3, 1, 0, 10, 20), part(0, 7)),
		"wrote 0 1 5 6 0 1 1 1000000":                           codeMsg(itemMsg(msgOf(4, 0, 1, 5, 6), item(1, 1, thing(1000000))), 0),
		"wrote 1 1 5 6 5 19 2 (0@1000)":                         codeMsg(itemMsg(msgOf(4, 1, 1, 5, 6), item(19, 2, bond(0, 1000))), 5),
		"wrote 1 0 0 0 3 10 2 (2@9 1@5 3@5)":                    codeMsg(itemMsg(msgOf(4, 1, 0, 0, 0), item(10, 2, bond(2, 9, 1, 5, 3, 5))), 3),
		"news 1 0 0 0 0 22 9 (0@3 1@3 2@3 3@3 4@3 5@3 6@3 7@3)": itemMsg(msgOf(5, 1, 0, 0, 0), item(22, 9, bond(0, 3, 1, 3, 2, 3, 3, 3, 4, 3, 5, 3, 6, 3, 7, 3))),
		"news 0 1 0 0 0 3 4 5":                                  itemMsg(msgOf(5, 0, 1, 0, 0), item(3, 4, thing(5))),
		"gone 1 0 0 0 16 60":                                    itemMsg(msgOf(6, 1, 0, 0, 0), item(16, 60, impl.Val{})),
		"gone 0 1 0 0 1 0":                                      itemMsg(msgOf(6, 0, 1, 0, 0), item(1, 0, impl.Val{})),
		"join 0 0 0 0":                                          msgOf(7, 0, 0, 0, 0),
		"join 1 1 1000 0":                                       msgOf(7, 1, 1, 1000, 0),
		"joined 0 0 0 0" + zeros:                                versMsg(msgOf(8, 0, 0, 0, 0), make([]int, 24)...),
		"joined 1 1 7 0" + many:                                 versMsg(msgOf(8, 1, 1, 7, 0), someVers()...),
		"back 0 1 0 60 2 2 3 5":                                 opMsg(msgOf(9, 0, 1, 0, 60), bind(2, 3, 5)),
		"back 0 0 0 1 3 7 0 0":                                  opMsg(msgOf(9, 0, 0, 0, 1), part(7, 0)),
		"backed 0 0 0 1":                                        msgOf(10, 0, 0, 0, 1),
		"backed 0 1 0 1000":                                     msgOf(10, 0, 1, 0, 1000),
	}
}

// wantMsgRead tells a text that is not read as that message.
func wantMsgRead(t *testing.T, text string, want impl.Msg) {
	t.Helper()
	if got, read := impl.MsgRead(text); !read || !sameMsg(got, want) {
		t.Errorf("%q: got %+v, %v, want %+v", text, got, read, want)
	}
}

// wantMsgUnread tells a text that is read.
func wantMsgUnread(t *testing.T, text string) {
	t.Helper()
	if got, read := impl.MsgRead(text); read || !isNoMsg(got) {
		t.Errorf("%q: got %+v, %v", text, got, read)
	}
}

func TestMsgText(t *testing.T) {
	came := map[int]int{}
	for text, m := range msgTexts() {
		came[m.Kind]++
		if got := impl.MsgText(m); got != text {
			t.Errorf("%+v: got %q, want %q", m, got, text)
		}
		wantMsgRead(t, text, m)
		if want, is := msgReadTold(text); !is || !sameMsg(want, m) || msgTextTold(m) != text {
			t.Errorf("the model of %q is %+v, %q", text, want, msgTextTold(m))
		}
	}
	for kind := 1; kind <= 10; kind++ {
		if came[kind] < 2 {
			t.Errorf("but %d texts of the kind %d", came[kind], kind)
		}
	}
}

// TestMsgReadText is promise 6: of all messages, the text is read as the message.
func TestMsgReadText(t *testing.T) {
	texts := map[string]bool{}
	msgs := rightMsgs()
	for _, m := range msgs {
		text := impl.MsgText(m)
		if want := msgTextTold(m); text != want {
			t.Errorf("%+v: got %q, want %q", m, text, want)
		}
		if empty := impl.MsgText(emptyMsgLists(m)); empty != text {
			t.Errorf("%+v with empty lists: got %q, want %q", m, empty, text)
		}
		wantMsgRead(t, text, m)
		texts[text] = true
	}
	if len(texts) < len(msgs)/2 || len(texts) < 2000 {
		t.Errorf("%d texts of %d messages", len(texts), len(msgs))
	}
}

// TestMsgTextOfWrong has the empty text of what is not ok.
func TestMsgTextOfWrong(t *testing.T) {
	for part0 := range 2 {
		for _, change := range slices.Concat(numberChanges(), itemChanges(), listChanges(), opChanges()) {
			for kind, m := range plainMsgs(part0) {
				change.do(&m)
				if got, want := impl.MsgText(m), msgTextTold(m); got != want || (got == "") == impl.MsgOk(m) {
					t.Errorf("kind %d, %s: got %q, want %q", kind, change.what, got, want)
				}
			}
		}
	}
	for _, m := range []impl.Msg{{}, {Kind: 11}, {Kind: -1}} {
		if got := impl.MsgText(m); got != "" {
			t.Errorf("%+v: got %q", m, got)
		}
	}
}

func TestMsgReadRefuses(t *testing.T) {
	for _, text := range []string{
		// No kind, or none that there is.
		"", " ", "\x00", "0", "0 0 0 0", " 0 0 0 0", "fly 0 0 0 0", "Join 0 0 0 0", "JOIN 0 0 0 0", "joi 0 0 0 0", "joinn 0 0 0 0", "join0 0 0 0", "7 0 0 0 0", "join\t0 0 0 0", "\xff 0 0 0 0", "join. 0 0 0 0", "none 0 0 0 1", "set 0 0 0 1 1 2 0 17",
		// Words too few or too many.
		"join", "join 0", "join 0 0", "join 0 0 0", "join 0 0 0 0 0", "join 0 0 0 0 join", "join join 0 0 0 0", "join 0 0 0 0 ()", "backed 0 0 0", "backed 0 0 0 1 1", "backed 0 0 0 1 0",
		"fill 0 0 0 0", "fill 0 0 0 0 0", "fill 0 0 0 0 0 0 0", "fill 0 0 0 0 0 0 ()", "gone 0 0 0 0", "gone 0 0 0 0 16", "gone 0 0 0 0 16 2 ()", "gone 0 0 0 0 0 2 0", "gone 0 0 0 0 0 16 2",
		"write 0 0 0 1", "write 0 0 0 1 2 2 3", "write 0 0 0 1 2 2 3 5 0", "back 0 1 0 1 2 2 3", "back 0 1 0 1 2 2 3 5 1",
		"filled 0 0 0 1 2 5 17", "filled 0 0 0 1 0 2 5", "filled 0 0 0 1 0 2 5 ", "filled 0 0 0 1 0 2 5 17 0", "filled 0 0 0 1 0 10 5", "filled 0 0 0 1 0 10 5 () ()", "filled 0 0 0 1 10 5 ()", "news 0 0 0 0 10 2 ()", "wrote 0 0 0 1 10 2 ()",
		"joined 0 0 0 0", "joined 0 0 0 0" + strings.Repeat(" 0", 23), "joined 0 0 0 0" + strings.Repeat(" 0", 25), "joined 0 0 0 0" + strings.Repeat(" 0", 48),
		// Spaces too many, and what is none.
		" join 0 0 0 0", "join  0 0 0 0", "join 0  0 0 0", "join 0 0 0  0", "join 0 0 0 0 ", "join 0 0 0 0\n", "\njoin 0 0 0 0", "join 0\t0 0 0", "join 0 0 0\u00a00", "join,0,0,0,0", "news 0 0 0 0 0 10 2  ()", "news 0 0 0 0 0 10 2 () ", "news 0 0 0 0 0 10 2 (2@9  1@5)", "news 0 0 0 0 0 10 2 ( 2@9 1@5)", "news 0 0 0 0 0 10 2 (2@9 1@5 )", "news 0 0 0 0 0 2 5 17 ", "news 0 0 0 0 0 2 5  17",
		// Needless zeros, signs, and what is no decimal.
		"join 00 0 0 0", "join 0 01 0 0", "join 0 0 010 0", "join 0 0 0 00", "backed 0 0 0 01", "fill 0 0 0 0 02 0", "fill 0 0 0 0 2 00", "write 0 0 0 1 02 2 3 5", "write 0 0 0 1 2 2 3 05", "news 0 0 0 0 00 10 2 ()", "news 0 0 0 0 0 10 02 ()", "news 0 0 0 0 0 2 5 017", "news 0 0 0 0 0 10 2 (02@9)", "news 0 0 0 0 0 10 2 (2@09)",
		"join +0 0 0 0", "join -0 0 0 0", "join 0 +1 0 0", "join 0 0 +7 0", "join 0 0 0 -0", "backed 0 0 0 +1", "fill 0 0 0 0 +2 0", "fill 0 0 0 0 2 -0", "write 0 0 0 1 2 2 3 +5", "news 0 0 0 0 +0 10 2 ()", "news 0 0 0 0 0 2 5 +17", "news 0 0 0 0 0 10 2 (+2@9)",
		"join a 0 0 0", "join 0x0 0 0 0", "join 0 0 1e2 0", "join 0 0 1_0 0", "join 0 0 1.0 0", "join 0 0 \u0661 0", "join () 0 0 0", "write 0 0 0 1 bind 2 3 5",
		// Numbers that are none of a message, also too great for any int.
		"join -1 0 0 0", "join 2 0 0 0", "join 0 -1 0 0", "join 0 2 0 0", "join 0 0 -1 0", "join 0 0 1001 0", "join 0 0 0 1", "join 0 0 0 -1", "backed 0 0 0 0", "backed 0 0 0 -1", "backed 0 0 0 1001", "backed 1 0 0 1", "backed 0 0 1 1",
		"join 0 0 9223372036854775807 0", "join 0 0 9223372036854775808 0", "join 0 0 18446744073709551616 0", "join 18446744073709551617 0 0 0", "join 0 4294967297 0 0", "join 0 0 0 -9223372036854775809", "join 0 0 99999999999999999999999999999999999999 0", "news 0 0 0 0 0 2 5 18446744073709551633",
		"wrote 0 0 0 1 -1 2 5 17", "wrote 0 0 0 1 6 2 5 17", "filled 0 0 0 1 1 2 5 17", "news 0 0 0 0 5 2 5 17", "news 0 0 0 1 0 10 2 ()", "news 0 0 1 0 0 10 2 ()", "gone 0 0 1 0 16 2", "gone 0 0 0 1 16 2", "joined 0 0 0 1" + strings.Repeat(" 0", 24), "joined 0 0 0 0" + strings.Repeat(" 0", 23) + " 61", "joined 0 0 0 0 -1" + strings.Repeat(" 0", 23), "joined 0 0 0 0 61" + strings.Repeat(" 0", 23),
		// Keys that there are not, or that are of the other part, and Vers that are none.
		"fill 0 0 0 0 -1 0", "fill 0 0 0 0 -2 0", "fill 0 0 0 0 24 0", "fill 0 1 0 0 25 0", "fill 0 0 0 0 11 0", "fill 0 1 0 0 10 0", "fill 0 1 0 0 0 0", "fill 0 1 0 0 11 1", "gone 0 0 0 0 11 2", "gone 0 0 0 0 16 61", "gone 0 0 0 0 16 -1", "gone 0 0 0 0 24 0", "news 0 0 0 0 0 24 2 ()", "news 0 0 0 0 0 11 2 ()", "news 0 0 0 0 0 10 61 ()", "news 0 0 0 0 0 10 -1 ()", "wrote 0 0 0 1 0 3 5 17", "filled 0 1 0 1 0 2 5 17",
		// Writes that are not ok, that are of the other part, or that have no other end.
		"write 0 1 0 1 2 2 3 5", "write 0 0 0 1 2 3 2 5", "write 0 0 0 1 0 2 3 5", "write 0 0 0 1 4 2 3 5", "write 0 0 0 1 2 2 2 5", "write 0 0 0 1 2 2 3 1001", "write 0 0 0 1 2 2 8 5", "write 0 0 0 1 3 2 3 5", "write 0 0 0 1 1 2 3 17", "write 0 0 0 1 1 2 0 1000001", "write 0 0 0 1 1 8 0 17", "back 0 0 0 1 2 2 3 5", "back 0 1 0 1 2 3 2 5", "back 0 0 0 1 1 2 0 17", "back 0 0 0 0 2 3 2 5", "back 1 0 0 1 2 3 2 5", "back 0 0 1 1 2 3 2 5",
		// Values that the key can't have.
		"news 0 0 0 0 0 10 2 17", "news 0 0 0 0 0 10 2 0", "news 0 0 0 0 0 2 5 ()", "news 0 0 0 0 0 2 5 (2@9)", "news 0 0 0 0 0 2 5 1000001", "news 0 0 0 0 0 2 5 -1", "news 0 0 0 0 0 10 2 (1@5 2@9)", "news 0 0 0 0 0 10 2 (2@5 1@5)", "news 0 0 0 0 0 10 2 (1@5 1@5)", "news 0 0 0 0 0 10 2 (1@9 1@5)", "news 0 0 0 0 0 10 2 (8@5)", "news 0 0 0 0 0 10 2 (1@1001)", "news 0 0 0 0 0 10 2 (", "news 0 0 0 0 0 10 2 )", "news 0 0 0 0 0 10 2 (2@9", "news 0 0 0 0 0 10 2 2@9)", "news 0 0 0 0 0 10 2 (2@9 1@5) 1@4", "news 0 0 0 0 0 10 2 (2@9)(1@5)", "news 0 0 0 0 0 10 2 (2 1)", "news 0 0 0 0 0 10 2 (2@9,1@5)",
		// Texts of one behind another.
		"join 0 0 0 0\njoin 0 0 0 0", "join 0 0 0 0 join 0 0 0 0", "join 0 0 0 0\x00", "fill filled 0 0 0 0 0 0",
	} {
		wantMsgUnread(t, text)
		if m, is := msgReadTold(text); is {
			t.Errorf("the model of %q is %+v", text, m)
		}
	}
}

// wordFaults are texts that differ from one in one word.
func wordFaults(text string) map[string]string {
	words := strings.Split(text, " ")
	faults := map[string]string{"space ahead": " " + text, "space behind": text + " ", "line behind": text + "\n", "twice": text + " " + text, "twice at once": text + text}
	put := func(what string, place int, cut int, in ...string) {
		faults[fmt.Sprint(what, " at ", place)] = strings.Join(slices.Replace(slices.Clone(words), place, place+cut, in...), " ")
	}
	for place, word := range words {
		put("no word", place, 1)
		put("no word, but its spaces", place, 1, "")
		put("the word twice", place, 0, word)
		put("a space more", place, 0, "")
		for _, more := range []string{"0", "1", "()", "fill"} {
			put("a word "+more, place, 0, more)
		}
		put("a word behind", place, 1, word, "0")
		for _, other := range []string{"0" + word, "+" + word, "-" + word, word + "0", word + ".", " " + word, word + "\t", word + "@0", "(" + word, word + ")", "18446744073709551616", "9223372036854775808", "-1", "0", "1", "2", "5", "6", "7", "8", "23", "24", "60", "61", "1000", "1001", "1000000", "1000001", "()", "(2@9 1@5)", "(1@5 2@9)", "2@9", ""} {
			put("the word "+other, place, 1, other)
		}
		for _, has := range msgKinds[1:] {
			put("the word "+has.word, place, 1, has.word)
		}
		if place > 0 {
			put("turned with the one ahead", place-1, 2, word, words[place-1])
		}
	}
	return faults
}

// TestMsgReadWords has one word of a text changed: what is read is the message of which that is the text, and else nothing.
func TestMsgReadWords(t *testing.T) {
	count := map[bool]int{}
	for text := range msgTexts() {
		for what, near := range wordFaults(text) {
			want, is := msgReadTold(near)
			count[is]++
			if is {
				wantMsgRead(t, near, want)
			} else {
				wantMsgUnread(t, near)
			}
			if got := impl.MsgText(want); is && got != near {
				t.Errorf("%s: %q has the text %q", what, near, got)
			}
		}
	}
	if count[true] < 500 || count[false] < 5000 {
		t.Errorf("%v", count)
	}
}

// TestMsgReadOneByteOff puts another byte into each place of a text, leaves one out, and puts one in.
func TestMsgReadOneByteOff(t *testing.T) {
	try := func(near string) {
		if want, is := msgReadTold(near); is {
			wantMsgRead(t, near, want)
		} else {
			wantMsgUnread(t, near)
		}
	}
	for part0 := range 2 {
		for kind, m := range plainMsgs(part0) {
			text := msgTextTold(m)
			for place := range len(text) {
				try(text[:place] + text[place+1:])
				try(text[:place])
				for b := range 256 {
					if kind == 8 && b%16 != 0 && (b < '(' || b > '@') {
						continue // the longest one
					}
					try(text[:place] + string([]byte{byte(b)}) + text[place+1:])
					try(text[:place] + string([]byte{byte(b)}) + text[place:])
				}
			}
		}
	}
}

// TestMsgReadLong has texts at the limit of 400 bytes and one behind it: no message has so long a text, so both are refused.
func TestMsgReadLong(t *testing.T) {
	for _, size := range []int{399, 400, 401, 100000} {
		for _, ahead := range []string{"join 0 0 0 0", "backed 0 0 0 ", "fill 0 0 0 0 0 ", "news 0 0 0 0 0 2 5 ", "news 0 0 0 0 0 10 2 (2@9 ", "joined 0 0 0 0" + strings.Repeat(" 0", 24), "write 0 0 0 1 1 2 0 "} {
			for _, fill := range []string{" ", "0", "1", "9", " 0", "(", "2@9 "} {
				text := (ahead + strings.Repeat(fill, size))[:size]
				wantMsgUnread(t, text)
				wantMsgUnread(t, text[:size-1]+")")
			}
		}
	}
}

// TestMsgReadFew reads all texts of a few words that are words of messages or near them: just those are read that are the text of a message.
func TestMsgReadFew(t *testing.T) {
	count := 0
	for _, kind := range []string{"join", "backed", "gone", "joined", ""} {
		eachWords([]string{"0", "1", "16", "1000", "1001", "-1", "00", ""}, 5, kind, func(text string) {
			want, is := msgReadTold(text)
			got, read := impl.MsgRead(text)
			if read != is || !sameMsg(got, want) {
				t.Fatalf("%q: got %+v, %v", text, got, read)
			}
			if read {
				count++
			}
		})
	}
	// Of join two tiers, two parts and four lives; of backed two parts and three stamps; a text of gone has six words behind its kind's.
	if count != 2*2*4+2*3 {
		t.Errorf("%d texts are read", count)
	}
}

// eachWords gives all texts of at most so many of these words behind what there is.
func eachWords(words []string, most int, text string, give func(string)) {
	give(text)
	if most == 0 {
		return
	}
	for _, word := range words {
		eachWords(words, most-1, text+" "+word, give)
	}
}
