package tests

import (
	"slices"
	"testing"

	"loop.example/kith/impl"
)

// keptMsg is a message that shares none with the one that is given.
func keptMsg(m impl.Msg) impl.Msg {
	m.Vers, m.Item.Val = slices.Clone(m.Vers), copied(m.Item.Val)
	return m
}

// roomyMsg is a message with room behind the ends of its lists, all of memory of its own.
func roomyMsg(m impl.Msg) impl.Msg {
	m.Vers, m.Item = behindEnd(m.Vers, 77), roomyItem(m.Item)
	return m
}

// wholeMsg is a copy of all memory of a message, that behind the ends of its lists too.
func wholeMsg(m impl.Msg) impl.Msg {
	m.Vers, m.Item = wholeList(m.Vers), wholeItem(m.Item)
	return m
}

// scribbleMsg writes into all memory of a message.
func scribbleMsg(m impl.Msg) {
	fillList(m.Vers, 55)
	scribble(m.Item.Val.Kin)
}

// memoryMsgs are messages that are ok, and such that are not, all with room behind their ends.
func memoryMsgs() []impl.Msg {
	var msgs []impl.Msg
	for _, m := range manyMsgs() {
		msgs = append(msgs, roomyMsg(m))
		for _, other := range otherMsgs(m) {
			msgs = append(msgs, roomyMsg(other))
		}
	}
	return msgs
}

// TestMsgAsksOnly has all calls that are given a message: none is written into, and nothing is kept.
func TestMsgAsksOnly(t *testing.T) {
	for _, m := range memoryMsgs() {
		other := roomyMsg(m)
		before, otherBefore := wholeMsg(m), wholeMsg(other)
		ok, same, up, text := impl.MsgOk(m), impl.MsgSame(m, other), impl.MsgUp(m), impl.MsgText(m)
		if !sameMsg(wholeMsg(m), before) || !sameMsg(wholeMsg(other), otherBefore) {
			t.Fatalf("%+v: an argument is written into", m)
		}
		if impl.MsgOk(m) != ok || impl.MsgSame(m, other) != same || impl.MsgUp(m) != up || impl.MsgText(m) != text || !same {
			t.Errorf("%+v: another answer once more", m)
		}
		// What is done to a message behind the call is not done to its text.
		scribbleMsg(m)
		if impl.MsgText(other) != text {
			t.Errorf("%+v: another text once more", other)
		}
	}
}

// TestMsgReadMemory has each text read twice: what is done to the one answer is not done to the other.
func TestMsgReadMemory(t *testing.T) {
	for _, m := range rightMsgs() {
		text := msgTextTold(m)
		first, _ := impl.MsgRead(text)
		second, _ := impl.MsgRead(text)
		if !sameMsg(first, m) || !sameMsg(second, m) {
			t.Fatalf("%q: got %+v and %+v", text, first, second)
		}
		scribbleMsg(first)
		if third, _ := impl.MsgRead(text); !sameMsg(second, m) || !sameMsg(third, m) {
			t.Fatalf("%q: got %+v and %+v behind what was done to the first", text, second, third)
		}
	}
}

// TestMsgReadNothing has nothing beside false, spare room too.
func TestMsgReadNothing(t *testing.T) {
	for _, text := range []string{"", "joined 0 0 0 0 1", "joined 0 0 0 1" + " 0 0 0 0 0 0 0 0 0 0 0 0 0 0 0 0 0 0 0 0 0 0 0 0", "news 0 0 0 0 1 10 2 (2@9 1@5)", "news 0 0 0 0 0 10 2 (1@5 2@9)", "fill 0 0 0 0 1 0"} {
		m, read := impl.MsgRead(text)
		if read || !isNoMsg(m) || cap(m.Vers) != 0 || cap(m.Item.Val.Kin) != 0 {
			t.Errorf("%q: got %+v, %v", text, m, read)
		}
	}
}
