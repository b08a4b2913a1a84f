package tests

import (
	"strings"
	"testing"

	"loop.example/kith/impl"
)

// near is a number of 0 to most, mostly a small one or the last one; of sixteen, one is none of these.
func (c *chooser) near(most int) int {
	if c.pick(16) == 0 {
		return []int{-1, most + 1}[c.pick(2)]
	}
	return []int{0, 0, min(1, most), most, c.pick(most + 1)}[c.pick(5)]
}

// msg is some message: of its kind, it mostly has what that has, and nothing else.
func (c *chooser) msg() impl.Msg {
	m := impl.Msg{Kind: 1 + c.pick(10), Tier: c.near(1), Part: c.near(1), Inc: c.near(1000), Seq: c.near(1000)}
	has := msgKinds[m.Kind]
	odd := func() bool { return c.pick(24) == 0 }
	if has.leads && !odd() {
		m.Tier, m.Inc = 0, 0
	}
	if has.noInc && !odd() {
		m.Inc = 0
	}
	if has.noSeq && !odd() {
		m.Seq = 0
	}
	if has.key != odd() {
		m.Item.Key = 2*c.pick(12) + m.Part
	}
	if has.ver != odd() {
		m.Item.Ver = c.near(60)
	}
	if has.val != odd() {
		m.Item.Val = c.val(max(m.Item.Key, 0) % 24)
	}
	if has.code != odd() {
		m.Code = c.near(5)
	}
	if has.op != odd() {
		m.Op = c.op(m.Part)
		if has.bond {
			m.Op.A, m.Op.B = m.Op.B, m.Op.A
		}
	}
	if has.vers != odd() {
		for range 24 - c.pick(10)/9 {
			m.Vers = append(m.Vers, c.pick(61))
		}
	}
	if odd() {
		m.Kind = c.pick(16) - 2
	}
	return m
}

// mixed is a text with the first words of one text and the last ones of another one.
func (c *chooser) mixed(first string, last string) string {
	a, b := strings.Split(first, " "), strings.Split(last, " ")
	from, to := c.pick(len(a)+1), c.pick(len(b)+1)
	if c.pick(4) > 0 {
		to = min(from, len(b)) // as many words are gone as have come
	}
	return strings.Join(append(a[:from], b[to:]...), " ")
}

// TestMsgAlways is promise 6: of some messages, those that are ok are read from their text; of some texts, those that are read are the message's.
func TestMsgAlways(t *testing.T) {
	c := chooser(6)
	ok, read, last := map[int]int{}, map[int]int{}, map[int]string{}
	for range 60000 {
		m := c.msg()
		want, text := msgTold(m), msgTextTold(m)
		if impl.MsgOk(m) != want || impl.MsgText(m) != text || impl.MsgUp(m) != (among(m.Kind, 1, 10) && msgKinds[m.Kind].up) {
			t.Fatalf("%+v: ok is %v, the text %q, want %v, %q", m, impl.MsgOk(m), impl.MsgText(m), want, text)
		}
		if !want {
			ok[0]++
			continue
		}
		ok[m.Kind]++
		wantMsgRead(t, text, m)
		other := last[[]int{m.Kind, m.Kind, m.Kind, 1 + c.pick(10)}[c.pick(4)]]
		near := c.mixed(text, other)
		got, is := impl.MsgRead(near)
		if told, isTold := msgReadTold(near); is != isTold || !sameMsg(got, told) || is && impl.MsgText(got) != near {
			t.Fatalf("%q: got %+v, %v, want %+v", near, got, is, told)
		}
		if near != text && near != other {
			read[got.Kind]++
		}
		last[m.Kind] = text
	}
	for kind := range 11 {
		if ok[kind] < 500 || read[kind] < 50 {
			t.Errorf("kind %d: %d messages, %d texts", kind, ok[kind], read[kind])
		}
	}
}
