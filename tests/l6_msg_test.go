package tests

import (
	"fmt"
	"maps"
	"math"
	"slices"
	"testing"

	"loop.example/kith/impl"
)

func TestMsgNames(t *testing.T) {
	kinds := []int{impl.MsgFill, impl.MsgFilled, impl.MsgWrite, impl.MsgWrote, impl.MsgNews, impl.MsgGone, impl.MsgJoin, impl.MsgJoined, impl.MsgBack, impl.MsgBacked}
	if !slices.Equal(kinds, []int{1, 2, 3, 4, 5, 6, 7, 8, 9, 10}) {
		t.Errorf("kinds %v", kinds)
	}
}

func TestMsgOk(t *testing.T) {
	came := map[int]int{}
	for _, m := range rightMsgs() {
		came[m.Kind]++
		if !impl.MsgOk(m) {
			t.Errorf("%+v is ok", m)
		}
		if !impl.MsgOk(emptyMsgLists(m)) {
			t.Errorf("%+v with empty lists is ok", m)
		}
	}
	for kind := 1; kind <= 10; kind++ {
		if came[kind] < 6 {
			t.Errorf("but %d messages of the kind %d", came[kind], kind)
		}
	}
}

// emptyMsgLists is a message with empty lists in the place of nil.
func emptyMsgLists(m impl.Msg) impl.Msg {
	m.Vers, m.Item.Val.Kin = append([]int{}, m.Vers...), append([]impl.Edge{}, m.Item.Val.Kin...)
	return m
}

// msgChange is a change of one thing of a message, and the kinds whose plain messages are ok behind it.
type msgChange struct {
	what string
	do   func(m *impl.Msg)
	fine []int
}

// allKinds are all kinds but some.
func allKinds(but ...int) []int {
	var kinds []int
	for kind := 1; kind <= 10; kind++ {
		if !slices.Contains(but, kind) {
			kinds = append(kinds, kind)
		}
	}
	return kinds
}

// numberChanges are changes of what all messages have, and of the code.
func numberChanges() []msgChange {
	var changes []msgChange
	add := func(what string, num int, field func(m *impl.Msg) *int, fine ...int) {
		changes = append(changes, msgChange{fmt.Sprint(what, " ", num), func(m *impl.Msg) { *field(m) = num }, fine})
	}
	kind, tier, part0 := func(m *impl.Msg) *int { return &m.Kind }, func(m *impl.Msg) *int { return &m.Tier }, func(m *impl.Msg) *int { return &m.Part }
	inc, seq, code := func(m *impl.Msg) *int { return &m.Inc }, func(m *impl.Msg) *int { return &m.Seq }, func(m *impl.Msg) *int { return &m.Code }
	for _, num := range []int{-1, math.MinInt, math.MaxInt, math.MinInt + 1} {
		for what, field := range map[string]func(m *impl.Msg) *int{"Kind": kind, "Tier": tier, "Part": part0, "Inc": inc, "Seq": seq, "Code": code} {
			add(what, num, field)
		}
	}
	for _, num := range []int{0, 11, 12} {
		add("Kind", num, kind)
	}
	add("Tier", 0, tier, allKinds()...)
	add("Tier", 1, tier, allKinds(9, 10)...)
	add("Tier", 2, tier)
	add("Part", 2, part0)
	add("Inc", 0, inc, allKinds()...)
	add("Inc", 1, inc, allKinds(5, 6, 9, 10)...)
	add("Inc", 1000, inc, allKinds(5, 6, 9, 10)...)
	add("Inc", 1001, inc)
	add("Seq", 0, seq, allKinds(9, 10)...)
	add("Seq", 1, seq, allKinds(5, 6, 7, 8)...)
	add("Seq", 1000, seq, allKinds(5, 6, 7, 8)...)
	add("Seq", 1001, seq)
	add("Code", 0, code, allKinds()...)
	for num := 1; num <= 5; num++ {
		add("Code", num, code, 4)
	}
	add("Code", 6, code)
	// Those that have no key are of either part.
	changes = append(changes, msgChange{"the other part", func(m *impl.Msg) { m.Part = 1 - m.Part }, []int{7, 8, 10}})
	return changes
}

// itemChanges are changes of a message's item.
func itemChanges() []msgChange {
	var changes []msgChange
	add := func(what string, do func(it *impl.Item), fine ...int) {
		changes = append(changes, msgChange{what, func(m *impl.Msg) { do(&m.Item) }, fine})
	}
	keyed, valued := []int{1, 2, 4, 5, 6}, []int{2, 4, 5}
	for _, key := range []int{-1, -2, 24, 25, math.MinInt, math.MaxInt} {
		add(fmt.Sprint("the key ", key), func(it *impl.Item) { it.Key = key })
		add(fmt.Sprint("the key ", key, ", which has nothing"), func(it *impl.Item) { *it = item(key, 0, impl.Val{}) })
	}
	add("the key next to it", func(it *impl.Item) { it.Key++ })
	add("the key ahead of it", func(it *impl.Item) { it.Key-- })
	add("no key that has anything is nothing", func(it *impl.Item) { it.Key = 1 - it.Key%2 })
	add("the key two ahead of it, of the same kind", func(it *impl.Item) { it.Key -= 2 }, keyed...)
	for _, ver := range []int{-1, 61, math.MinInt, math.MaxInt} {
		add(fmt.Sprint("the Ver ", ver), func(it *impl.Item) { it.Ver = ver })
	}
	for _, ver := range []int{1, 59, 60} {
		add(fmt.Sprint("the Ver ", ver), func(it *impl.Item) { it.Ver = ver }, 2, 4, 5, 6)
	}
	add("the Ver 0", func(it *impl.Item) { it.Ver = 0 }, allKinds()...)
	for _, num := range []int{1, 1000000} {
		add(fmt.Sprint("the number ", num), func(it *impl.Item) { it.Val.Num = num }, 4)
	}
	for _, num := range []int{-1, 1000001, math.MinInt, math.MaxInt} {
		add(fmt.Sprint("the number ", num), func(it *impl.Item) { it.Val.Num = num })
	}
	add("kin", func(it *impl.Item) { it.Val.Kin = edges(1, 2) }, 2, 5)
	add("kin of nothing but zeros", func(it *impl.Item) { it.Val.Kin = edges(0, 0) }, 2, 5)
	add("a number and kin", func(it *impl.Item) { it.Val = impl.Val{Num: 1, Kin: edges(1, 2)} })
	add("nothing in it", func(it *impl.Item) { it.Val = impl.Val{} }, allKinds()...)
	for what, list := range wrongEdges() {
		add("kin: "+what, func(it *impl.Item) { it.Val = impl.Val{Kin: list} })
	}
	for what, wrong := range wrongItemList() {
		add("an item: "+what, func(it *impl.Item) { *it = wrong })
	}
	add("a number where kin are", func(it *impl.Item) { it.Val = thing(17) }, 4)
	// Of the plain messages, one has a number and two have kin.
	for _, kind := range valued {
		add(fmt.Sprint("the item of the kind ", kind), func(it *impl.Item) {
			*it = item(plainMsgs(0)[kind].Item.Key+it.Key%2, it.Ver, plainMsgs(0)[kind].Item.Val)
		}, valued...)
	}
	return changes
}

// listChanges are changes of a message's Vers, and of its write.
func listChanges() []msgChange {
	var changes []msgChange
	add := func(what string, do func(m *impl.Msg), fine ...int) {
		changes = append(changes, msgChange{what, do, fine})
	}
	add("24 Vers of 0", func(m *impl.Msg) { m.Vers = make([]int, 24) }, 8)
	for _, many := range []int{1, 2, 12, 23, 25, 48, 100000} {
		add(fmt.Sprint(many, " Vers of 0"), func(m *impl.Msg) { m.Vers = make([]int, many) })
	}
	add("one Ver less", func(m *impl.Msg) { m.Vers = someVers()[:23] })
	add("the first Ver gone", func(m *impl.Msg) { m.Vers = someVers()[1:] })
	add("one Ver more", func(m *impl.Msg) { m.Vers = append(someVers(), 0) })
	add("no Vers", func(m *impl.Msg) { m.Vers = nil }, allKinds(8)...)
	add("empty Vers", func(m *impl.Msg) { m.Vers = []int{} }, allKinds(8)...)
	for _, place := range []int{0, 1, 12, 22, 23} {
		with := func(ver int) func(m *impl.Msg) {
			return func(m *impl.Msg) { m.Vers = slices.Replace(someVers(), place, place+1, ver) }
		}
		for _, ver := range []int{-1, 61, math.MinInt, math.MaxInt} {
			add(fmt.Sprintf("a Ver of %d at %d", ver, place), with(ver))
		}
		for _, ver := range []int{0, 60} {
			add(fmt.Sprintf("a Ver of %d at %d", ver, place), with(ver), 8)
		}
	}
	add("no write", func(m *impl.Msg) { m.Op = impl.Op{} }, allKinds(3, 9)...)
	for what, op := range map[string]impl.Op{"of a kind alone": {Kind: 2}, "of an A alone": {A: 1}, "of a B alone": {B: 1}, "of an N alone": {N: 1}} {
		add("a write "+what, func(m *impl.Msg) { m.Op = op })
	}
	return changes
}

// opChanges are changes of the write of a message of the part 0.
func opChanges() []msgChange {
	var changes []msgChange
	add := func(what string, op impl.Op, fine ...int) {
		changes = append(changes, msgChange{fmt.Sprint(what, " ", op), func(m *impl.Msg) { m.Op = op }, fine})
	}
	for _, op := range []impl.Op{set(0, 0), set(0, 1000000), set(6, 17)} {
		add("a number, which has no other end", op, 3)
	}
	for _, op := range []impl.Op{set(1, 0), set(7, 1000000)} {
		add("a number in the other part", op)
	}
	for _, op := range []impl.Op{bind(0, 2, 5), bind(6, 4, 1000), bind(2, 0, 0), part(0, 6), part(4, 2)} {
		add("both ends in the part", op, 3, 9)
	}
	for _, op := range []impl.Op{bind(0, 1, 5), bind(6, 7, 1000), part(0, 7), part(4, 1)} {
		add("the key in the part", op, 3)
	}
	for _, op := range []impl.Op{bind(1, 0, 5), bind(7, 6, 1000), part(7, 0), part(1, 4)} {
		add("the other end in the part", op, 9)
	}
	for _, op := range []impl.Op{bind(1, 3, 5), bind(7, 5, 1000), part(1, 7), part(5, 3)} {
		add("no end in the part", op)
	}
	for _, op := range wrongOps() {
		if op != (impl.Op{}) {
			add("none", op)
		}
	}
	return changes
}

// TestMsgOkOneOff has one thing changed of a plain message of each kind: only of those kinds that may have it so it is still ok.
func TestMsgOkOneOff(t *testing.T) {
	for part0 := range 2 {
		changes := slices.Concat(numberChanges(), itemChanges(), listChanges())
		if part0 == 0 {
			changes = append(changes, opChanges()...)
		}
		for _, change := range changes {
			for kind, m := range plainMsgs(part0) {
				if !impl.MsgOk(m) {
					t.Fatalf("%+v is ok", m)
				}
				change.do(&m)
				want := slices.Contains(change.fine, kind)
				if got := impl.MsgOk(m); got != want || msgTold(m) != want {
					t.Errorf("part %d, %s: %+v: ok is %v, not %v", part0, change.what, m, got, want)
				}
			}
		}
	}
}

// TestMsgOkHasNot has what a plain message of one kind has in a message of each other kind: it is ok of those alone that have no less and no more.
func TestMsgOkHasNot(t *testing.T) {
	// An item of a Ver and with a Val is told by several kinds; of the part 0, nothing is an item of the key 0.
	alike := map[int][]int{1: nil, 2: {1, 5, 6}, 3: nil, 4: {1, 2, 5, 6}, 5: {1, 2, 6}, 6: {1}, 7: {10}, 8: nil, 9: nil, 10: {7}}
	for part0 := range 2 {
		for kind := 1; kind <= 10; kind++ {
			for other, m := range plainMsgs(part0) {
				m.Kind, m.Tier, m.Inc, m.Seq = kind, 0, 0, 0
				if msgKinds[kind].leads {
					m.Seq = 1
				}
				want := kind == other || slices.Contains(alike[kind], other) || part0 == 0 && msgKinds[kind].key && (other == 7 || other == 10)
				if got := impl.MsgOk(m); got != want || msgTold(m) != want || (impl.MsgText(m) != "") != want {
					t.Errorf("%d as %d: %+v: ok is %v, not %v", other, kind, m, got, want)
				}
			}
		}
	}
}

// TestMsgOkEach has all four numbers at their edges, of all kinds, with what each of them has, and with nothing.
func TestMsgOkEach(t *testing.T) {
	count := map[bool]int{}
	for kind := -1; kind <= 12; kind++ {
		for _, plain := range slices.Concat(slices.Collect(maps.Values(plainMsgs(0))), slices.Collect(maps.Values(plainMsgs(1)))) {
			for tier := -1; tier <= 2; tier++ {
				for part0 := -1; part0 <= 2; part0++ {
					for _, inc := range []int{-1, 0, 1, 1000, 1001} {
						for _, seq := range []int{-1, 0, 1, 1000, 1001} {
							m := plain
							m.Kind, m.Tier, m.Part, m.Inc, m.Seq = kind, tier, part0, inc, seq
							want := msgTold(m)
							count[want]++
							if got := impl.MsgOk(m); got != want {
								t.Fatalf("%+v: ok is %v, not %v", m, got, want)
							}
						}
					}
				}
			}
		}
	}
	if count[true] < 500 || count[false] < 50000 {
		t.Errorf("%v", count)
	}
}

// TestMsgOkKeys has each key, of both parts, as an item that has nothing.
func TestMsgOkKeys(t *testing.T) {
	for _, kind := range []int{1, 2, 4, 5, 6} {
		for key := range 24 {
			for part0 := range 2 {
				m := itemMsg(msgOf(kind, 0, part0, 0, 0), item(key, 0, impl.Val{}))
				if got := impl.MsgOk(m); got != (key%2 == part0) {
					t.Errorf("kind %d, key %d, part %d: ok is %v", kind, key, part0, got)
				}
			}
		}
		for _, key := range noKeys() {
			for part0 := -1; part0 <= 1; part0++ {
				if impl.MsgOk(itemMsg(msgOf(kind, 0, part0, 0, 0), item(key, 0, impl.Val{}))) {
					t.Errorf("kind %d, there is no key %d", kind, key)
				}
			}
		}
	}
}

// TestMsgOkWrites has all writes, ok or not, in messages of both parts.
func TestMsgOkWrites(t *testing.T) {
	eachOp(func(op impl.Op) {
		for part0 := range 2 {
			write, back := opMsg(msgOf(3, 0, part0, 0, 1), op), opMsg(msgOf(9, 0, part0, 0, 1), op)
			wantWrite, wantBack := false, false
			if opTold(op) {
				wantWrite, wantBack = op.A%2 == part0, op.Kind != 1 && op.B%2 == part0
			}
			if got := impl.MsgOk(write); got != wantWrite {
				t.Errorf("%+v: ok is %v", write, got)
			}
			if got := impl.MsgOk(back); got != wantBack {
				t.Errorf("%+v: ok is %v", back, got)
			}
		}
	})
}

// TestMsgOkOfMany has lists that are far longer than any that is ok.
func TestMsgOkOfMany(t *testing.T) {
	for part0 := range 2 {
		for kind, m := range plainMsgs(part0) {
			long := m
			long.Vers = make([]int, 1000000)
			kin := m
			kin.Item.Val.Kin = slices.Repeat(edges(1, 2), 1000000)
			for _, many := range []impl.Msg{long, kin} {
				if got, read := impl.MsgRead(impl.MsgText(many)); impl.MsgOk(many) || impl.MsgText(many) != "" || read || !isNoMsg(got) {
					t.Errorf("kind %d: so many are not ok", kind)
				}
			}
		}
	}
}

func TestMsgUp(t *testing.T) {
	for kind, want := range map[int]bool{1: true, 2: false, 3: true, 4: false, 5: false, 6: false, 7: true, 8: false, 9: true, 10: true,
		0: false, 11: false, -1: false, -9: false, math.MaxInt: false, math.MinInt: false} {
		msgs := []impl.Msg{{Kind: kind}, {Kind: kind, Tier: 9, Part: -3, Inc: 5000, Seq: -1, Code: 77}}
		// Of what else a message has, nothing is asked.
		for part0 := range 2 {
			for _, m := range plainMsgs(part0) {
				m.Kind = kind
				msgs = append(msgs, m)
			}
		}
		for _, m := range msgs {
			if got := impl.MsgUp(m); got != want {
				t.Errorf("%+v: up is %v", m, got)
			}
		}
	}
}

// otherMsgs are messages that differ from the one that is given in one thing each.
func otherMsgs(m impl.Msg) map[string]impl.Msg {
	others := map[string]impl.Msg{}
	change := func(what string, do func(m *impl.Msg)) {
		other := keptMsg(m)
		do(&other)
		others[what] = other
	}
	for what, field := range map[string]func(m *impl.Msg) *int{
		"kind": func(m *impl.Msg) *int { return &m.Kind }, "tier": func(m *impl.Msg) *int { return &m.Tier },
		"part": func(m *impl.Msg) *int { return &m.Part }, "inc": func(m *impl.Msg) *int { return &m.Inc },
		"seq": func(m *impl.Msg) *int { return &m.Seq }, "code": func(m *impl.Msg) *int { return &m.Code },
		"op's kind": func(m *impl.Msg) *int { return &m.Op.Kind }, "op's a": func(m *impl.Msg) *int { return &m.Op.A },
		"op's b": func(m *impl.Msg) *int { return &m.Op.B }, "op's n": func(m *impl.Msg) *int { return &m.Op.N },
		"key": func(m *impl.Msg) *int { return &m.Item.Key }, "ver": func(m *impl.Msg) *int { return &m.Item.Ver },
		"num": func(m *impl.Msg) *int { return &m.Item.Val.Num },
	} {
		change(what+", one more", func(m *impl.Msg) { *field(m)++ })
		change(what+", one less", func(m *impl.Msg) { *field(m)-- })
	}
	change("a Ver more", func(m *impl.Msg) { m.Vers = append(m.Vers, 0) })
	change("one of the kin more", func(m *impl.Msg) { m.Item.Val.Kin = append(m.Item.Val.Kin, impl.Edge{}) })
	for place := range m.Vers {
		change(fmt.Sprint("Ver ", place), func(m *impl.Msg) { m.Vers[place]++ })
		change(fmt.Sprint("no Ver ", place), func(m *impl.Msg) { m.Vers = m.Vers[:place] })
	}
	for place := range m.Item.Val.Kin {
		change(fmt.Sprint("who ", place), func(m *impl.Msg) { m.Item.Val.Kin[place].Who++ })
		change(fmt.Sprint("time ", place), func(m *impl.Msg) { m.Item.Val.Kin[place].At++ })
		change(fmt.Sprint("no kin from ", place), func(m *impl.Msg) { m.Item.Val.Kin = m.Item.Val.Kin[:place] })
	}
	return others
}

// manyMsgs are messages that are ok and messages that are not, one of which has all that there is.
func manyMsgs() []impl.Msg {
	full := impl.Msg{Kind: 3, Tier: 1, Part: 1, Inc: 4, Seq: 5, Op: bind(2, 3, 5), Item: item(9, 8, impl.Val{Num: 6, Kin: edges(4, 9, 4, 9)}), Vers: []int{1, 70, 1}, Code: 2}
	msgs := []impl.Msg{{}, full, {Kind: -1}, {Kind: 11, Vers: []int{0}}, {Item: item(0, 0, bond(0, 0))}, {Vers: make([]int, 24)}, {Vers: make([]int, 25)}}
	for part0 := range 2 {
		for kind := 1; kind <= 10; kind++ {
			msgs = append(msgs, plainMsgs(part0)[kind])
		}
	}
	return msgs
}

// TestMsgSame has each of many messages beside each other one.
func TestMsgSame(t *testing.T) {
	msgs := manyMsgs()
	for a, m := range msgs {
		if !impl.MsgSame(m, emptyMsgLists(m)) || !impl.MsgSame(emptyMsgLists(m), m) {
			t.Errorf("%+v: an empty list is the same as nil", m)
		}
		for b, other := range msgs {
			if got := impl.MsgSame(m, keptMsg(other)); got != (a == b) || sameMsg(m, other) != (a == b) {
				t.Errorf("%+v and %+v: the same is %v", m, other, got)
			}
		}
	}
}

// TestMsgSameOneOff has one thing changed of each of many messages.
func TestMsgSameOneOff(t *testing.T) {
	for _, m := range manyMsgs() {
		for what, other := range otherMsgs(m) {
			if impl.MsgSame(m, other) || impl.MsgSame(other, m) {
				t.Errorf("%+v: another %s", m, what)
			}
			if !impl.MsgSame(other, keptMsg(other)) {
				t.Errorf("%+v, %s: not the same as itself", m, what)
			}
		}
	}
}
