package tests

import (
	"fmt"
	"slices"
	"strings"
	"testing"

	"loop.example/kith/impl"
)

// tierModel is a tier, as plain as it can be told.
type tierModel struct {
	id     int
	inc    int
	seq    int
	joined [2]bool
	waits  string // for a read, for a write, or for nothing
	key    int
	op     impl.Op
	cache  cacheModel
}

// tierStep is one call of a tier.
type tierStep struct {
	what string // read, write, retry, take or fall
	key  int
	op   impl.Op
	msg  impl.Msg
}

// tierAnswer is what such a call answers beside the tier.
type tierAnswer struct {
	sent []impl.Msg
	told []impl.Told
}

func asksRead(key int) tierStep {
	return tierStep{what: "read", key: key}
}

func asksWrite(op impl.Op) tierStep {
	return tierStep{what: "write", op: op}
}

func asksRetry() tierStep {
	return tierStep{what: "retry"}
}

func asksTake(m impl.Msg) tierStep {
	return tierStep{what: "take", msg: m}
}

func asksFall() tierStep {
	return tierStep{what: "fall"}
}

// doTier asks the program.
func doTier(t impl.Tier, st tierStep) (impl.Tier, tierAnswer) {
	var got impl.Tier
	var a tierAnswer
	switch st.what {
	case "read":
		got, a.sent, a.told = impl.TierRead(t, st.key)
	case "write":
		got, a.sent = impl.TierWrite(t, st.op)
	case "retry":
		got, a.sent, a.told = impl.TierRetry(t)
	case "take":
		got, a.sent, a.told = impl.TierTake(t, st.msg)
	case "fall":
		got = impl.TierFall(t)
	}
	return got, a
}

// do is the model behind a step, and the answer, in the document's words.
func (m tierModel) do(st tierStep) (tierModel, tierAnswer) {
	switch st.what {
	case "read":
		if m.waits != "" || m.seq == 1000 || !among(st.key, 0, 23) {
			return m, tierAnswer{}
		}
		m.seq, m.waits, m.key = m.seq+1, "read", st.key
	case "write":
		if m.waits != "" || m.seq == 1000 || !opTold(st.op) {
			return m, tierAnswer{}
		}
		m.seq, m.waits, m.op = m.seq+1, "write", st.op
	case "take":
		return m.take(st.msg)
	case "fall":
		if m.inc == 1000 {
			return m, tierAnswer{}
		}
		return tierModel{id: m.id, inc: m.inc + 1}, tierAnswer{}
	}
	return m.goOn(true)
}

// take is what is behind a message, in the document's words.
func (m tierModel) take(msg impl.Msg) (tierModel, tierAnswer) {
	if !msgTold(msg) || msgKinds[msg.Kind].up || msg.Tier != m.id {
		return m, tierAnswer{}
	}
	key := msg.Item.Key
	switch msg.Kind {
	case 2:
		if msg.Inc == m.inc {
			m.cache = m.cache.after(puts(msg.Item))
		}
	case 4:
		if msg.Inc != m.inc || msg.Seq != m.seq || m.waits != "write" || key != opKeyTold(m.op) {
			return m, tierAnswer{}
		}
		m.cache = m.cache.after(puts(msg.Item))
		return m.free(), tierAnswer{told: []impl.Told{{Tier: m.id, Item: msg.Item, Wrote: true, Code: msg.Code}}}
	case 5:
		if m.cache.put[key] > 0 {
			m.cache = m.cache.after(puts(msg.Item))
			break
		}
		m.cache = m.cache.after(floors(key, msg.Item.Ver))
	case 6:
		m.cache = m.cache.after(floors(key, msg.Item.Ver))
	case 8:
		if msg.Inc != m.inc || m.joined[msg.Part] {
			break
		}
		for key, ver := range msg.Vers {
			if key%2 == msg.Part {
				m.cache = m.cache.after(floors(key, ver))
			}
		}
		m.joined[msg.Part] = true
		return m.goOn(true)
	}
	return m.goOn(false)
}

// goOn is the model behind going on, with or without sending.
func (m tierModel) goOn(sends bool) (tierModel, tierAnswer) {
	var a tierAnswer
	if m.waits == "read" && m.joined[m.key%2] && m.cache.put[m.key] > 0 {
		it := item(m.key, m.cache.floor[m.key], m.cache.val[m.key])
		m.cache = m.cache.after(puts(it))
		a.told = []impl.Told{{Tier: m.id, Item: it}}
		m = m.free()
	}
	switch {
	case !sends || m.waits == "":
	case m.waits == "write":
		a.sent = []impl.Msg{opMsg(msgOf(3, m.id, m.op.A%2, m.inc, m.seq), m.op)}
	case !m.joined[m.key%2]:
		a.sent = []impl.Msg{msgOf(7, m.id, m.key%2, m.inc, 0)}
	default:
		a.sent = []impl.Msg{itemMsg(msgOf(1, m.id, m.key%2, m.inc, m.seq), item(m.key, 0, impl.Val{}))}
	}
	return m, a
}

// free waits for nothing.
func (m tierModel) free() tierModel {
	m.waits, m.key, m.op = "", 0, impl.Op{}
	return m
}

// after is the model behind some steps.
func (m tierModel) after(steps ...tierStep) tierModel {
	for _, st := range steps {
		m, _ = m.do(st)
	}
	return m
}

// opKeyTold is the key that a write is of, which is ok.
func opKeyTold(op impl.Op) int {
	if op.Kind == 1 {
		return keyTable[0][op.A]
	}
	return keyTable[2][op.A]
}

// tier is the tier of the model, which shares none with it.
func (m tierModel) tier() impl.Tier {
	return impl.Tier{Id: m.id, Inc: m.inc, Seq: m.seq, Joined: m.joined, Busy: m.waits != "", Reads: m.waits == "read", Key: m.key, Op: m.op, Cache: m.cache.cache()}
}

// tierTold says whether a tier is ok, in the document's words; of its cache the program is asked.
func tierTold(t impl.Tier) bool {
	if !among(t.Id, 0, 1) || !among(t.Inc, 0, 1000) || !among(t.Seq, 0, 1000) || !impl.CacheOk(t.Cache) {
		return false
	}
	switch {
	case !t.Busy:
		return !t.Reads && t.Key == 0 && t.Op == impl.Op{}
	case t.Reads:
		return among(t.Key, 0, 23) && t.Op == impl.Op{} && t.Seq > 0
	}
	return t.Key == 0 && opTold(t.Op) && t.Seq > 0
}

// sameTier says whether two tiers are one, asked of nothing that is tested.
func sameTier(a impl.Tier, b impl.Tier) bool {
	return a.Id == b.Id && a.Inc == b.Inc && a.Seq == b.Seq && a.Joined == b.Joined && a.Busy == b.Busy && a.Reads == b.Reads &&
		a.Key == b.Key && a.Op == b.Op && sameCache(a.Cache, b.Cache)
}

func sameTold(a impl.Told, b impl.Told) bool {
	return a.Tier == b.Tier && a.Wrote == b.Wrote && a.Code == b.Code && sameItem(a.Item, b.Item)
}

func sameTierAnswer(a tierAnswer, b tierAnswer) bool {
	return sameMsgs(a.sent, b.sent) && slices.EqualFunc(a.told, b.told, sameTold)
}

func tierText(t impl.Tier) string {
	return fmt.Sprintf("tier %d.%d.%d joined %v busy %v reads %v key %d op %v, %s", t.Id, t.Inc, t.Seq, t.Joined, t.Busy, t.Reads, t.Key, t.Op, cacheText(t.Cache))
}

// String tells messages and answers, a line each.
func (a tierAnswer) String() string {
	var lines []string
	for _, told := range a.told {
		how := "has"
		if told.Wrote {
			how = "wrote"
		}
		lines = append(lines, fmt.Sprintf("tier %d %s %d %d %s code %d", told.Tier, how, told.Item.Key, told.Item.Ver, valTextTold(told.Item), told.Code))
	}
	if len(a.sent) > 0 {
		lines = append(lines, msgLines(a.sent))
	}
	return strings.Join(lines, "\n")
}

func (st tierStep) String() string {
	switch st.what {
	case "read":
		return fmt.Sprint("read ", st.key)
	case "write":
		return fmt.Sprint("write ", st.op)
	case "take":
		return "take " + msgLines([]impl.Msg{st.msg})
	}
	return st.what
}

// wantTier asks the program for a step, and tells what is not as the model has it, or not ok.
func wantTier(t *testing.T, what string, m tierModel, st tierStep) (tierModel, tierAnswer) {
	t.Helper()
	got, a := doTier(m.tier(), st)
	next, want := m.do(st)
	if !sameTier(got, next.tier()) {
		t.Fatalf("%s, %v: got\n%s\nwant\n%s", what, st, tierText(got), tierText(next.tier()))
	}
	if !sameTierAnswer(a, want) {
		t.Fatalf("%s, %v: got\n%v\nwant\n%v", what, st, a, want)
	}
	if !impl.TierOk(got) || !tierTold(got) {
		t.Fatalf("%s, %v: %s is not ok", what, st, tierText(got))
	}
	if len(a.sent) > 1 || len(a.told) > 1 || len(a.sent) == 1 && !msgTold(a.sent[0]) || len(a.told) == 1 && !itemTold(a.told[0].Item) {
		t.Fatalf("%s, %v: %v is not ok", what, st, a)
	}
	for key, floor := range m.cache.floor {
		if st.what != "fall" && got.Cache.Floors[key] < floor {
			t.Fatalf("%s, %v: the floor of %d sank: %s", what, st, key, tierText(got))
		}
	}
	return next, want
}

// tierCaches are caches that a tier can have.
func tierCaches() map[string]cacheModel {
	some := cacheModel{}.after(puts(item(11, 3, bond(2, 9, 4, 5))), puts(item(18, 7, bond(3, 5))))
	return map[string]cacheModel{
		"open":   {},
		"some":   some,
		"full":   some.after(puts(item(2, 5, thing(17))), puts(item(7, 0, thing(0)))),
		"floors": some.after(floors(20, 4), floors(9, 60), floors(2, 5), floors(7, 1)),
		"of 60":  allFloors(60),
	}
}

// tierWaits are tiers with nothing but what they wait for: reads of keys of both parts, and writes of each kind.
func tierWaits() map[string]tierModel {
	waits := map[string]tierModel{"nothing": {}}
	for _, key := range []int{0, 2, 18, 20, 7, 9, 11, 23} {
		waits[fmt.Sprint("read ", key)] = tierModel{waits: "read", key: key}
	}
	for _, op := range []impl.Op{set(2, 17), set(7, 0), bind(2, 3, 5), bind(1, 2, 1000), part(4, 6), part(3, 2)} {
		waits[fmt.Sprint("write ", op)] = tierModel{waits: "write", op: op}
	}
	return waits
}

// rightTiers are tiers that are ok.
func rightTiers() map[string]tierModel {
	tiers := map[string]tierModel{}
	for holds, c := range tierCaches() {
		for waits, m := range tierWaits() {
			for joined := range 4 {
				for id := range 2 {
					m.id, m.joined, m.cache = id, [2]bool{joined&1 > 0, joined&2 > 0}, c
					m.inc, m.seq = []int{0, 7, 1, 999}[joined], []int{3, 1, 999, 17}[joined^id]
					tiers[fmt.Sprintf("tier %d, %s, %s, joined %v", id, holds, waits, m.joined)] = m
				}
			}
		}
	}
	return tiers
}

// near3 are a number and those beside it, as far as they are 0 to most.
func near3(n int, most int) []int {
	var nums []int
	for _, num := range []int{n - 1, n, n + 1} {
		if among(num, 0, most) {
			nums = append(nums, num)
		}
	}
	return nums
}

// valOf is something that a key can have, another one for each Ver.
func valOf(key int, ver int) impl.Val {
	if key < 8 {
		return thing(100 + ver)
	}
	return bond(7, 100+ver, 5, 9)
}

// tierMsgs are messages to a tier, near to what it waits for and to its floors, and some that are none of its.
func tierMsgs(m tierModel) []impl.Msg {
	var msgs []impl.Msg
	for part0 := range 2 {
		for kind := 1; kind <= 10; kind++ {
			other := plainMsgs(part0)[kind]
			if kind < 9 {
				other.Tier = 1 - m.id
			}
			msgs = append(msgs, plainMsgs(part0)[kind], other)
		}
	}
	keys := []int{2, 7, 11, 18, 20, m.key}
	if m.waits == "write" {
		keys = append(keys, opKeyTold(m.op))
	}
	for _, key := range keys {
		for _, ver := range near3(m.cache.floor[key], 60) {
			msgs = append(msgs, tierItemMsgs(m, item(key, ver, valOf(key, ver)))...)
		}
	}
	return slices.Concat(msgs, tierJoins(m))
}

// tierItemMsgs are messages to a tier with an item: of this life and request, and of those beside it.
func tierItemMsgs(m tierModel, it impl.Item) []impl.Msg {
	part0 := it.Key % 2
	msgs := []impl.Msg{itemMsg(msgOf(5, m.id, part0, 0, 0), it), itemMsg(msgOf(6, m.id, part0, 0, 0), item(it.Key, it.Ver, impl.Val{}))}
	for _, inc := range near3(m.inc, 1000) {
		for _, seq := range near3(m.seq, 1000) {
			msgs = append(msgs, itemMsg(msgOf(2, m.id, part0, inc, seq), it), codeMsg(itemMsg(msgOf(4, m.id, part0, inc, seq), it), it.Ver%6))
		}
	}
	return msgs
}

// tierJoins are what a tier that joins is answered: of both parts, of this life and of those beside it, with Vers at, above and below its floors.
func tierJoins(m tierModel) []impl.Msg {
	above, below := make([]int, 24), make([]int, 24)
	for key, floor := range m.cache.floor {
		above[key], below[key] = min(floor+1, 60), max(floor-1, 0)
	}
	var msgs []impl.Msg
	for part0 := range 2 {
		for _, inc := range near3(m.inc, 1000) {
			for _, vers := range [][]int{make([]int, 24), m.cache.floor[:], above, below, someVers(), slices.Repeat([]int{60}, 24)} {
				msgs = append(msgs, versMsg(msgOf(8, m.id, part0, inc, 0), vers...))
			}
		}
	}
	return msgs
}
