package tests

import (
	"fmt"
	"regexp"
	"slices"
	"strconv"
	"strings"

	"loop.example/kith/impl"
)

// msgHas is what the messages of a kind have, as the document's table tells it.
type msgHas struct {
	word string
	up   bool
	// key, ver and val are those of an item; bond is that the other end of op is of the part, not its key.
	key, ver, val, code, op, bond, vers bool
	// noInc and noSeq are that these are 0; leads is that it goes between those who lead.
	noInc, noSeq, leads bool
}

// msgKinds are the ten kinds, in order, from 1 on.
var msgKinds = [11]msgHas{
	1:  {word: "fill", up: true, key: true},
	2:  {word: "filled", key: true, ver: true, val: true},
	3:  {word: "write", up: true, op: true},
	4:  {word: "wrote", key: true, ver: true, val: true, code: true},
	5:  {word: "news", key: true, ver: true, val: true, noInc: true, noSeq: true},
	6:  {word: "gone", key: true, ver: true, noInc: true, noSeq: true},
	7:  {word: "join", up: true, noSeq: true},
	8:  {word: "joined", vers: true, noSeq: true},
	9:  {word: "back", up: true, op: true, bond: true, leads: true},
	10: {word: "backed", up: true, leads: true},
}

// among says whether a number is one of these.
func among(n int, low int, high int) bool {
	return low <= n && n <= high
}

// msgTold says whether a message is ok, in the document's words.
func msgTold(m impl.Msg) bool {
	if !among(m.Kind, 1, 10) || !among(m.Tier, 0, 1) || !among(m.Part, 0, 1) || !among(m.Inc, 0, 1000) || !among(m.Seq, 0, 1000) {
		return false
	}
	has := msgKinds[m.Kind]
	if has.noInc && m.Inc != 0 || has.noSeq && m.Seq != 0 || has.leads && (m.Tier != 0 || m.Inc != 0 || m.Seq == 0) {
		return false
	}
	return msgItemTold(m, has) && msgOpTold(m, has) && msgVersTold(m, has)
}

func msgItemTold(m impl.Msg, has msgHas) bool {
	if !has.code && m.Code != 0 || !among(m.Code, 0, 5) {
		return false
	}
	if !has.key {
		return isNoItem(m.Item)
	}
	if !has.ver && m.Item.Ver != 0 || !has.val && !isNothing(m.Item.Val) {
		return false
	}
	return among(m.Item.Key, 0, 23) && m.Item.Key%2 == m.Part && itemTold(m.Item)
}

func msgOpTold(m impl.Msg, has msgHas) bool {
	if !has.op {
		return m.Op == impl.Op{}
	}
	if has.bond {
		return opTold(m.Op) && m.Op.Kind != 1 && m.Op.B%2 == m.Part
	}
	return opTold(m.Op) && m.Op.A%2 == m.Part
}

func msgVersTold(m impl.Msg, has msgHas) bool {
	if !has.vers {
		return len(m.Vers) == 0
	}
	wrong := func(ver int) bool { return !among(ver, 0, 60) }
	return len(m.Vers) == 24 && !slices.ContainsFunc(m.Vers, wrong)
}

// msgTextTold is the text of a message, in the document's words.
func msgTextTold(m impl.Msg) string {
	if !msgTold(m) {
		return ""
	}
	has := msgKinds[m.Kind]
	text := fmt.Sprint(has.word, " ", m.Tier, m.Part, m.Inc, m.Seq)
	if has.op {
		text += fmt.Sprint(" ", m.Op.Kind, m.Op.A, m.Op.B, m.Op.N)
	}
	if has.vers {
		text += " " + strings.Trim(fmt.Sprint(m.Vers), "[]")
	}
	if has.val {
		text += fmt.Sprint(" ", m.Code)
	}
	if has.key {
		text += fmt.Sprint(" ", m.Item.Key, m.Item.Ver)
	}
	if has.val {
		text += " " + valTextTold(m.Item)
	}
	return text
}

// valTextTold is the text of what an item's key has.
func valTextTold(it impl.Item) string {
	if it.Key < 8 {
		return fmt.Sprint(it.Val.Num)
	}
	var words []string
	for _, e := range it.Val.Kin {
		words = append(words, fmt.Sprintf("%d@%d", e.Who, e.At))
	}
	return "(" + strings.Join(words, " ") + ")"
}

// msgForm is what a text looks like that may be a message's: a word, numbers without needless zeros, and kin.
var msgForm = regexp.MustCompile(`^([a-z]+)((?: (?:0|[1-9][0-9]{0,6}))+)( \((?:[0-7]@(?:0|[1-9][0-9]{0,3})(?: [0-7]@(?:0|[1-9][0-9]{0,3}))*)?\))?$`)

// kinForm is one of the kin in it.
var kinForm = regexp.MustCompile(`([0-9]+)@([0-9]+)`)

// msgReadTold is the message of which this is the text, read by its form alone.
func msgReadTold(text string) (impl.Msg, bool) {
	parts := msgForm.FindStringSubmatch(text)
	if parts == nil || len(text) > 400 {
		return impl.Msg{}, false
	}
	kind := slices.IndexFunc(msgKinds[:], func(has msgHas) bool { return has.word == parts[1] })
	var nums []int
	for _, word := range strings.Fields(parts[2]) {
		num, _ := strconv.Atoi(word)
		nums = append(nums, num)
	}
	var kin []impl.Edge
	for _, e := range kinForm.FindAllStringSubmatch(parts[3], -1) {
		who, _ := strconv.Atoi(e[1])
		at, _ := strconv.Atoi(e[2])
		kin = append(kin, impl.Edge{Who: who, At: at})
	}
	m, is := msgOfNums(kind, nums, parts[3] != "", kin)
	if !is || !msgTold(m) {
		return impl.Msg{}, false
	}
	return m, true
}

// msgOfNums is the message of a kind that has these numbers, and kin, if there are brackets; false, if these are not as many as it has.
func msgOfNums(kind int, nums []int, brackets bool, kin []impl.Edge) (impl.Msg, bool) {
	if kind < 1 || len(nums) < 4 {
		return impl.Msg{}, false
	}
	has, m := msgKinds[kind], impl.Msg{Kind: kind, Tier: nums[0], Part: nums[1], Inc: nums[2], Seq: nums[3]}
	nums = nums[4:]
	switch {
	case has.op && len(nums) == 4:
		m.Op = impl.Op{Kind: nums[0], A: nums[1], B: nums[2], N: nums[3]}
	case has.vers:
		m.Vers = nums
	case has.val && len(nums) == 3:
		m.Code, m.Item = nums[0], item(nums[1], nums[2], impl.Val{Kin: kin})
		return m, brackets && m.Item.Key > 7
	case has.val && len(nums) == 4:
		m.Code, m.Item = nums[0], item(nums[1], nums[2], thing(nums[3]))
		return m, !brackets && m.Item.Key < 8
	case has.key && !has.val && len(nums) == 2:
		m.Item = item(nums[0], nums[1], impl.Val{})
	default:
		return m, len(nums) == 0 && !has.op && !has.key && !brackets
	}
	return m, !brackets
}

// sameMsg says whether two messages are one, asked of nothing that is tested.
func sameMsg(a impl.Msg, b impl.Msg) bool {
	return a.Kind == b.Kind && a.Tier == b.Tier && a.Part == b.Part && a.Inc == b.Inc && a.Seq == b.Seq && a.Op == b.Op &&
		sameItem(a.Item, b.Item) && slices.Equal(a.Vers, b.Vers) && a.Code == b.Code
}

func isNoMsg(m impl.Msg) bool {
	return sameMsg(m, impl.Msg{})
}

// msgOf is a message of a kind, of the four numbers that all have.
func msgOf(kind int, tier int, part0 int, inc int, seq int) impl.Msg {
	return impl.Msg{Kind: kind, Tier: tier, Part: part0, Inc: inc, Seq: seq}
}

// opMsg, itemMsg, versMsg and codeMsg give a message what its kind has.
func opMsg(m impl.Msg, op impl.Op) impl.Msg {
	m.Op = op
	return m
}

func itemMsg(m impl.Msg, it impl.Item) impl.Msg {
	m.Item = it
	return m
}

func codeMsg(m impl.Msg, code int) impl.Msg {
	m.Code = code
	return m
}

func versMsg(m impl.Msg, vers ...int) impl.Msg {
	m.Vers = vers
	return m
}

// someVers are Vers of all keys, no two beside each other alike.
func someVers() []int {
	return []int{0, 60, 1, 59, 2, 58, 3, 57, 10, 9, 11, 8, 12, 0, 7, 1, 40, 30, 20, 5, 4, 3, 2, 1}
}

// plainMsgs is of each kind a message, of the part 0 or of the part 1, whose every part that it may have is none of nothing.
func plainMsgs(part0 int) map[int]impl.Msg {
	young, elders, thing0 := 20+part0, 10+part0, 4+part0
	return map[int]impl.Msg{
		1:  itemMsg(msgOf(1, 1, part0, 2, 3), item(young, 0, impl.Val{})),
		2:  itemMsg(msgOf(2, 1, part0, 2, 3), item(elders, 5, bond(2, 9, 1, 5, 3, 5))),
		3:  opMsg(msgOf(3, 1, part0, 2, 3), bind(2+part0, 5-part0, 7)),
		4:  codeMsg(itemMsg(msgOf(4, 1, part0, 2, 3), item(thing0, 7, thing(17))), 3),
		5:  itemMsg(msgOf(5, 1, part0, 0, 0), item(young, 9, bond(7, 1000, 0, 0))),
		6:  itemMsg(msgOf(6, 1, part0, 0, 0), item(elders, 9, impl.Val{})),
		7:  msgOf(7, 1, part0, 2, 0),
		8:  versMsg(msgOf(8, 1, part0, 2, 0), someVers()...),
		9:  opMsg(msgOf(9, 0, part0, 0, 3), bind(5-part0, 2+part0, 7)),
		10: msgOf(10, 0, part0, 0, 3),
	}
}

// rightItems are items that are right, of all keys of a part.
func rightItems(part0 int) []impl.Item {
	var items []impl.Item
	for key := part0; key < 24; key += 2 {
		vals := rightBonds()
		if key < 8 {
			vals = rightThings()
		}
		for which, v := range vals {
			items = append(items, item(key, []int{0, 1, 2, 10, 59, 60}[which%6], v))
		}
	}
	return items
}

// rightMsgs are messages that are ok: of all kinds, parts, tiers, keys, kinds of writes and codes.
func rightMsgs() []impl.Msg {
	var msgs []impl.Msg
	for part0 := range 2 {
		for kind := 1; kind <= 10; kind++ {
			for _, m := range headMsgs(kind, part0) {
				msgs = append(msgs, toldMsgs(m)...)
			}
		}
	}
	return msgs
}

// headMsgs are messages of a kind with all that they may have of a tier, a life and a number, but with nothing else.
func headMsgs(kind int, part0 int) []impl.Msg {
	has := msgKinds[kind]
	if has.leads {
		return []impl.Msg{msgOf(kind, 0, part0, 0, 1), msgOf(kind, 0, part0, 0, 60), msgOf(kind, 0, part0, 0, 1000)}
	}
	var msgs []impl.Msg
	for tier := range 2 {
		if has.noInc {
			msgs = append(msgs, msgOf(kind, tier, part0, 0, 0))
			continue
		}
		for _, inc := range []int{0, 7, 1000} {
			if has.noSeq {
				msgs = append(msgs, msgOf(kind, tier, part0, inc, 0))
				continue
			}
			msgs = append(msgs, msgOf(kind, tier, part0, inc, 1000-inc), msgOf(kind, tier, part0, inc, 17))
		}
	}
	return msgs
}

// toldMsgs are messages with these numbers, and with what their kind has.
func toldMsgs(m impl.Msg) []impl.Msg {
	has := msgKinds[m.Kind]
	var msgs []impl.Msg
	switch {
	case has.op:
		for _, op := range rightOps() {
			if toldOp := opMsg(m, op); msgOpTold(toldOp, has) {
				msgs = append(msgs, toldOp)
			}
		}
	case has.vers:
		msgs = append(msgs, versMsg(m, make([]int, 24)...), versMsg(m, slices.Repeat([]int{60}, 24)...), versMsg(m, someVers()...))
	case has.code:
		for which, it := range rightItems(m.Part) {
			msgs = append(msgs, codeMsg(itemMsg(m, it), which%6), codeMsg(itemMsg(m, it), (which+3)%6))
		}
	case has.key:
		for _, it := range rightItems(m.Part) {
			if !has.val {
				it.Val = impl.Val{}
			}
			if !has.ver {
				it.Ver = 0
			}
			msgs = append(msgs, itemMsg(m, it))
		}
	default:
		msgs = append(msgs, m)
	}
	return msgs
}
