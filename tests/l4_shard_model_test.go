package tests

import (
	"fmt"
	"slices"
	"strings"
	"testing"

	"loop.example/kith/impl"
)

// partModel is a part as plain as it can be told: of each key all that it had, of each tier its last request, of each bond the last stamp.
type partModel struct {
	part    int
	fence   int
	stamp   int
	had     [24][]impl.Val
	log     []impl.Commit
	last    [2][]impl.Done // none or one
	intents []impl.Intent
	seen    [8][8]int // of A, then of B; 0 where none came
}

// shardStep is one call of a part.
type shardStep struct {
	what  string // fence, write, back or clear
	term  int
	req   impl.Req
	op    impl.Op
	stamp int
}

// shardAnswer is what such a call answers beside the part.
type shardAnswer struct {
	done impl.Done
	key  int
	did  bool
	code int
}

func fences(term int) shardStep {
	return shardStep{what: "fence", term: term}
}

func writes(term int, req impl.Req, op impl.Op) shardStep {
	return shardStep{what: "write", term: term, req: req, op: op}
}

func backs(term int, stamp int, op impl.Op) shardStep {
	return shardStep{what: "back", term: term, op: op, stamp: stamp}
}

func clears(term int, stamp int) shardStep {
	return shardStep{what: "clear", term: term, stamp: stamp}
}

func req(who int, inc int, seq int) impl.Req {
	return impl.Req{Who: who, Inc: inc, Seq: seq}
}

// doStep asks the program.
func doStep(s impl.Shard, st shardStep) (impl.Shard, shardAnswer) {
	var got impl.Shard
	var a shardAnswer
	switch st.what {
	case "fence":
		got = impl.ShardFence(s, st.term)
	case "write":
		got, a.done, a.code = impl.ShardWrite(s, st.term, st.req, st.op)
	case "back":
		got, a.key, a.did, a.code = impl.ShardBack(s, st.term, impl.Intent{Stamp: st.stamp, Op: st.op})
	case "clear":
		got, a.code = impl.ShardClear(s, st.term, st.stamp)
	}
	return got, a
}

// notOkAnswer is what a step answers of a part that is not ok.
func notOkAnswer(st shardStep) shardAnswer {
	switch st.what {
	case "fence":
		return shardAnswer{}
	case "back":
		return shardAnswer{key: -1, code: 2}
	}
	return shardAnswer{code: 2}
}

// do is the model behind a step, and the answer.
func (m partModel) do(st shardStep) (partModel, shardAnswer) {
	switch st.what {
	case "fence":
		m.fence = max(m.fence, st.term)
		return m, shardAnswer{}
	case "write":
		return m.write(st.term, st.req, st.op)
	case "back":
		return m.back(st.term, st.stamp, st.op)
	}
	if st.term != m.fence {
		return m, shardAnswer{code: 1}
	}
	var left []impl.Intent
	for _, in := range m.intents {
		if in.Stamp != st.stamp {
			left = append(left, in)
		}
	}
	m.intents = left
	return m, shardAnswer{}
}

func (m partModel) write(term int, req impl.Req, op impl.Op) (partModel, shardAnswer) {
	if term != m.fence {
		return m, shardAnswer{code: 1}
	}
	if !opTold(op) || op.A%2 != m.part || req.Who < 0 || req.Who > 1 || req.Inc < 0 || req.Seq < 0 {
		return m, shardAnswer{code: 2}
	}
	for _, last := range m.last[req.Who] {
		if last.Req == req {
			return m, shardAnswer{done: last, code: 5}
		}
		if last.Req.Inc > req.Inc || last.Req.Inc == req.Inc && last.Req.Seq > req.Seq {
			return m, shardAnswer{code: 4}
		}
	}
	key := keyTable[2][op.A]
	if op.Kind == 1 {
		key = keyTable[0][op.A]
	}
	if len(m.log) == 60 || op.Kind != 1 && (len(m.intents) == 3 || m.stamp == 60) {
		done := impl.Done{Req: req, Key: key, Ver: len(m.had[key]), Code: 3}
		m.last[req.Who] = []impl.Done{done}
		return m, shardAnswer{done: done, code: 3}
	}
	if op.Kind == 1 {
		m = m.commit(key, thing(op.N))
	} else {
		m = m.commit(key, kinChanged(m.has(key), op.B, op))
		m.stamp++
		m.intents = slices.Concat(m.intents, []impl.Intent{{Stamp: m.stamp, Op: op}})
	}
	done := impl.Done{Req: req, Key: key, Ver: len(m.had[key])}
	m.last[req.Who] = []impl.Done{done}
	return m, shardAnswer{done: done}
}

func (m partModel) back(term int, stamp int, op impl.Op) (partModel, shardAnswer) {
	if term != m.fence {
		return m, shardAnswer{key: -1, code: 1}
	}
	if !opTold(op) || op.Kind == 1 || op.B%2 != m.part || stamp < 1 {
		return m, shardAnswer{key: -1, code: 2}
	}
	key := keyTable[1][op.B]
	if m.seen[op.A][op.B] >= stamp {
		return m, shardAnswer{key: key}
	}
	if len(m.log) == 60 {
		return m, shardAnswer{key: key, code: 3}
	}
	m = m.commit(key, kinChanged(m.has(key), op.A, op))
	m.seen[op.A][op.B] = stamp
	return m, shardAnswer{key: key, did: true}
}

// kinChanged is a value with somebody since the time of an OpBind, or without him.
func kinChanged(v impl.Val, who int, op impl.Op) impl.Val {
	kin := kinModel{-1, -1, -1, -1, -1, -1, -1, -1}
	for _, e := range v.Kin {
		kin[e.Who] = e.At
	}
	kin[who] = op.N
	if op.Kind == 3 {
		kin[who] = -1
	}
	return impl.Val{Kin: kin.list()}
}

// has is what a key has.
func (m partModel) has(key int) impl.Val {
	if len(m.had[key]) == 0 {
		return impl.Val{}
	}
	return m.had[key][len(m.had[key])-1]
}

func (m partModel) commit(key int, v impl.Val) partModel {
	m.had[key] = slices.Concat(m.had[key], []impl.Val{v})
	m.log = slices.Concat(m.log, []impl.Commit{{Key: key, Ver: len(m.had[key]), Val: v}})
	return m
}

// after is the model behind some steps.
func (m partModel) after(steps ...shardStep) partModel {
	for _, st := range steps {
		m, _ = m.do(st)
	}
	return m
}

// shard is the part of the model, which shares none with it.
func (m partModel) shard() impl.Shard {
	s := impl.Shard{Part: m.part, Fence: m.fence, Stamp: m.stamp, Intents: slices.Clone(m.intents)}
	for key := range m.had {
		s.Rows = append(s.Rows, impl.Row{Ver: len(m.had[key]), Val: copied(m.has(key))})
	}
	for _, last := range m.last {
		s.Dones = append(s.Dones, last...)
	}
	for a, row := range m.seen {
		for b, stamp := range row {
			if stamp != 0 {
				s.Seen = append(s.Seen, impl.Seen{A: a, B: b, Stamp: stamp})
			}
		}
	}
	for _, c := range m.log {
		s.Log = append(s.Log, impl.Commit{Key: c.Key, Ver: c.Ver, Val: copied(c.Val)})
	}
	return s
}

func copied(v impl.Val) impl.Val {
	return impl.Val{Num: v.Num, Kin: slices.Clone(v.Kin)}
}

// modelOf is the model of a part that is ok.
func modelOf(s impl.Shard) partModel {
	m := partModel{part: s.Part, fence: s.Fence, stamp: s.Stamp, intents: slices.Clone(s.Intents)}
	for _, c := range s.Log {
		m = m.commit(c.Key, copied(c.Val))
	}
	for _, d := range s.Dones {
		m.last[d.Req.Who] = []impl.Done{d}
	}
	for _, came := range s.Seen {
		m.seen[came.A][came.B] = came.Stamp
	}
	return m
}

// samePart says whether two parts are one, asked of nothing that is tested.
func samePart(a impl.Shard, b impl.Shard) bool {
	return a.Part == b.Part && a.Fence == b.Fence && a.Stamp == b.Stamp &&
		slices.EqualFunc(a.Rows, b.Rows, func(a impl.Row, b impl.Row) bool { return a.Ver == b.Ver && sameVal(a.Val, b.Val) }) &&
		slices.EqualFunc(a.Log, b.Log, func(a impl.Commit, b impl.Commit) bool {
			return a.Key == b.Key && a.Ver == b.Ver && sameVal(a.Val, b.Val)
		}) &&
		slices.Equal(a.Dones, b.Dones) && slices.Equal(a.Intents, b.Intents) && slices.Equal(a.Seen, b.Seen)
}

// wantStep asks the program for a step, and tells what is not as the model has it.
func wantStep(t *testing.T, what string, s impl.Shard, m partModel, st shardStep) (impl.Shard, partModel) {
	t.Helper()
	got, answer := doStep(s, st)
	next, want := m.do(st)
	if answer != want {
		t.Fatalf("%s, %v: got %v, want %v", what, st, answer, want)
	}
	if !samePart(got, next.shard()) {
		t.Fatalf("%s, %v: got %s, want %s", what, st, partText(got), partText(next.shard()))
	}
	if !impl.ShardOk(got) {
		t.Fatalf("%s, %v: %s is not ok", what, st, partText(got))
	}
	return got, next
}

// partText tells a part in one line; what was written is told of the rows, and of the log the keys.
func partText(s impl.Shard) string {
	words := []string{fmt.Sprintf("%d/%d/%d", s.Part, s.Fence, s.Stamp)}
	for key, row := range s.Rows {
		if row.Ver != 0 || !isNothing(row.Val) {
			words = append(words, fmt.Sprintf("%d:%d:%s", key, row.Ver, impl.ValText(key, row.Val)))
		}
	}
	words = append(words, "log")
	for _, c := range s.Log {
		words = append(words, fmt.Sprint(c.Key))
	}
	words = append(words, "done")
	for _, d := range s.Dones {
		words = append(words, fmt.Sprintf("%d.%d.%d:%d:%d:%d", d.Req.Who, d.Req.Inc, d.Req.Seq, d.Key, d.Ver, d.Code))
	}
	words = append(words, "out")
	for _, in := range s.Intents {
		words = append(words, fmt.Sprintf("%d:%d.%d.%d.%d", in.Stamp, in.Op.Kind, in.Op.A, in.Op.B, in.Op.N))
	}
	words = append(words, "in")
	for _, came := range s.Seen {
		words = append(words, fmt.Sprintf("%d.%d:%d", came.A, came.B, came.Stamp))
	}
	return strings.Join(words, " ")
}

// turnedTo is a write of a part 0, or the like of it in the part 1: of 1 in the place of 0, of 0 in that of 1, and so on.
func turnedTo(part int, op impl.Op) impl.Op {
	op.A ^= part
	if op.Kind != 1 {
		op.B ^= part
	}
	return op
}

// busyPart is a part that several requests of both tiers, other ends and clearings have made.
func busyPart(part0 int) partModel {
	m := partModel{part: part0}
	for _, st := range []shardStep{
		fences(2),
		writes(2, req(0, 0, 1), set(2, 17)),
		writes(2, req(0, 0, 2), bind(2, 3, 5)),
		writes(2, req(1, 4, 1), bind(4, 6, 9)),
		backs(2, 2, bind(4, 6, 9)),
		backs(2, 1, bind(3, 2, 7)),
		backs(2, 5, bind(1, 2, 8)),
		clears(2, 2),
		writes(2, req(0, 1, 0), bind(2, 1, 9)),
		backs(2, 6, part(3, 2)),
		writes(2, req(1, 4, 7), part(2, 3)),
		clears(2, 1),
		writes(2, req(0, 1, 3), set(2, 3)),
		writes(2, req(1, 4, 8), set(0, 1000000)),
		backs(2, 4, bind(1, 0, 1000)),
	} {
		st.op = turnedTo(part0, st.op)
		m = m.after(st)
	}
	return m
}

// rightParts are parts that are ok.
func rightParts() map[string]partModel {
	parts := map[string]partModel{}
	for which := range 2 {
		open, busy := partModel{part: which}, busyPart(which)
		crowded := busy.after(writes(2, req(0, 1, 4), turnedTo(which, bind(6, 0, 1))))
		long := busy
		for len(long.log) < 59 {
			long = long.after(writes(2, req(1, 5, len(long.log)), set(4+which, len(long.log))))
		}
		full := long.after(writes(2, req(0, 9, 0), set(which, 59)))
		stamped := busy
		stamped.stamp = 60
		almost := busy
		almost.stamp = 59
		for what, m := range map[string]partModel{
			"open":        open,
			"led":         open.after(fences(3)),
			"busy":        busy,
			"crowded":     crowded,
			"refused":     crowded.after(writes(2, req(1, 4, 9), turnedTo(which, bind(6, 2, 1)))),
			"59 commits":  long,
			"60 commits":  full,
			"refused all": full.after(writes(2, req(1, 6, 0), set(which, 60))),
			"59 bonds":    almost,
			"60 bonds":    stamped,
		} {
			parts[fmt.Sprintf("%s, part %d", what, which)] = m
		}
	}
	return parts
}
