package tests

import (
	"fmt"
	"testing"

	"loop.example/kith/impl"
)

// chooser chooses numbers, the same ones each time.
type chooser uint32

func (c *chooser) pick(n int) int {
	*c = *c*1664525 + 1013904223
	return int(*c>>16) % n
}

// op is some write; of eight, one is not ok or of the other part.
func (c *chooser) op(part0 int) impl.Op {
	a, b, n := 2*c.pick(4)+part0, c.pick(8), []int{0, 1, 5, 999, 1000}[c.pick(5)]
	if c.pick(8) == 0 {
		a = c.pick(10) - 1
	}
	return []impl.Op{set(a, n), bind(a, b, n), bind(a, b, n), part(a, b)}[c.pick(4)]
}

// step is some call of a part that is led in a term: mostly a request, or an other end.
func (c *chooser) step(m partModel) shardStep {
	term := m.fence
	if c.pick(12) == 0 {
		term += c.pick(3) - 1
	}
	switch c.pick(10) {
	case 0:
		return fences(term + c.pick(2))
	case 1, 2:
		return clears(term, c.pick(m.stamp+2))
	case 3, 4, 5:
		op := c.op(m.part)
		op.A, op.B = op.B, op.A
		return backs(term, c.pick(40)*(m.stamp+1)/2, op)
	}
	who := c.pick(2)
	r := req(who, c.pick(3), c.pick(6)-1)
	for _, last := range m.last[who] {
		r = req(who, last.Req.Inc+max(c.pick(8)-6, 0), last.Req.Seq+c.pick(4)-1)
	}
	return writes(term, r, c.op(m.part))
}

// TestShardAlways is promise 4: whatever is asked, the part is that of the model, and a request is done once at most.
func TestShardAlways(t *testing.T) {
	c := chooser(4)
	codes := map[string]int{}
	for run := range 40 {
		s, m := impl.ShardOpen(run%2), partModel{part: run % 2}
		done := map[impl.Req]int{}
		for range 400 {
			st := c.step(m)
			_, answer := m.do(st)
			commits := len(s.Log)
			s, m = wantStep(t, "some", s, m, st)
			codes[fmt.Sprintf("%s %d %v", st.what, answer.code, answer.did)]++
			if st.what == "write" && len(s.Log) > commits {
				done[st.req]++
			}
			if done[st.req] > 1 {
				t.Fatalf("%v is done twice", st.req)
			}
			if st.term != m.fence && st.what != "fence" && len(s.Log) > commits {
				t.Fatalf("%v wrote, in %d", st, m.fence)
			}
		}
	}
	for _, what := range []string{"write 0 false", "write 1 false", "write 2 false", "write 3 false", "write 4 false", "write 5 false",
		"back 0 true", "back 0 false", "back 1 false", "back 2 false", "back 3 false", "clear 0 false", "clear 1 false", "fence 0 false"} {
		if codes[what] < 20 {
			t.Errorf("%s came but %d times: %v", what, codes[what], codes)
		}
	}
}

// TestShardLogTells is promise 4: each key has what was written of it last, as the manieth, in whatever order keys are written.
func TestShardLogTells(t *testing.T) {
	c := chooser(7)
	for run := range 30 {
		s := impl.ShardOpen(run % 2)
		var had [24][]impl.Val
		for seq := range 50 {
			op := set(2*c.pick(4)+run%2, seq)
			s, _, _ = impl.ShardWrite(s, 0, req(c.pick(2), 0, seq), op)
			had[op.A] = append(had[op.A], thing(seq))
		}
		counted := [24]int{}
		for _, commit := range s.Log {
			counted[commit.Key]++
			if commit.Ver != counted[commit.Key] || !sameVal(commit.Val, had[commit.Key][commit.Ver-1]) {
				t.Fatalf("got %v, the %d. of which is %v", commit, counted[commit.Key], had[commit.Key])
			}
		}
		for key, row := range s.Rows {
			last := impl.Val{}
			if len(had[key]) > 0 {
				last = had[key][len(had[key])-1]
			}
			if row.Ver != len(had[key]) || !sameVal(row.Val, last) || counted[key] != row.Ver {
				t.Fatalf("key %d: got %v, want %v as the %d.", key, row, last, len(had[key]))
			}
		}
	}
}

// bothParts are the two parts, and the other ends that are on their way between them.
type bothParts struct {
	parts [2]impl.Shard
	seq   int
	way   []impl.Intent
}

// write writes a bond in the part of A, and sends the other end.
func (w *bothParts) write(t *testing.T, op impl.Op) bool {
	w.seq++
	s, _, code := impl.ShardWrite(w.parts[op.A%2], 0, req(w.seq%2, 0, w.seq), op)
	w.parts[op.A%2] = s
	if code == impl.ShardFine {
		w.way = append(w.way, s.Intents[len(s.Intents)-1])
	} else if code != impl.ShardFull {
		t.Fatalf("%v: code %d", op, code)
	}
	return code == impl.ShardFine
}

// deliver brings an other end, and lets the part of A know, if known is asked for.
func (w *bothParts) deliver(t *testing.T, in impl.Intent, known bool) {
	s, _, _, code := impl.ShardBack(w.parts[in.Op.B%2], 0, in)
	w.parts[in.Op.B%2] = s
	if code == impl.ShardFull {
		return
	}
	if code != impl.ShardFine {
		t.Fatalf("%v: code %d", in, code)
	}
	if known {
		w.parts[in.Op.A%2], _ = impl.ShardClear(w.parts[in.Op.A%2], 0, in.Stamp)
	}
}

// TestShardBothEnds has bonds whose other ends are lost, come twice and late: sent till they are known to have come, each bond is known from both ends.
func TestShardBothEnds(t *testing.T) {
	c := chooser(11)
	ends := 0
	for range 60 {
		w := &bothParts{parts: [2]impl.Shard{impl.ShardOpen(0), impl.ShardOpen(1)}}
		for range 60 {
			a := c.pick(4)
			b := (a + 1 + c.pick(3)) % 4
			if !w.write(t, []impl.Op{bind(a, b, c.pick(9)), bind(a, b, c.pick(9)), part(a, b)}[c.pick(3)]) {
				for _, in := range w.parts[a%2].Intents {
					w.deliver(t, in, c.pick(4) > 0)
				}
			}
			// An old one, or one that was known to have come long ago, may come at any time.
			if len(w.way) > 0 && c.pick(2) == 0 {
				w.deliver(t, w.way[c.pick(len(w.way))], false)
			}
			if len(w.parts[0].Log) > 48 || len(w.parts[1].Log) > 48 {
				break
			}
		}
		for which := range 2 {
			for _, in := range w.parts[which].Intents {
				w.deliver(t, in, true)
			}
		}
		for a := range 8 {
			for b := range 8 {
				young, is := impl.EdgeHas(w.parts[a%2].Rows[keyTable[2][a]].Val.Kin, b)
				elder, has := impl.EdgeHas(w.parts[b%2].Rows[keyTable[1][b]].Val.Kin, a)
				if young != elder || is != has {
					t.Fatalf("%d and %d: young since %d, %v, elder since %d, %v", a, b, young, is, elder, has)
				}
				if is {
					ends++
				}
			}
		}
		if len(w.parts[0].Intents)+len(w.parts[1].Intents) != 0 {
			t.Fatal(partText(w.parts[0]), partText(w.parts[1]))
		}
	}
	if ends < 60 {
		t.Errorf("%d bonds", ends)
	}
}

// manySteps are calls with each of many requests, writes, stamps and terms.
func manySteps(s impl.Shard) []shardStep {
	ops := []impl.Op{set(2+s.Part, 5), set(2+s.Part, 0), set(3-s.Part, 5), turnedTo(s.Part, bind(2, 3, 5)), turnedTo(s.Part, bind(2, 6, 1000)), turnedTo(s.Part, part(2, 1)),
		turnedTo(s.Part, bind(3, 2, 5)), turnedTo(s.Part, part(1, 2)), turnedTo(s.Part, bind(6, 4, 7)), bind(2, 2, 5), {}}
	var steps []shardStep
	for _, term := range []int{s.Fence, s.Fence - 1, s.Fence + 1} {
		steps = append(steps, fences(term))
		for stamp := -1; stamp < 8; stamp++ {
			steps = append(steps, clears(term, stamp))
			for _, op := range ops {
				steps = append(steps, backs(term, stamp, op))
			}
		}
	}
	for who := range 2 {
		for _, inc := range []int{0, 1, 4, 9} {
			for _, seq := range []int{-1, 0, 3, 8, 9} {
				for _, op := range ops {
					steps = append(steps, writes(s.Fence, req(who, inc, seq), op))
				}
				steps = append(steps, writes(s.Fence+1, req(who, inc, seq), ops[0]))
			}
		}
	}
	return steps
}

// TestShardEach has each of many calls of each part that is ok.
func TestShardEach(t *testing.T) {
	for what, s := range allRightParts() {
		m := modelOf(s)
		for _, st := range manySteps(s) {
			wantStep(t, what, s, m, st)
		}
	}
}
