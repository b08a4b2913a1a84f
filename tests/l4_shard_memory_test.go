package tests

import (
	"slices"
	"testing"

	"loop.example/kith/impl"
)

// behindEnd is a list with room behind its end, in which something stands already.
func behindEnd[E any](list []E, junk E) []E {
	all := slices.Clone(list)
	for range 5 {
		all = append(all, junk)
	}
	return all[:len(list)]
}

// roomyShard is a part with room behind the ends of all its lists, all of memory of its own.
func roomyShard(s impl.Shard) impl.Shard {
	r := s
	r.Rows, r.Log = nil, nil
	for _, row := range s.Rows {
		r.Rows = append(r.Rows, impl.Row{Ver: row.Ver, Val: roomyVal(row.Val)})
	}
	for _, c := range s.Log {
		r.Log = append(r.Log, impl.Commit{Key: c.Key, Ver: c.Ver, Val: roomyVal(c.Val)})
	}
	r.Rows = behindEnd(r.Rows, impl.Row{Ver: 77, Val: roomyVal(bond(5, 5))})
	r.Log = behindEnd(r.Log, impl.Commit{Key: 77, Ver: 77, Val: roomyVal(bond(5, 5))})
	r.Dones = behindEnd(s.Dones, impl.Done{Key: 77})
	r.Intents = behindEnd(s.Intents, impl.Intent{Stamp: 77})
	r.Seen = behindEnd(s.Seen, impl.Seen{Stamp: 77})
	return r
}

func roomyVal(v impl.Val) impl.Val {
	list, _ := roomy(v.Kin)
	return impl.Val{Num: v.Num, Kin: list}
}

// wholeShard is a copy of all memory of a part, that behind the ends of its lists too.
func wholeShard(s impl.Shard) impl.Shard {
	s.Rows, s.Log = wholeList(s.Rows), wholeList(s.Log)
	s.Dones, s.Intents, s.Seen = wholeList(s.Dones), wholeList(s.Intents), wholeList(s.Seen)
	for place := range s.Rows {
		s.Rows[place].Val.Kin = wholeList(s.Rows[place].Val.Kin)
	}
	for place := range s.Log {
		s.Log[place].Val.Kin = wholeList(s.Log[place].Val.Kin)
	}
	return s
}

func wholeList[E any](list []E) []E {
	return slices.Clone(list[:cap(list)])
}

// kinLists are all lists of kin of a part, those behind the ends too.
func kinLists(s impl.Shard) [][]impl.Edge {
	var lists [][]impl.Edge
	for _, row := range s.Rows[:cap(s.Rows)] {
		lists = append(lists, row.Val.Kin[:cap(row.Val.Kin)])
	}
	for _, c := range s.Log[:cap(s.Log)] {
		lists = append(lists, c.Val.Kin[:cap(c.Val.Kin)])
	}
	return lists
}

// scribbleShard writes into all memory of a part, each list with marks of its own, and says whether each has still its marks then.
func scribbleShard(s impl.Shard) bool {
	lists := kinLists(s)
	for which, list := range lists {
		for place := range list {
			list[place] = impl.Edge{Who: 1000 + which, At: place}
		}
	}
	for which, list := range lists {
		for place, e := range list {
			if e != (impl.Edge{Who: 1000 + which, At: place}) {
				return false
			}
		}
	}
	fillList(s.Rows, impl.Row{Ver: 55})
	fillList(s.Log, impl.Commit{Key: 55})
	fillList(s.Dones, impl.Done{Key: 55})
	fillList(s.Intents, impl.Intent{Stamp: 55})
	fillList(s.Seen, impl.Seen{Stamp: 55})
	return true
}

func fillList[E any](list []E, mark E) {
	all := list[:cap(list)]
	for place := range all {
		all[place] = mark
	}
}

// memorySteps are calls with each code of each kind.
func memorySteps(s impl.Shard) []shardStep {
	which := s.Part & 1
	var steps []shardStep
	for _, term := range []int{s.Fence, s.Fence + 1} {
		steps = append(steps, fences(term), fences(term-1), clears(term, 3), clears(term, 4), clears(term, 5), clears(term, 99))
		for _, op := range []impl.Op{set(2+which, 5), set(6+which, 5), turnedTo(which, bind(2, 3, 5)), turnedTo(which, part(2, 1)), turnedTo(which, bind(6, 4, 7)),
			turnedTo(which, bind(3, 2, 5)), turnedTo(which, part(1, 2)), {}} {
			steps = append(steps, backs(term, 1, op), backs(term, 9, op), backs(term, 0, op))
			for _, r := range []impl.Req{req(0, 99, 0), req(1, 99, 0), req(0, 1, 3), req(1, 4, 8), req(0, 0, 0), req(2, 0, 0)} {
				steps = append(steps, writes(term, r, op))
			}
		}
	}
	return steps
}

// keptShard is a part that shares none with the one that is given.
func keptShard(s impl.Shard) impl.Shard {
	s.Rows, s.Log = slices.Clone(s.Rows), slices.Clone(s.Log)
	s.Dones, s.Intents, s.Seen = slices.Clone(s.Dones), slices.Clone(s.Intents), slices.Clone(s.Seen)
	for key, row := range s.Rows {
		s.Rows[key].Val = copied(row.Val)
	}
	for place, c := range s.Log {
		s.Log[place].Val = copied(c.Val)
	}
	return s
}

// wantApart tells a call that writes into its argument, all memory of which is as before, or whose answer shares memory with it or with itself.
func wantApart(t *testing.T, what string, s impl.Shard, before impl.Shard, st shardStep) {
	t.Helper()
	got, answer := doStep(s, st)
	if !samePart(wholeShard(s), before) {
		t.Fatalf("%s, %v: the argument is written into", what, st)
	}
	kept := keptShard(got)
	if !scribbleShard(got) {
		t.Fatalf("%s, %v: two lists of the answer share memory", what, st)
	}
	if !samePart(wholeShard(s), before) {
		t.Fatalf("%s, %v: the answer shares memory with the argument", what, st)
	}
	// Nothing is kept between two calls either.
	if again, same := doStep(s, st); same != answer || !samePart(again, kept) {
		t.Fatalf("%s, %v: once more: got %v, %s, want %v, %s", what, st, same, partText(again), answer, partText(kept))
	}
}

func TestShardMemory(t *testing.T) {
	for what, plain := range allRightParts() {
		s := roomyShard(plain)
		before := wholeShard(s)
		for _, st := range memorySteps(plain) {
			wantApart(t, what, s, before, st)
		}
	}
	for what, plain := range wrongParts() {
		s := roomyShard(plain)
		before := wholeShard(s)
		for _, st := range []shardStep{fences(9), clears(s.Fence, 3), writes(s.Fence, req(0, 9, 9), set(2+s.Part, 5)), backs(s.Fence, 9, turnedTo(s.Part&1, bind(3, 2, 5)))} {
			wantApart(t, what, s, before, st)
		}
	}
}

// TestShardMemoryOfOne has arguments whose rows and commits share their kin: the answers share none.
func TestShardMemoryOfOne(t *testing.T) {
	for what, plain := range allRightParts() {
		s := roomyShard(plain)
		for _, c := range s.Log {
			if s.Rows[c.Key].Ver == c.Ver {
				s.Rows[c.Key].Val = c.Val
			}
		}
		before := wholeShard(s)
		for _, st := range memorySteps(plain) {
			wantApart(t, what, s, before, st)
		}
	}
}

// TestShardAsksOnly has the calls that answer no part.
func TestShardAsksOnly(t *testing.T) {
	parts := allRightParts()
	for what, s := range wrongParts() {
		parts[what] = s
	}
	for what, plain := range parts {
		s, other := roomyShard(plain), roomyShard(plain)
		before, otherBefore := wholeShard(s), wholeShard(other)
		impl.ShardOk(s)
		impl.ShardSame(s, other)
		impl.ShardSame(other, impl.ShardOpen(0))
		if !samePart(wholeShard(s), before) || !samePart(wholeShard(other), otherBefore) {
			t.Errorf("%s: the argument is written into", what)
		}
	}
}

// TestShardOpenMemory has two answers: what is done to one is not done to the other.
func TestShardOpenMemory(t *testing.T) {
	for which := range 2 {
		first, second := impl.ShardOpen(which), impl.ShardOpen(which)
		scribbleShard(first)
		for _, s := range []impl.Shard{second, impl.ShardOpen(which)} {
			if !samePart(s, partModel{part: which}.shard()) {
				t.Errorf("got %s", partText(s))
			}
		}
	}
}
