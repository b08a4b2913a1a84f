package tests

import (
	"fmt"
	"slices"
	"testing"

	"loop.example/kith/impl"
)

// leadCall is a call that answers messages, with nothing in the place of what it doesn't answer.
type leadCall struct {
	what string
	do   func(l impl.Lead, s impl.Shard) (impl.Lead, impl.Shard, []impl.Msg)
}

func takes(m impl.Msg) leadCall {
	return leadCall{"take", func(l impl.Lead, s impl.Shard) (impl.Lead, impl.Shard, []impl.Msg) { return impl.LeadTake(l, s, m) }}
}

// otherLeadCalls are those that are given no message.
func otherLeadCalls() []leadCall {
	return []leadCall{
		{"rise", func(_ impl.Lead, s impl.Shard) (impl.Lead, impl.Shard, []impl.Msg) { return impl.LeadRise(s) }},
		{"tell", func(l impl.Lead, s impl.Shard) (impl.Lead, impl.Shard, []impl.Msg) {
			return impl.Lead{}, impl.Shard{}, impl.LeadTell(l, s)
		}},
		{"again", func(l impl.Lead, s impl.Shard) (impl.Lead, impl.Shard, []impl.Msg) {
			return impl.Lead{}, impl.Shard{}, impl.LeadAgain(l, s)
		}},
	}
}

// answerLists are all lists of kin, and all lists of numbers, of an answer, those behind the ends of its lists too.
func answerLists(l impl.Lead, s impl.Shard, sent []impl.Msg) ([][]impl.Edge, [][]int) {
	kin, nums := kinLists(s), [][]int{l.Cache.Floors[:cap(l.Cache.Floors)]}
	for _, it := range l.Cache.Items[:cap(l.Cache.Items)] {
		kin = append(kin, it.Val.Kin[:cap(it.Val.Kin)])
	}
	for _, m := range sent[:cap(sent)] {
		kin, nums = append(kin, m.Item.Val.Kin[:cap(m.Item.Val.Kin)]), append(nums, m.Vers[:cap(m.Vers)])
	}
	return kin, nums
}

// scribbleAnswer writes into all memory of an answer, each list with marks of its own, and says whether each has still its marks then.
func scribbleAnswer(l impl.Lead, s impl.Shard, sent []impl.Msg) bool {
	kin, nums := answerLists(l, s, sent)
	for which, list := range kin {
		fillList(list, impl.Edge{Who: 1000 + which, At: 5555})
	}
	for which, list := range nums {
		fillList(list, 1000+which)
	}
	apart := true
	for which, list := range kin {
		for _, e := range list {
			apart = apart && e.Who == 1000+which
		}
	}
	for which, list := range nums {
		for _, num := range list {
			apart = apart && num == 1000+which
		}
	}
	scribbleShard(s)
	scribbleCache(l.Cache)
	fillList(sent, impl.Msg{Kind: 55})
	return apart
}

// keptMsgs are messages that share none with those that are given.
func keptMsgs(msgs []impl.Msg) []impl.Msg {
	var kept []impl.Msg
	for _, m := range msgs {
		kept = append(kept, keptMsg(m))
	}
	return kept
}

// wantLeadsApart has each call of somebody who leads a part: those without a message, and one with each of these.
func wantLeadsApart(t *testing.T, what string, l impl.Lead, s impl.Shard, msgs []impl.Msg) {
	t.Helper()
	l, s = roomyLead(l), roomyShard(s)
	for _, call := range otherLeadCalls() {
		wantLeadApart(t, what+", "+call.what, l, s, impl.Msg{}, call)
	}
	for _, plain := range msgs {
		m := roomyMsg(plain)
		wantLeadApart(t, what+", "+msgTextTold(m), l, s, m, takes(m))
	}
}

// wantLeadApart tells a call that writes into an argument, or whose answer shares memory with one or with itself, or is another one once more.
func wantLeadApart(t *testing.T, what string, l impl.Lead, s impl.Shard, m impl.Msg, call leadCall) {
	t.Helper()
	wholeL, wholeS, wholeM := wholeCache(l.Cache), wholeShard(s), wholeMsg(m)
	asBefore := func() bool {
		return sameCache(wholeCache(l.Cache), wholeL) && samePart(wholeShard(s), wholeS) && sameMsg(wholeMsg(m), wholeM)
	}
	gotL, gotS, sent := call.do(l, s)
	if !asBefore() {
		t.Fatalf("%s: an argument is written into", what)
	}
	keptL, keptS, keptSent := impl.Lead{Term: gotL.Term, Up: gotL.Up, Cache: keptCache(gotL.Cache)}, keptShard(gotS), keptMsgs(sent)
	if !scribbleAnswer(gotL, gotS, sent) {
		t.Fatalf("%s: two lists of the answer share memory", what)
	}
	if !asBefore() {
		t.Fatalf("%s: the answer shares memory with an argument", what)
	}
	// Nothing is kept between two calls either.
	if againL, againS, again := call.do(l, s); !sameLead(againL, keptL) || !samePart(againS, keptS) || !sameMsgs(again, keptSent) {
		t.Fatalf("%s: once more: got %s, %s, %s", what, leadText(againL), partText(againS), msgLines(again))
	}
}

// roomyLead is somebody who leads, with room behind the ends of all lists of his cache.
func roomyLead(l impl.Lead) impl.Lead {
	l.Cache = roomyCache(l.Cache)
	return l
}

// memoryLeadMsgs are messages of all kinds, those that write and those that don't.
func memoryLeadMsgs(p partModel) []impl.Msg {
	var msgs []impl.Msg
	for kind := 1; kind <= 10; kind++ {
		msgs = append(msgs, plainMsgs(p.part)[kind])
	}
	msgs = append(msgs, impl.Msg{}, plainMsgs(1 - p.part)[3], msgOf(10, 0, p.part, 0, 4))
	for _, key := range []int{2, 10, 18, 20} {
		msgs = append(msgs, itemMsg(msgOf(1, 1, p.part, 1, 1), item(key+p.part, 0, impl.Val{})))
	}
	for _, r := range []impl.Req{req(0, 99, 0), req(0, 1, 3), req(1, 0, 0)} {
		for _, op := range []impl.Op{set(2, 5), bind(2, 3, 8), part(4, 6)} {
			msgs = append(msgs, opMsg(msgOf(3, r.Who, p.part, r.Inc, r.Seq), turnedTo(p.part, op)))
		}
	}
	for _, seq := range []int{1, 1000} {
		msgs = append(msgs, opMsg(msgOf(9, 0, p.part, 0, seq), turnedTo(p.part, bind(3, 2, 9))), opMsg(msgOf(9, 0, p.part, 0, seq), turnedTo(p.part, part(1, 2))))
	}
	return msgs
}

func TestLeadMemory(t *testing.T) {
	for what, p := range rightParts() {
		for who, plain := range rightLeads(p) {
			wantLeadsApart(t, what+", "+who, plain.lead(), p.shard(), memoryLeadMsgs(p))
		}
	}
}

// TestLeadMemoryOfWrong has who isn't ok, and parts that are not: nothing is answered, spare room too.
func TestLeadMemoryOfWrong(t *testing.T) {
	for part0 := range 2 {
		for _, change := range slices.Concat(leadCacheChanges(part0), leadPartChanges()) {
			l, s := plainLead(part0)
			change.do(&l, &s)
			wantLeadsApart(t, fmt.Sprintf("part %d, %s", part0, change.what), l, s, memoryLeadMsgs(partModel{part: part0}))
		}
	}
}

// TestLeadMemoryOfOne has a cache, rows and commits that share their kin: the answers share none.
func TestLeadMemoryOfOne(t *testing.T) {
	for part0 := range 2 {
		p := busyPart(part0)
		l, s := roomyLead(leadModel{term: 2, up: true, cache: leadCaches(p)["the newest"]}.lead()), roomyShard(p.shard())
		for _, c := range s.Log {
			if s.Rows[c.Key].Ver == c.Ver {
				s.Rows[c.Key].Val = c.Val
			}
		}
		for place, it := range l.Cache.Items {
			l.Cache.Items[place].Val = s.Rows[it.Key].Val
		}
		for _, call := range otherLeadCalls() {
			wantLeadApart(t, fmt.Sprintf("part %d, %s", part0, call.what), l, s, impl.Msg{}, call)
		}
		for _, m := range memoryLeadMsgs(p) {
			wantLeadApart(t, fmt.Sprintf("part %d, %s", part0, msgTextTold(m)), l, s, m, takes(m))
		}
	}
}

// TestLeadAsksOnly has the call that answers no more than whether it is so.
func TestLeadAsksOnly(t *testing.T) {
	for part0 := range 2 {
		for _, change := range slices.Concat(leadCacheChanges(part0), leadPartChanges()) {
			l, s := plainLead(part0)
			change.do(&l, &s)
			l, s = roomyLead(l), roomyShard(s)
			wholeL, wholeS := wholeCache(l.Cache), wholeShard(s)
			ok := impl.LeadOk(l, s)
			if !sameCache(wholeCache(l.Cache), wholeL) || !samePart(wholeShard(s), wholeS) {
				t.Errorf("part %d, %s: an argument is written into", part0, change.what)
			}
			if impl.LeadOk(l, s) != ok {
				t.Errorf("part %d, %s: another answer once more", part0, change.what)
			}
		}
	}
}
