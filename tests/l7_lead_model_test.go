package tests

import (
	"fmt"
	"slices"
	"strings"
	"testing"

	"loop.example/kith/impl"
)

// leadModel is who leads, as plain as it can be told; his part is told beside him.
type leadModel struct {
	term  int
	up    bool
	cache cacheModel
}

// item is what a key of the part has.
func (p partModel) item(key int) impl.Item {
	return item(key, len(p.had[key]), p.has(key))
}

// itemAt is what a key of the part had, as the manieth.
func (p partModel) itemAt(key int, ver int) impl.Item {
	if ver == 0 {
		return item(key, 0, impl.Val{})
	}
	return item(key, ver, p.had[key][ver-1])
}

// rise is somebody new who leads a part.
func (p partModel) rise() (leadModel, partModel, []impl.Msg) {
	p.fence++
	return leadModel{term: p.fence, up: true}, p, p.ends()
}

// ends are the other ends that are on their way.
func (p partModel) ends() []impl.Msg {
	var sent []impl.Msg
	for _, in := range p.intents {
		sent = append(sent, opMsg(msgOf(9, 0, in.Op.B%2, 0, in.Stamp), in.Op))
	}
	return sent
}

// take is what is behind a message, in the document's words.
func (l leadModel) take(p partModel, m impl.Msg) (leadModel, partModel, []impl.Msg) {
	if !l.up || !msgTold(m) || !msgKinds[m.Kind].up || m.Part != p.part {
		return l, p, nil
	}
	switch m.Kind {
	case 1:
		return l.fill(p, m)
	case 3:
		return l.write(p, m)
	case 7:
		var vers []int
		for key := range 24 {
			vers = append(vers, len(p.had[key]))
		}
		return l, p, []impl.Msg{versMsg(msgOf(8, m.Tier, m.Part, m.Inc, 0), vers...)}
	case 9:
		return l.back(p, m)
	}
	next, a := p.do(clears(l.term, m.Seq))
	if a.code == 1 {
		l.up = false
	}
	return l, next, nil
}

func (l leadModel) fill(p partModel, m impl.Msg) (leadModel, partModel, []impl.Msg) {
	it := p.item(m.Item.Key)
	if _, had := l.cache.do(gets(m.Item.Key)); had.is {
		it = had.item
	}
	l.cache = l.cache.after(puts(it))
	return l, p, []impl.Msg{itemMsg(msgOf(2, m.Tier, m.Part, m.Inc, m.Seq), it)}
}

func (l leadModel) write(p partModel, m impl.Msg) (leadModel, partModel, []impl.Msg) {
	next, a := p.do(writes(l.term, req(m.Tier, m.Inc, m.Seq), m.Op))
	if a.code == 1 {
		l.up = false
		return l, next, nil
	}
	key := keyTable[2][m.Op.A]
	if m.Op.Kind == 1 {
		key = keyTable[0][m.Op.A]
	}
	it, code := next.item(key), a.code
	if code == 5 {
		code = a.done.Code
	}
	l.cache = l.cache.after(puts(it))
	sent := []impl.Msg{codeMsg(itemMsg(msgOf(4, m.Tier, m.Part, m.Inc, m.Seq), it), code)}
	if a.code == 0 {
		sent = append(sent, itemMsg(msgOf(5, 1-m.Tier, m.Part, 0, 0), it))
		if m.Op.Kind != 1 {
			sent = append(sent, opMsg(msgOf(9, 0, m.Op.B%2, 0, next.stamp), m.Op))
		}
	}
	return l, next, sent
}

func (l leadModel) back(p partModel, m impl.Msg) (leadModel, partModel, []impl.Msg) {
	next, a := p.do(backs(l.term, m.Seq, m.Op))
	if a.code == 1 {
		l.up = false
	}
	if a.code != 0 {
		return l, next, nil
	}
	sent := []impl.Msg{msgOf(10, 0, m.Op.A%2, 0, m.Seq)}
	if a.did {
		it := next.item(a.key)
		l.cache = l.cache.after(puts(it))
		sent = append(sent, itemMsg(msgOf(5, 0, m.Part, 0, 0), it), itemMsg(msgOf(5, 1, m.Part, 0, 0), it))
	}
	return l, next, sent
}

// tell is what all tiers are told of what was written.
func (l leadModel) tell(p partModel) []impl.Msg {
	var sent []impl.Msg
	for tier := range 2 {
		for key := range 24 {
			if ver := len(p.had[key]); ver > 0 && l.up {
				sent = append(sent, itemMsg(msgOf(6, tier, p.part, 0, 0), item(key, ver, impl.Val{})))
			}
		}
	}
	return sent
}

// again is the other ends, once more.
func (l leadModel) again(p partModel) []impl.Msg {
	if !l.up {
		return nil
	}
	return p.ends()
}

// lead is who leads, of the model, sharing none with it.
func (l leadModel) lead() impl.Lead {
	return impl.Lead{Term: l.term, Up: l.up, Cache: l.cache.cache()}
}

// sameLead says whether two who lead are one, asked of nothing that is tested.
func sameLead(a impl.Lead, b impl.Lead) bool {
	return a.Term == b.Term && a.Up == b.Up && sameCache(a.Cache, b.Cache)
}

func sameMsgs(a []impl.Msg, b []impl.Msg) bool {
	return slices.EqualFunc(a, b, sameMsg)
}

func leadText(l impl.Lead) string {
	return fmt.Sprintf("%d %v %s", l.Term, l.Up, cacheText(l.Cache))
}

// msgLines tells messages, a line each.
func msgLines(msgs []impl.Msg) string {
	var lines []string
	for _, m := range msgs {
		text := msgTextTold(m)
		if text == "" {
			text = fmt.Sprintf("not ok: %+v", m)
		}
		lines = append(lines, text)
	}
	return strings.Join(lines, "\n")
}

// wantLead tells an answer that is not as the model has it, or not ok.
func wantLead(t *testing.T, what string, l impl.Lead, s impl.Shard, sent []impl.Msg, wantL leadModel, wantP partModel, wantSent []impl.Msg) {
	t.Helper()
	if want := wantL.lead(); !sameLead(l, want) {
		t.Fatalf("%s: got %s, want %s", what, leadText(l), leadText(want))
	}
	if want := wantP.shard(); !samePart(s, want) {
		t.Fatalf("%s: got %s, want %s", what, partText(s), partText(want))
	}
	if !sameMsgs(sent, wantSent) {
		t.Fatalf("%s: got\n%s\nwant\n%s", what, msgLines(sent), msgLines(wantSent))
	}
	if !impl.LeadOk(l, s) {
		t.Fatalf("%s: %s is not ok", what, leadText(l))
	}
	for _, m := range sent {
		if !msgTold(m) {
			t.Fatalf("%s: %+v is not ok", what, m)
		}
	}
}

// wantTake asks the program for a message, and tells what is not as the model has it.
func wantTake(t *testing.T, what string, l leadModel, p partModel, m impl.Msg) (leadModel, partModel, []impl.Msg) {
	t.Helper()
	gotL, gotS, sent := impl.LeadTake(l.lead(), p.shard(), m)
	nextL, nextP, want := l.take(p, m)
	wantLead(t, fmt.Sprintf("%s, %s", what, msgLines([]impl.Msg{m})), gotL, gotS, sent, nextL, nextP, want)
	return nextL, nextP, want
}

// leadCaches are caches that who leads a part can have.
func leadCaches(p partModel) map[string]cacheModel {
	caches := map[string]cacheModel{"floors of 60": allFloors(60)}
	with := func(what string, put func(key int, ver int) impl.Item, kinds ...int) {
		var c cacheModel
		for _, key := range kinds {
			c = c.after(puts(put(key+p.part, len(p.had[key+p.part]))))
		}
		caches[what] = c
	}
	newest := func(key int, ver int) impl.Item { return p.itemAt(key, ver) }
	older := func(key int, ver int) impl.Item { return p.itemAt(key, max(ver-1, 0)) }
	other := func(key int, ver int) impl.Item {
		if key < 8 {
			return item(key, ver, thing(999))
		}
		return item(key, ver, bond(7, 777))
	}
	with("no items", newest)
	with("one item", newest, 18)
	with("the newest", newest, 2, 10, 18, 22)
	with("older ones", older, 18, 2, 20, 10)
	with("the oldest", func(key int, _ int) impl.Item { return p.itemAt(key, 0) }, 20, 18, 2, 12)
	with("other values", other, 10, 18, 0, 2)
	above := caches["one item"]
	for key := range 24 {
		above = above.after(floors(key, min(len(p.had[key])+1, 60)))
	}
	caches["floors above"] = above
	return caches
}

// rightLeads are those who lead a part, or led it, and are ok.
func rightLeads(p partModel) map[string]leadModel {
	leads := map[string]leadModel{}
	for what, c := range leadCaches(p) {
		leads[what] = leadModel{term: p.fence, up: true, cache: c}
		leads[what+", not up"] = leadModel{term: p.fence, cache: c}
		if p.fence > 0 {
			leads[what+", put off"] = leadModel{term: p.fence - 1, up: true, cache: c}
		}
	}
	if p.fence > 0 {
		leads["the first, put off and not up"] = leadModel{cache: leadCaches(p)["older ones"]}
	}
	return leads
}

// leadMsgs are messages to who leads a part, and some that go elsewhere.
func leadMsgs(p partModel) []impl.Msg {
	var msgs []impl.Msg
	for part0 := range 2 {
		for kind := 1; kind <= 10; kind++ {
			msgs = append(msgs, plainMsgs(part0)[kind])
		}
	}
	for key := p.part; key < 24; key += 2 {
		msgs = append(msgs, itemMsg(msgOf(1, key/2%2, p.part, key, 1000-key), item(key, 0, impl.Val{})))
	}
	for tier := range 2 {
		msgs = append(msgs, msgOf(7, tier, p.part, 0, 0), msgOf(7, tier, p.part, 1000, 0))
		for _, r := range leadReqs(p, tier) {
			for _, op := range []impl.Op{set(2, 1000000), set(6, 0), bind(2, 3, 5), bind(6, 4, 1000), part(2, 1), part(4, 6)} {
				msgs = append(msgs, opMsg(msgOf(3, r.Who, p.part, r.Inc, r.Seq), turnedTo(p.part, op)))
			}
		}
	}
	for _, seq := range []int{1, 2, 3, 4, 5, 6, 7, 60, 1000} {
		msgs = append(msgs, msgOf(10, 0, p.part, 0, seq))
		for _, op := range []impl.Op{bind(3, 2, 9), part(3, 2), bind(1, 2, 1), part(1, 6), bind(4, 6, 8)} {
			msgs = append(msgs, opMsg(msgOf(9, 0, p.part, 0, seq), turnedTo(p.part, op)))
		}
	}
	return msgs
}

// leadReqs are requests of a tier: its last one, ones ahead of it and behind it.
func leadReqs(p partModel, tier int) []impl.Req {
	reqs := []impl.Req{req(tier, 0, 0), req(tier, 1000, 1000)}
	for _, last := range p.last[tier] {
		r := last.Req
		for _, near := range []impl.Req{r, req(tier, r.Inc, r.Seq-1), req(tier, r.Inc, r.Seq+1), req(tier, r.Inc-1, r.Seq+1), req(tier, r.Inc+1, 0)} {
			if near.Inc >= 0 && near.Seq >= 0 {
				reqs = append(reqs, near)
			}
		}
	}
	return reqs
}
