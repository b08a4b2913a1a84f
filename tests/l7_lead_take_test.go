package tests

import (
	"fmt"
	"slices"
	"strings"
	"testing"

	"loop.example/kith/impl"
)

// ledPart is a part and who leads it, asked by texts of messages; each answer is held against the model too.
type ledPart struct {
	t *testing.T
	l leadModel
	p partModel
}

// ledNow is somebody who has risen in a part.
func ledNow(t *testing.T, p partModel) *ledPart {
	l, p, _ := p.rise()
	return &ledPart{t: t, l: l, p: p}
}

// says tells a message after which others are sent than these.
func (d *ledPart) says(text string, want ...string) {
	d.t.Helper()
	m, is := msgReadTold(text)
	if !is {
		d.t.Fatalf("%q is no message", text)
	}
	l, s, sent := impl.LeadTake(d.l.lead(), d.p.shard(), m)
	if got := msgLines(sent); got != strings.Join(want, "\n") {
		d.t.Fatalf("%s: got\n%s\nwant\n%s", text, got, strings.Join(want, "\n"))
	}
	nextL, nextP, wantSent := d.l.take(d.p, m)
	wantLead(d.t, text, l, s, sent, nextL, nextP, wantSent)
	d.l, d.p = leadModelOf(l), modelOf(s)
}

// has tells a cache that has other items than these, as keys and Vers.
func (d *ledPart) has(want ...int) {
	d.t.Helper()
	var got []int
	for _, it := range d.l.cache.cache().Items {
		got = append(got, it.Key, it.Ver)
	}
	if !slices.Equal(got, want) {
		d.t.Fatalf("got the keys and Vers %v, want %v", got, want)
	}
}

// leadModelOf is the model of somebody who leads and is ok.
func leadModelOf(l impl.Lead) leadModel {
	return leadModel{term: l.Term, up: l.Up, cache: cacheModelOf(l.Cache)}
}

// someRows is a part 0 with several keys written: the numbers of 0 and 2, the elders of 4, the young of 2 and of 6.
func someRows() partModel {
	return partModel{}.after(writes(0, req(0, 0, 1), set(0, 17)), writes(0, req(0, 0, 2), set(2, 3)), backs(0, 1, bind(1, 4, 9)), writes(0, req(1, 0, 1), bind(2, 3, 5)), writes(0, req(1, 0, 2), bind(6, 3, 7)), writes(0, req(0, 0, 3), set(2, 4)), clears(0, 1))
}

func TestLeadFill(t *testing.T) {
	d := ledNow(t, someRows())
	d.says("fill 1 0 7 1000 2 0", "filled 1 0 7 1000 0 2 2 4")
	d.says("fill 0 0 0 0 12 0", "filled 0 0 0 0 0 12 1 (1@9)")
	d.says("fill 0 0 0 1 22 0", "filled 0 0 0 1 0 22 1 (3@7)")
	// Of what was never written there is the 0th, which is nothing.
	d.says("fill 0 0 0 2 20 0", "filled 0 0 0 2 0 20 0 ()")
	d.has(20, 0, 22, 1, 12, 1, 2, 2)
	// The one that comes last is the first, and crowds the last one out.
	d.says("fill 1 0 1 0 12 0", "filled 1 0 1 0 0 12 1 (1@9)")
	d.has(12, 1, 20, 0, 22, 1, 2, 2)
	d.says("fill 1 0 1 1 18 0", "filled 1 0 1 1 0 18 1 (3@5)")
	d.has(18, 1, 12, 1, 20, 0, 22, 1)
	d.says("fill 1 0 1 2 18 0", "filled 1 0 1 2 0 18 1 (3@5)")
	d.has(18, 1, 12, 1, 20, 0, 22, 1)
}

// TestLeadFillOld has a cache whose item is older than its row, or below a floor: it is told as it is.
func TestLeadFillOld(t *testing.T) {
	d := ledNow(t, someRows())
	d.l.cache = d.l.cache.after(puts(item(12, 0, bond())), puts(item(2, 1, thing(3))), puts(item(18, 1, bond(7, 777))))
	d.says("fill 0 0 0 1 2 0", "filled 0 0 0 1 0 2 1 3")
	d.has(2, 1, 18, 1, 12, 0)
	d.says("fill 0 0 0 2 12 0", "filled 0 0 0 2 0 12 0 ()")
	d.says("fill 0 0 0 3 18 0", "filled 0 0 0 3 0 18 1 (7@777)")
	d.has(18, 1, 12, 0, 2, 1)
	// The row is below the floor, so it can't be put; it is told all the same.
	d.l.cache = d.l.cache.after(floors(2, 3), floors(22, 60))
	d.says("fill 0 0 0 4 2 0", "filled 0 0 0 4 0 2 2 4")
	d.says("fill 0 0 0 5 22 0", "filled 0 0 0 5 0 22 1 (3@7)")
	d.has(18, 1, 12, 0)
	// As old as the floor is not below it.
	d.l.cache = d.l.cache.after(floors(0, 1))
	d.says("fill 0 0 0 6 0 0", "filled 0 0 0 6 0 0 1 17")
	d.has(0, 1, 18, 1, 12, 0)
}

func TestLeadWrite(t *testing.T) {
	d := ledNow(t, partModel{})
	d.says("write 1 0 0 1 2 2 3 5", "wrote 1 0 0 1 0 18 1 (3@5)", "news 0 0 0 0 0 18 1 (3@5)", "back 0 1 0 1 2 2 3 5")
	d.says("write 0 0 3 4 1 2 0 9", "wrote 0 0 3 4 0 2 1 9", "news 1 0 0 0 0 2 1 9")
	d.says("write 0 0 3 5 3 2 3 0", "wrote 0 0 3 5 0 18 2 ()", "news 1 0 0 0 0 18 2 ()", "back 0 1 0 2 3 2 3 0")
	d.has(18, 2, 2, 1)
	// Both ends in one part: the other end comes to this part.
	d.says("write 1 0 1000 1000 2 4 6 1000", "wrote 1 0 1000 1000 0 20 1 (6@1000)", "news 0 0 0 0 0 20 1 (6@1000)", "back 0 0 0 3 2 4 6 1000")
	d.says("write 0 0 4 0 1 4 0 0", "wrote 0 0 4 0 0 4 1 0", "news 1 0 0 0 0 4 1 0")
	d.says("write 0 0 4 1 1 6 0 1000000", "wrote 0 0 4 1 0 6 1 1000000", "news 1 0 0 0 0 6 1 1000000")
	d.has(6, 1, 4, 1, 20, 1, 18, 2)
	if len(d.p.log) != 6 || len(d.p.intents) != 3 {
		t.Errorf("got %s", partText(d.p.shard()))
	}
	odd := ledNow(t, partModel{part: 1})
	odd.says("write 0 1 0 1 3 7 0 0", "wrote 0 1 0 1 0 23 1 ()", "news 1 1 0 0 0 23 1 ()", "back 0 0 0 1 3 7 0 0")
	odd.says("write 1 1 0 0 1 5 0 8", "wrote 1 1 0 0 0 5 1 8", "news 0 1 0 0 0 5 1 8")
}

// TestLeadWriteAgain has requests that come again, and older ones: nothing is written, and the item is as it is then.
func TestLeadWriteAgain(t *testing.T) {
	d := ledNow(t, partModel{})
	d.says("write 0 0 2 7 1 2 0 9", "wrote 0 0 2 7 0 2 1 9", "news 1 0 0 0 0 2 1 9")
	d.says("write 0 0 2 7 1 2 0 9", "wrote 0 0 2 7 0 2 1 9")
	d.says("write 1 0 0 1 1 2 0 10", "wrote 1 0 0 1 0 2 2 10", "news 0 0 0 0 0 2 2 10")
	d.has(2, 2)
	d.l.cache = d.l.cache.after(drops(2))
	d.says("write 0 0 2 7 1 2 0 9", "wrote 0 0 2 7 0 2 2 10")
	d.has(2, 2)
	// A request is told by its numbers alone: with another write it is of the key of that.
	d.says("write 0 0 2 7 2 4 6 5", "wrote 0 0 2 7 0 20 0 ()")
	d.has(20, 0, 2, 2)
	// Older ones: of an earlier number, and of an earlier life.
	d.says("write 0 0 2 6 1 4 0 1", "wrote 0 0 2 6 4 4 0 0")
	d.says("write 0 0 1 1000 1 2 0 1", "wrote 0 0 1 1000 4 2 2 10")
	d.says("write 1 0 0 0 2 2 3 5", "wrote 1 0 0 0 4 18 0 ()")
	d.has(18, 0, 2, 2, 4, 0, 20, 0)
	if len(d.p.log) != 2 || len(d.p.intents) != 0 {
		t.Errorf("got %s", partText(d.p.shard()))
	}
}

// TestLeadWriteFull has no room for another bond, or for anything: it is refused for good, and nothing but the answer is sent.
func TestLeadWriteFull(t *testing.T) {
	d := ledNow(t, partModel{}.after(writes(0, req(0, 0, 1), bind(0, 1, 1)), writes(0, req(0, 0, 2), bind(2, 1, 1)), writes(0, req(0, 0, 3), bind(4, 1, 1))))
	d.says("write 1 0 0 1 2 4 3 5", "wrote 1 0 0 1 3 20 1 (1@1)")
	d.has(20, 1)
	d.says("write 1 0 0 2 2 6 3 5", "wrote 1 0 0 2 3 22 0 ()")
	d.says("write 1 0 0 3 1 6 0 5", "wrote 1 0 0 3 0 6 1 5", "news 0 0 0 0 0 6 1 5")
	d.says("write 0 0 0 4 3 0 1 0", "wrote 0 0 0 4 3 16 1 (1@1)")
	d.says("backed 0 0 0 2")
	// There is room by now, but it was answered.
	d.says("write 0 0 0 4 3 0 1 0", "wrote 0 0 0 4 3 16 1 (1@1)")
	d.says("write 0 0 0 5 3 0 1 0", "wrote 0 0 0 5 0 16 2 ()", "news 1 0 0 0 0 16 2 ()", "back 0 1 0 4 3 0 1 0")
	full := ledNow(t, rightParts()["59 commits, part 0"])
	full.says("write 0 0 99 0 1 2 0 5", "wrote 0 0 99 0 0 2 3 5", "news 1 0 0 0 0 2 3 5")
	full.says("write 0 0 99 1 1 2 0 6", "wrote 0 0 99 1 3 2 3 5")
	full.says("write 1 0 99 1 2 2 3 6", "wrote 1 0 99 1 3 18 3 (1@9)")
	full.says("write 0 0 99 1 1 2 0 6", "wrote 0 0 99 1 3 2 3 5")
	stamped := ledNow(t, rightParts()["59 bonds, part 0"].after(clears(2, 3)))
	stamped.says("write 0 0 99 0 2 0 1 5", "wrote 0 0 99 0 0 16 1 (1@5)", "news 1 0 0 0 0 16 1 (1@5)", "back 0 1 0 60 2 0 1 5")
	stamped.says("backed 0 0 0 60")
	stamped.says("write 0 0 99 1 2 0 1 6", "wrote 0 0 99 1 3 16 1 (1@5)")
}

func TestLeadJoin(t *testing.T) {
	d := ledNow(t, someRows())
	d.l.cache = d.l.cache.after(puts(item(2, 1, thing(3))))
	d.says("join 1 0 7 0", "joined 1 0 7 0 1 0 2 0 0 0 0 0 0 0 0 0 1 0 0 0 0 0 1 0 0 0 1 0")
	d.says("join 0 0 1000 0", "joined 0 0 1000 0 1 0 2 0 0 0 0 0 0 0 0 0 1 0 0 0 0 0 1 0 0 0 1 0")
	d.has(2, 1)
	odd := ledNow(t, partModel{part: 1}.after(writes(0, req(0, 0, 1), set(7, 1)), writes(0, req(0, 0, 2), set(7, 1)), writes(0, req(0, 0, 3), part(7, 3))))
	odd.says("join 0 1 0 0", "joined 0 1 0 0 0 0 0 0 0 0 0 2 0 0 0 0 0 0 0 0 0 0 0 0 0 0 0 1")
}

func TestLeadBack(t *testing.T) {
	d := ledNow(t, partModel{})
	d.says("back 0 0 0 4 2 3 4 6", "backed 0 1 0 4", "news 0 0 0 0 0 12 1 (3@6)", "news 1 0 0 0 0 12 1 (3@6)")
	d.has(12, 1)
	d.l.cache = d.l.cache.after(drops(12))
	// One that was taken, and one ahead of it: it is known to have come, and nothing is written.
	d.says("back 0 0 0 4 2 3 4 6", "backed 0 1 0 4")
	d.says("back 0 0 0 3 3 3 4 0", "backed 0 1 0 3")
	d.has()
	d.says("back 0 0 0 1000 3 3 4 0", "backed 0 1 0 1000", "news 0 0 0 0 0 12 2 ()", "news 1 0 0 0 0 12 2 ()")
	d.says("back 0 0 0 5 2 3 4 7", "backed 0 1 0 5")
	// Of another bond an earlier stamp is new.
	d.says("back 0 0 0 1 2 5 4 7", "backed 0 1 0 1", "news 0 0 0 0 0 12 3 (5@7)", "news 1 0 0 0 0 12 3 (5@7)")
	d.says("back 0 0 0 1 2 3 6 8", "backed 0 1 0 1", "news 0 0 0 0 0 14 1 (3@8)", "news 1 0 0 0 0 14 1 (3@8)")
	// Both ends in this part.
	d.says("back 0 0 0 1 2 2 4 1000", "backed 0 0 0 1", "news 0 0 0 0 0 12 4 (2@1000 5@7)", "news 1 0 0 0 0 12 4 (2@1000 5@7)")
	d.has(12, 4, 14, 1)
	full := ledNow(t, rightParts()["60 commits, part 1"])
	full.says("back 0 1 0 1000 2 2 3 6")
	full.says("back 0 1 0 6 3 2 3 0", "backed 0 0 0 6")
	full.has()
}

func TestLeadBacked(t *testing.T) {
	d := ledNow(t, rightParts()["crowded, part 0"])
	stamps := func(want ...int) {
		t.Helper()
		var got []int
		for _, in := range d.p.intents {
			got = append(got, in.Stamp)
		}
		if !slices.Equal(got, want) {
			t.Fatalf("got the stamps %v, want %v", got, want)
		}
	}
	stamps(3, 4, 5)
	d.says("backed 0 0 0 1")
	d.says("backed 0 0 0 1000")
	stamps(3, 4, 5)
	d.says("backed 0 0 0 4")
	stamps(3, 5)
	d.says("backed 0 0 0 4")
	d.says("backed 0 0 0 3")
	d.says("backed 0 0 0 5")
	stamps()
	d.has()
}

// TestLeadPutOff is promise 7: somebody who was put off, and has an old cache, may tell what was so, but writes nothing.
func TestLeadPutOff(t *testing.T) {
	old := ledNow(t, someRows())
	old.says("fill 0 0 0 1 2 0", "filled 0 0 0 1 0 2 2 4")
	fresh := ledNow(t, old.p)
	fresh.says("write 0 0 1 1 1 2 0 5", "wrote 0 0 1 1 0 2 3 5", "news 1 0 0 0 0 2 3 5")
	old.p = fresh.p
	before := old.p.shard()
	// What he has in his cache was so, and what the part has is so.
	old.says("fill 1 0 0 1 2 0", "filled 1 0 0 1 0 2 2 4")
	old.says("fill 1 0 0 2 18 0", "filled 1 0 0 2 0 18 1 (3@5)")
	old.says("join 1 0 0 0", "joined 1 0 0 0 1 0 3 0 0 0 0 0 0 0 0 0 1 0 0 0 0 0 1 0 0 0 1 0")
	if got := msgLines(impl.LeadTell(old.l.lead(), before)); !strings.Contains(got, "gone 1 0 0 0 2 3") {
		t.Errorf("got %s", got)
	}
	if got := msgLines(impl.LeadAgain(old.l.lead(), before)); got != "back 0 1 0 2 2 6 3 7" {
		t.Errorf("got %s", got)
	}
	for _, text := range []string{"write 0 0 1 2 1 2 0 6", "write 0 0 1 1 1 2 0 5", "write 0 0 1 0 1 2 0 5", "write 1 0 9 9 2 2 3 6", "back 0 0 0 9 2 3 4 6", "back 0 0 0 1 2 1 4 9", "backed 0 0 0 2", "backed 0 0 0 9"} {
		d := *old
		d.says(text)
		if d.l.up || !samePart(d.p.shard(), before) {
			t.Errorf("%s: got %s, %s", text, leadText(d.l.lead()), partText(d.p.shard()))
		}
		d.has(18, 1, 2, 2)
		// From then on he does nothing at all.
		for _, other := range []string{text, "fill 1 0 0 1 2 0", "join 1 0 0 0"} {
			d.says(other)
		}
		if tell, again := impl.LeadTell(d.l.lead(), before), impl.LeadAgain(d.l.lead(), before); len(tell)+len(again) != 0 {
			t.Errorf("%s: got %s, %s", text, msgLines(tell), msgLines(again))
		}
	}
	// Who leads now does it all.
	fresh.says("write 1 0 9 9 2 2 3 6", "wrote 1 0 9 9 0 18 2 (3@6)", "news 0 0 0 0 0 18 2 (3@6)", "back 0 1 0 3 2 2 3 6")
	fresh.says("backed 0 0 0 2")
	fresh.says("back 0 0 0 9 2 3 4 6", "backed 0 1 0 9", "news 0 0 0 0 0 12 2 (1@9 3@6)", "news 1 0 0 0 0 12 2 (1@9 3@6)")
}

// TestLeadNothingHappens has who isn't up, and messages that aren't for who leads the part: all is as it is, and none is sent.
func TestLeadNothingHappens(t *testing.T) {
	for what, p := range rightParts() {
		for who, l := range rightLeads(p) {
			msgs := []impl.Msg{{}, {Kind: -1}, {Kind: 11, Part: p.part}, plainMsgs(p.part)[2], plainMsgs(p.part)[4], plainMsgs(p.part)[5], plainMsgs(p.part)[6], plainMsgs(p.part)[8]}
			for _, kind := range []int{1, 3, 7, 9, 10} {
				msgs = append(msgs, plainMsgs(1 - p.part)[kind])
				if !l.up {
					msgs = append(msgs, plainMsgs(p.part)[kind])
				}
				for _, other := range []func(m *impl.Msg){
					func(m *impl.Msg) { m.Tier = 2 }, func(m *impl.Msg) { m.Tier = -1 }, func(m *impl.Msg) { m.Part = 2 }, func(m *impl.Msg) { m.Part = -1 },
					func(m *impl.Msg) { m.Inc = 1001 }, func(m *impl.Msg) { m.Seq = 1001 }, func(m *impl.Msg) { m.Seq = -1 }, func(m *impl.Msg) { m.Code = 1 },
					func(m *impl.Msg) { m.Item.Key = 24 + m.Part }, func(m *impl.Msg) { m.Item.Ver = 1 }, func(m *impl.Msg) { m.Op.Kind = 4 }, func(m *impl.Msg) { m.Vers = someVers() },
				} {
					m := plainMsgs(p.part)[kind]
					other(&m)
					msgs = append(msgs, m)
				}
			}
			for _, m := range msgs {
				gotL, gotS, sent := impl.LeadTake(l.lead(), p.shard(), m)
				wantLead(t, fmt.Sprintf("%s, %s, %+v", what, who, m), gotL, gotS, sent, l, p, nil)
			}
		}
	}
}

// TestLeadTakeEach has each of many messages to each of many who lead, of each part that is ok.
func TestLeadTakeEach(t *testing.T) {
	came := map[string]int{}
	for what, p := range rightParts() {
		msgs := leadMsgs(p)
		for who, l := range rightLeads(p) {
			for _, m := range msgs {
				next, _, sent := wantTake(t, what+", "+who, l, p, m)
				told := fmt.Sprint(m.Kind, " up ", next.up)
				if len(sent) > 0 && sent[0].Kind == 4 {
					told += fmt.Sprint(" code ", sent[0].Code)
				}
				came[fmt.Sprint(told, " sent ", len(sent))]++
			}
		}
	}
	for _, what := range []string{"1 up true sent 1", "3 up true code 0 sent 1", "3 up true code 0 sent 2", "3 up true code 0 sent 3", "3 up true code 3 sent 1", "3 up true code 4 sent 1", "3 up false sent 0",
		"7 up true sent 1", "9 up true sent 0", "9 up true sent 1", "9 up true sent 3", "9 up false sent 0", "10 up true sent 0", "10 up false sent 0", "2 up true sent 0", "8 up true sent 0"} {
		if came[what] < 20 {
			t.Errorf("%s came but %d times: %v", what, came[what], came)
		}
	}
}

// TestLeadTakeAll has all messages that are ok, to who leads a busy part.
func TestLeadTakeAll(t *testing.T) {
	for part0 := range 2 {
		p := busyPart(part0)
		l := leadModel{term: 2, up: true, cache: leadCaches(p)["older ones"]}
		for _, m := range rightMsgs() {
			wantTake(t, fmt.Sprint("part ", part0), l, p, m)
		}
	}
}

// TestLeadTakeAny has messages one thing of which is changed, to numbers that are far from any that is ok too.
func TestLeadTakeAny(t *testing.T) {
	for part0 := range 2 {
		p := busyPart(part0)
		l := leadModel{term: 2, up: true, cache: leadCaches(p)["older ones"]}
		for _, m := range memoryMsgs() {
			wantTake(t, fmt.Sprintf("part %d, %+v", part0, m), l, p, m)
		}
		for _, change := range slices.Concat(numberChanges(), itemChanges(), listChanges(), opChanges()) {
			for _, m := range plainMsgs(part0) {
				change.do(&m)
				wantTake(t, fmt.Sprintf("part %d, %s, %+v", part0, change.what, m), l, p, m)
			}
		}
	}
}
