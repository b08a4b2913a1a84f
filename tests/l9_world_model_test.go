package tests

import (
	"fmt"
	"math"
	"slices"
	"strings"
	"testing"

	"loop.example/kith/impl"
)

// worldModel is a world, as plain as it can be told: of each part who leads it, the newest first.
type worldModel struct {
	parts [2]partModel
	leads [2][]leadModel
	tiers [2]tierModel
	net   []impl.Msg
	told  []impl.Told
}

// openWorld is a world at its beginning, in the document's words.
func openWorld() worldModel {
	var w worldModel
	for which := range 2 {
		w.parts[which] = partModel{part: which, fence: 1}
		w.leads[which] = []leadModel{{term: 1, up: true}}
		w.tiers[which].id = which
	}
	return w
}

func eventReads(tier int, key int) impl.Event {
	return impl.Event{Kind: 1, A: tier, B: key}
}

func eventWrites(tier int, op impl.Op) impl.Event {
	return impl.Event{Kind: 2, A: tier, Op: op}
}

// eventTakes is that a message is taken, by the newest of those who lead, eventTakesBy by one of them, eventCuts by one who is not up any more then.
func eventTakes(place int) impl.Event {
	return impl.Event{Kind: 3, A: place}
}

func eventTakesBy(place int, who int) impl.Event {
	return impl.Event{Kind: 3, A: place, B: who}
}

func eventCuts(place int, who int) impl.Event {
	return impl.Event{Kind: 3, A: place, B: who, N: 1}
}

func eventLoses(place int) impl.Event {
	return impl.Event{Kind: 4, A: place}
}

func eventTwice(place int) impl.Event {
	return impl.Event{Kind: 5, A: place}
}

func eventRetries(tier int) impl.Event {
	return impl.Event{Kind: 6, A: tier}
}

func eventFalls(tier int) impl.Event {
	return impl.Event{Kind: 7, A: tier}
}

func eventFells(which int, who int) impl.Event {
	return impl.Event{Kind: 8, A: which, B: who}
}

func eventRises(which int) impl.Event {
	return impl.Event{Kind: 9, A: which}
}

func eventTells(which int, who int) impl.Event {
	return impl.Event{Kind: 10, A: which, B: who}
}

func eventAgain(which int, who int) impl.Event {
	return impl.Event{Kind: 11, A: which, B: who}
}

func eventDrops(tier int, key int) impl.Event {
	return impl.Event{Kind: 12, A: tier, B: key}
}

// do is the model behind an event, in the words of the document's table.
func (w worldModel) do(e impl.Event) worldModel {
	switch e.Kind {
	case 1:
		return w.asks(e.A, asksRead(e.B))
	case 2:
		return w.asks(e.A, asksWrite(e.Op))
	case 3:
		return w.takes(e)
	case 4:
		return w.without(e.A)
	case 5:
		if among(e.A, 0, len(w.net)-1) {
			return w.send(w.net[e.A])
		}
	case 6:
		return w.asks(e.A, asksRetry())
	case 7:
		return w.asks(e.A, asksFall())
	case 9:
		return w.rise(e.A)
	case 8, 10, 11:
		if among(e.A, 0, 1) && among(e.B, 0, len(w.leads[e.A])-1) {
			return w.leadDoes(e)
		}
	case 12:
		if among(e.A, 0, 1) {
			w.tiers[e.A].cache = w.tiers[e.A].cache.after(drops(e.B))
		}
	}
	return w
}

// asks is behind a call of a tier, which may be none.
func (w worldModel) asks(id int, st tierStep) worldModel {
	if !among(id, 0, 1) {
		return w
	}
	next, a := w.tiers[id].do(st)
	w.tiers[id] = next
	w = w.send(a.sent...)
	for _, told := range a.told {
		if len(w.told) < 120 {
			w.told = slices.Concat(w.told, []impl.Told{told})
		}
	}
	return w
}

// takes is behind a message that is taken.
func (w worldModel) takes(e impl.Event) worldModel {
	if !among(e.A, 0, len(w.net)-1) {
		return w
	}
	m := w.net[e.A]
	w = w.without(e.A)
	if !msgKinds[m.Kind].up {
		if e.N == 1 {
			return w.asks(m.Tier, asksFall())
		}
		return w.asks(m.Tier, asksTake(m))
	}
	if !among(e.B, 0, len(w.leads[m.Part])-1) || !w.leads[m.Part][e.B].up {
		return w
	}
	l, p, sent := w.leads[m.Part][e.B].take(w.parts[m.Part], m)
	w.parts[m.Part] = p
	if e.N == 1 {
		l.up = false
		return w.withLead(m.Part, e.B, l)
	}
	return w.withLead(m.Part, e.B, l).send(sent...)
}

// leadDoes is behind an event that happens to one who leads, whom there is.
func (w worldModel) leadDoes(e impl.Event) worldModel {
	l := w.leads[e.A][e.B]
	switch e.Kind {
	case 8:
		l.up = false
		return w.withLead(e.A, e.B, l)
	case 10:
		return w.send(l.tell(w.parts[e.A])...)
	}
	return w.send(l.again(w.parts[e.A])...)
}

// rise is behind somebody's rising in a part, which may be none.
func (w worldModel) rise(which int) worldModel {
	if !among(which, 0, 1) {
		return w
	}
	l, p, sent := w.parts[which].rise()
	if w.parts[which].fence == math.MaxInt {
		// No number is 1 more than that: the Fence stays, and nobody's term is above his who has it.
		if len(w.leads[which]) > 0 && w.leads[which][0].term == math.MaxInt {
			return w
		}
		l.term, p.fence = math.MaxInt, math.MaxInt
	}
	w.parts[which] = p
	w.leads[which] = slices.Concat([]leadModel{l}, w.leads[which])
	if len(w.leads[which]) > 3 {
		w.leads[which] = w.leads[which][:3]
	}
	return w.send(sent...)
}

func (w worldModel) withLead(which int, who int, l leadModel) worldModel {
	w.leads[which] = slices.Clone(w.leads[which])
	w.leads[which][who] = l
	return w
}

// without is without a message, which may be none.
func (w worldModel) without(place int) worldModel {
	if among(place, 0, len(w.net)-1) {
		w.net = slices.Concat(w.net[:place], w.net[place+1:])
	}
	return w
}

func (w worldModel) send(msgs ...impl.Msg) worldModel {
	for _, m := range msgs {
		if len(w.net) < 40 {
			w.net = slices.Concat(w.net, []impl.Msg{m})
		}
	}
	return w
}

// after is the model behind some events.
func (w worldModel) after(events ...impl.Event) worldModel {
	for _, e := range events {
		w = w.do(e)
	}
	return w
}

// world is the world of the model, which shares none with it.
func (w worldModel) world() impl.World {
	got := impl.World{Net: keptMsgs(w.net), Told: keptAnswer(tierAnswer{told: w.told}).told}
	for which := range 2 {
		var leads []impl.Lead
		for _, l := range w.leads[which] {
			leads = append(leads, l.lead())
		}
		got.Shards, got.Leads, got.Tiers = append(got.Shards, w.parts[which].shard()), append(got.Leads, leads), append(got.Tiers, w.tiers[which].tier())
	}
	return got
}

// worldModelOf is the model of a world that is ok.
func worldModelOf(w impl.World) worldModel {
	m := worldModel{net: keptMsgs(w.Net), told: keptAnswer(tierAnswer{told: w.Told}).told}
	for which := range 2 {
		m.parts[which], m.tiers[which] = modelOf(w.Shards[which]), tierModelOf(w.Tiers[which])
		for _, l := range w.Leads[which] {
			m.leads[which] = append(m.leads[which], leadModelOf(l))
		}
	}
	return m
}

// tierModelOf is the model of a tier that is ok.
func tierModelOf(t impl.Tier) tierModel {
	m := tierModel{id: t.Id, inc: t.Inc, seq: t.Seq, joined: t.Joined, key: t.Key, op: t.Op, cache: cacheModelOf(t.Cache)}
	switch {
	case t.Reads:
		m.waits = "read"
	case t.Busy:
		m.waits = "write"
	}
	return m
}

// worldTold says whether a world is ok, in the document's words; of parts and of who leads the program is asked.
func worldTold(w impl.World) bool {
	if len(w.Shards) != 2 || len(w.Leads) != 2 || len(w.Tiers) != 2 || len(w.Net) > 40 || len(w.Told) > 120 {
		return false
	}
	for which := range 2 {
		s, leads, tier := w.Shards[which], w.Leads[which], w.Tiers[which]
		if !impl.ShardOk(s) || s.Part != which || len(leads) > 3 || !tierTold(tier) || tier.Id != which {
			return false
		}
		for place, l := range leads {
			if !impl.LeadOk(l, s) || place > 0 && leads[place-1].Term <= l.Term {
				return false
			}
		}
	}
	for _, m := range w.Net {
		if !msgTold(m) {
			return false
		}
	}
	for _, told := range w.Told {
		if !answerTold(told) {
			return false
		}
	}
	return true
}

// answerTold says whether there can be such an answer, in the document's words.
func answerTold(told impl.Told) bool {
	return among(told.Tier, 0, 1) && among(told.Item.Key, 0, 23) && itemTold(told.Item) && among(told.Code, 0, 5) && (told.Wrote || told.Code == 0)
}

// sameWorld says whether two worlds are one, asked of nothing that is tested.
func sameWorld(a impl.World, b impl.World) bool {
	sameLeads := func(a []impl.Lead, b []impl.Lead) bool { return slices.EqualFunc(a, b, sameLead) }
	return slices.EqualFunc(a.Shards, b.Shards, samePart) && slices.EqualFunc(a.Leads, b.Leads, sameLeads) &&
		slices.EqualFunc(a.Tiers, b.Tiers, sameTier) && sameMsgs(a.Net, b.Net) && slices.EqualFunc(a.Told, b.Told, sameTold)
}

// worldText tells a world, a line each of its parts, of who leads, of tiers, of messages and of answers.
func worldText(w impl.World) string {
	var lines []string
	for _, s := range w.Shards {
		lines = append(lines, "part "+partText(s))
	}
	for which, leads := range w.Leads {
		for _, l := range leads {
			lines = append(lines, fmt.Sprintf("lead of %d %s", which, leadText(l)))
		}
	}
	for _, t := range w.Tiers {
		lines = append(lines, tierText(t))
	}
	return strings.Join(append(lines, "net", msgLines(w.Net), tierAnswer{told: w.Told}.String()), "\n")
}

// wantWorld asks the program for an event, and tells what is not as the model has it, or not ok.
func wantWorld(t *testing.T, what string, w impl.World, m worldModel, e impl.Event) (impl.World, worldModel) {
	t.Helper()
	got, next := impl.WorldDo(w, e), m.do(e)
	if want := next.world(); !sameWorld(got, want) {
		t.Fatalf("%s, %+v: got\n%s\nwant\n%s\nof\n%s", what, e, worldText(got), worldText(want), worldText(w))
	}
	if !impl.WorldOk(got) || !worldTold(got) {
		t.Fatalf("%s, %+v: it is not ok\n%s", what, e, worldText(got))
	}
	return got, next
}

// plainWorld has something in each of its parts: messages of all kinds are on their way, to tiers that wait and to leaders who are up, put off and not up.
func plainWorld() worldModel {
	w := worldModel{parts: [2]partModel{busyPart(0), busyPart(1)}}
	newest, older := leadCaches(w.parts[0])["the newest"], leadCaches(w.parts[1])["older ones"]
	w.leads[0] = []leadModel{{term: 2, up: true, cache: newest}, {term: 1, up: true, cache: leadCaches(w.parts[0])["older ones"]}, {term: 0}}
	w.leads[1] = []leadModel{{term: 2, up: true, cache: older}, {term: 0, up: true, cache: leadCaches(w.parts[1])["one item"]}}
	w.tiers[0] = tierModel{inc: 7, seq: 3, joined: [2]bool{true, false}, waits: "read", key: 20, cache: tierCaches()["some"]}
	w.tiers[1] = tierModel{id: 1, inc: 2, seq: 3, joined: [2]bool{false, true}, waits: "write", op: set(4, 17), cache: tierCaches()["full"]}
	for part0 := range 2 {
		for kind := 1; kind <= 10; kind++ {
			w.net = append(w.net, plainMsgs(part0)[kind])
		}
	}
	w.net = append(w.net, itemMsg(msgOf(2, 0, 0, 7, 3), item(20, 1, bond(6, 9))))
	w.told = []impl.Told{{Tier: 0, Item: item(18, 1, bond(3, 5))}, {Tier: 1, Item: item(2, 1, thing(17)), Wrote: true, Code: 3}}
	return w
}

// withNet has so many messages on their way: those that there are, and behind them some that are alike but for a number.
func (w worldModel) withNet(many int) worldModel {
	w.net = slices.Clone(w.net[:min(many, len(w.net))])
	for len(w.net) < many {
		w.net = append(w.net, msgOf(7, len(w.net)%2, len(w.net)/2%2, len(w.net), 0))
	}
	return w
}

// withTold has so many answers told.
func (w worldModel) withTold(many int) worldModel {
	w.told = slices.Clone(w.told[:min(many, len(w.told))])
	for len(w.told) < many {
		at := len(w.told)
		told := impl.Told{Tier: at % 2, Item: item(20, at%60, bond(6, at))}
		if at%3 == 0 {
			told.Wrote, told.Code = true, at/3%6
		}
		w.told = append(w.told, told)
	}
	return w
}

// rightWorlds are worlds that are ok.
func rightWorlds() map[string]worldModel {
	plain := plainWorld()
	nobody, last, idle, crowded, full := plain, plain, plain, plain, plain
	nobody.leads = [2][]leadModel{}
	last.tiers[0].inc, last.tiers[0].seq, last.tiers[1].inc, last.tiers[1].seq = 1000, 1000, 999, 999
	for which := range 2 {
		idle.tiers[which] = tierModel{id: which, inc: 7, seq: 3, joined: [2]bool{true, true}, cache: tierCaches()["full"]}
		crowded.parts[which] = rightParts()[fmt.Sprintf("crowded, part %d", which)]
		full.parts[which] = rightParts()[fmt.Sprintf("60 commits, part %d", which)]
	}
	worlds := map[string]worldModel{
		"open": openWorld(), "plain": plain, "nobody leads": nobody, "last lives": last, "idle tiers": idle, "three intents": crowded, "60 commits": full,
		"39 messages": plain.withNet(39), "40 messages": plain.withNet(40), "119 answers": plain.withTold(119), "120 answers": plain.withTold(120),
		"all that there can be": crowded.withNet(40).withTold(120),
	}
	c := chooser(9)
	for _, many := range []int{60, 200} {
		w := openWorld()
		for range many {
			w = w.do(c.event(w, false))
		}
		worlds[fmt.Sprintf("behind %d events", many)] = w
	}
	return worlds
}

// event is something that happens to a world, in which messages may come far more often than they are taken; of some events, there is nobody to whom they happen.
func (c *chooser) event(w worldModel, crowds bool) impl.Event {
	id, which, who := c.pick(2), c.pick(2), c.pick(4)*(c.pick(4)/3)
	if crowds && c.pick(3) == 0 {
		return []impl.Event{eventTwice(c.place(w)), eventTwice(c.place(w)), eventTells(which, who), eventAgain(which, who)}[c.pick(4)]
	}
	switch c.pick(64) {
	case 0:
		return eventRises(which)
	case 1:
		return []impl.Event{eventFells(which, c.pick(4)), eventFalls(id), eventRises(which)}[c.pick(3)]
	case 2:
		return []impl.Event{eventTells(which, who), eventAgain(which, who)}[c.pick(2)]
	case 3, 4, 5:
		return eventDrops(id, c.key())
	case 6, 7, 8:
		return eventRetries(id)
	case 9:
		return impl.Event{Kind: c.pick(16) - 1, A: c.pick(4) - 1, B: c.pick(6) - 1, N: c.pick(4) - 1, Op: c.op(which)}
	case 10:
		return eventLoses(c.place(w))
	case 11, 12:
		return eventTwice(c.place(w))
	case 13:
		return eventCuts(c.place(w), who)
	case 14, 15, 16, 17, 18, 19, 20, 21:
		return eventReads(id, c.key())
	case 22, 23, 24, 25, 26, 27, 28, 29:
		a := c.pick(4)
		b := (a + 1 + c.pick(3)) % 4
		return eventWrites(id, []impl.Op{set(a, c.pick(99)), bind(a, b, c.pick(9)), bind(a, b, c.pick(9)), part(a, b)}[c.pick(4)])
	}
	return eventTakesBy(c.place(w), who)
}

// key is one of those that are written and read most, seldom one of any, or of none.
func (c *chooser) key() int {
	if c.pick(16) == 0 {
		return c.pick(26) - 1
	}
	return []int{0, 8, 16}[c.pick(3)] + c.pick(4)
}

// place is that of some message on its way, mostly of one of the first; of some, there is none.
func (c *chooser) place(w worldModel) int {
	if len(w.net) == 0 || c.pick(24) == 0 {
		return len(w.net) - c.pick(2)
	}
	return c.pick(min(len(w.net), 1+c.pick(8)))
}
