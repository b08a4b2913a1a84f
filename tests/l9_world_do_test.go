package tests

import (
	"fmt"
	"math"
	"slices"
	"strings"
	"testing"

	"loop.example/kith/impl"
)

// playedWorld is a world in which one thing happens behind the other; each answer is held against the model too.
type playedWorld struct {
	t *testing.T
	m worldModel
	w impl.World
}

// played is a world as a model has it.
func played(t *testing.T, m worldModel) *playedWorld {
	return &playedWorld{t: t, m: m, w: m.world()}
}

// does tells an event behind which other answers are told, or other messages sent, than these.
func (p *playedWorld) does(e impl.Event, want ...string) {
	p.t.Helper()
	before := p.w
	p.w, p.m = wantWorld(p.t, "played", p.w, p.m, e)
	kept := slices.Clone(before.Net)
	if (e.Kind == 3 || e.Kind == 4) && among(e.A, 0, len(kept)-1) {
		kept = slices.Delete(kept, e.A, e.A+1)
	}
	if len(p.w.Net) < len(kept) || !sameMsgs(p.w.Net[:len(kept)], kept) {
		p.t.Fatalf("%+v: on their way are\n%s\nand were\n%s", e, msgLines(p.w.Net), msgLines(before.Net))
	}
	if len(p.w.Told) < len(before.Told) || !slices.EqualFunc(p.w.Told[:len(before.Told)], before.Told, sameTold) {
		p.t.Fatalf("%+v: told are %v, and were %v", e, p.w.Told, before.Told)
	}
	got := tierAnswer{sent: p.w.Net[len(kept):], told: p.w.Told[len(before.Told):]}.String()
	if got != strings.Join(want, "\n") {
		p.t.Fatalf("%+v: got\n%s\nwant\n%s", e, got, strings.Join(want, "\n"))
	}
}

// stays tells an event behind which anything is another.
func (p *playedWorld) stays(events ...impl.Event) {
	p.t.Helper()
	for _, e := range events {
		if got := impl.WorldDo(p.w, e); !sameWorld(got, p.w) {
			p.t.Fatalf("%+v: got\n%s\nwant\n%s", e, worldText(got), worldText(p.w))
		}
	}
}

// all has all messages be taken, the first one first, by the newest of those who lead.
func (p *playedWorld) all(want ...string) {
	p.t.Helper()
	before := len(p.w.Told)
	for range 100 {
		if len(p.w.Net) > 0 {
			p.w, p.m = wantWorld(p.t, "all", p.w, p.m, eventTakes(0))
		}
	}
	if got := (tierAnswer{told: p.w.Told[before:]}).String(); len(p.w.Net) > 0 || got != strings.Join(want, "\n") {
		p.t.Fatalf("got\n%s\nwant\n%s", got, strings.Join(want, "\n"))
	}
}

// leads tells of a part other terms of those who lead it than these; of one who is not up, the term stands below 0.
func (p *playedWorld) leads(which int, want ...int) {
	p.t.Helper()
	var got []int
	for _, l := range p.w.Leads[which] {
		if l.Up {
			got = append(got, l.Term)
		} else {
			got = append(got, -l.Term)
		}
	}
	if !slices.Equal(got, want) {
		p.t.Fatalf("the part %d is led by %v, not %v", which, got, want)
	}
}

// nobody are the places behind both ends of a list, and others that are none.
func nobody(many int) []int {
	return []int{-1, many, -2, many + 1, math.MinInt, math.MaxInt}
}

func TestWorldReadsAndWrites(t *testing.T) {
	p := played(t, openWorld())
	p.does(eventReads(0, 18), "join 0 0 0 0")
	p.does(eventWrites(1, bind(2, 3, 5)), "write 1 0 0 1 2 2 3 5")
	// Who waits is asked for nothing else.
	p.stays(eventReads(0, 2), eventReads(1, 2), eventWrites(0, set(2, 5)), eventWrites(1, set(2, 5)))
	p.all("tier 1 wrote 18 1 (3@5) code 0", "tier 0 has 18 1 (3@5) code 0")
	p.does(eventReads(0, 18), "tier 0 has 18 1 (3@5) code 0")
	p.does(eventWrites(0, set(7, 9)), "write 0 1 0 3 1 7 0 9")
	p.does(eventReads(1, 23), "join 1 1 0 0")
	for _, tier := range nobody(2) {
		p.stays(eventReads(tier, 18), eventWrites(tier, set(2, 5)))
	}
	q := played(t, openWorld())
	for tier := range 2 {
		for _, key := range nobody(24) {
			q.stays(eventReads(tier, key))
		}
		for _, op := range wrongOps() {
			q.stays(eventWrites(tier, op))
		}
	}
	// What an event of another kind would have is not asked.
	e := eventReads(1, 0)
	e.N, e.Op = 1, set(9, -1)
	q.does(e, "join 1 0 0 0")
	e = eventWrites(0, part(0, 1))
	e.B, e.N = 77, 1
	q.does(e, "write 0 0 0 1 3 0 1 0")
}

// TestWorldLosesAndTwice has each message, and places of none.
func TestWorldLosesAndTwice(t *testing.T) {
	for _, m := range []worldModel{plainWorld(), plainWorld().withNet(1), plainWorld().withNet(39), plainWorld().withNet(40)} {
		for place, msg := range m.net {
			p := played(t, m)
			p.does(eventLoses(place))
			if len(p.w.Net) != len(m.net)-1 {
				t.Errorf("%d messages of %d", len(p.w.Net), len(m.net))
			}
			p = played(t, m)
			if len(m.net) == 40 {
				p.does(eventTwice(place))
				p.stays(eventTwice(place))
				continue
			}
			p.does(eventTwice(place), msgTextTold(msg))
		}
		for _, place := range nobody(len(m.net)) {
			played(t, m).stays(eventLoses(place), eventTwice(place), eventTakes(place), eventCuts(place, 0), eventTakesBy(place, 1))
		}
	}
	for _, place := range append(nobody(0), 0, 1) {
		played(t, openWorld()).stays(eventLoses(place), eventTwice(place), eventTakes(place), eventCuts(place, 0))
	}
	// Lost and sent once more, in order.
	p := played(t, openWorld())
	p.does(eventReads(0, 18), "join 0 0 0 0")
	p.does(eventReads(1, 11), "join 1 1 0 0")
	p.does(eventTwice(0), "join 0 0 0 0")
	p.does(eventTwice(1), "join 1 1 0 0")
	p.does(eventLoses(0))
	p.does(eventLoses(2))
	if got := msgLines(p.w.Net); got != "join 1 1 0 0\njoin 0 0 0 0" {
		t.Errorf("got %s", got)
	}
}

func TestWorldRetriesAndFalls(t *testing.T) {
	p := played(t, openWorld())
	p.stays(eventRetries(0), eventRetries(1))
	p.does(eventReads(0, 18), "join 0 0 0 0")
	p.does(eventWrites(1, set(3, 7)), "write 1 1 0 1 1 3 0 7")
	p.does(eventRetries(0), "join 0 0 0 0")
	p.does(eventRetries(1), "write 1 1 0 1 1 3 0 7")
	for _, tier := range nobody(2) {
		p.stays(eventRetries(tier), eventFalls(tier))
	}
	p.does(eventFalls(1))
	if tier := p.w.Tiers[1]; tier.Inc != 1 || tier.Busy || tier.Seq != 0 || p.w.Tiers[0].Inc != 0 || !p.w.Tiers[0].Busy {
		t.Errorf("got %s", worldText(p.w))
	}
	p.stays(eventRetries(1))
	p.all("tier 0 has 18 0 () code 0")
	// What was told stays, and what was written: the tier forgets alone.
	p.does(eventFalls(0))
	p.does(eventReads(0, 3), "join 0 1 1 0")
	p.all("tier 0 has 3 1 7 code 0")
	if len(p.w.Told) != 2 {
		t.Errorf("got %v", p.w.Told)
	}
	// A retry tells, where the cache has by now what is waited for.
	m := openWorld()
	m.tiers[1] = joinedTier()
	m.tiers[1].waits, m.tiers[1].key = "read", 18
	q := played(t, m)
	q.does(eventRetries(1), "tier 1 has 18 7 (3@5) code 0")
}

// TestWorldLastLives has tiers at the bounds of their lives and of their requests.
func TestWorldLastLives(t *testing.T) {
	for _, num := range []int{0, 1, 998, 999, 1000} {
		m := openWorld()
		m.tiers[1].inc = num
		p := played(t, m)
		if num == 1000 {
			p.stays(eventFalls(1))
		} else {
			p.does(eventFalls(1))
		}
		if got := p.w.Tiers[1].Inc; got != min(num+1, 1000) {
			t.Errorf("life %d: then %d", num, got)
		}
		p.does(eventReads(1, 18), fmt.Sprintf("join 1 0 %d 0", min(num+1, 1000)))
		p.all("tier 1 has 18 0 () code 0")
		m = openWorld()
		m.tiers[0].seq, m.tiers[1].seq = num, num
		p = played(t, m)
		if num == 1000 {
			p.stays(eventReads(0, 18), eventWrites(1, set(2, 5)))
			continue
		}
		p.does(eventReads(0, 18), "join 0 0 0 0")
		p.does(eventWrites(1, set(2, 5)), fmt.Sprintf("write 1 0 0 %d 1 2 0 5", num+1))
		p.all("tier 1 wrote 2 1 5 code 0", "tier 0 has 18 0 () code 0")
		p.does(eventRetries(0))
	}
}

func TestWorldRises(t *testing.T) {
	m := openWorld()
	m.leads = [2][]leadModel{}
	p := played(t, m)
	p.leads(0)
	p.does(eventRises(0))
	p.leads(0, 2)
	p.leads(1)
	p.does(eventRises(0))
	p.leads(0, 3, 2)
	p.does(eventRises(0))
	p.leads(0, 4, 3, 2)
	// The last one is gone.
	p.does(eventRises(0))
	p.leads(0, 5, 4, 3)
	p.does(eventFells(0, 1))
	p.does(eventRises(0))
	p.leads(0, 6, 5, -4)
	p.does(eventRises(1))
	p.leads(1, 2)
	if p.w.Shards[0].Fence != 6 || p.w.Shards[1].Fence != 2 {
		t.Errorf("got %s", worldText(p.w))
	}
	for _, which := range nobody(2) {
		p.stays(eventRises(which))
	}
	e := eventRises(1)
	e.B, e.N, e.Op = 77, 1, set(9, -1)
	p.does(e)
	p.leads(1, 3, 2)
}

// TestWorldRisesEnds has intents of a part: who rises sends them, as far as there is room.
func TestWorldRisesEnds(t *testing.T) {
	ends := []string{"back 0 1 0 1 2 2 3 5", "back 0 0 0 2 2 4 6 1000", "back 0 1 0 3 3 2 1 0"}
	for many := range 4 {
		for _, net := range []int{0, 1, 36, 37, 38, 39, 40} {
			m := openWorld().withNet(net)
			for place, op := range []impl.Op{bind(2, 3, 5), bind(4, 6, 1000), part(2, 1)} {
				if place < many {
					m.parts[0] = m.parts[0].after(writes(1, req(0, 0, place), op))
				}
			}
			sent := ends[:min(many, 40-net)]
			p := played(t, m)
			p.does(eventRises(0), sent...)
			p.leads(0, 2, 1)
			// Whoever leads sends them once more: who was put off too.
			for who := range 2 {
				q := played(t, m.do(eventRises(0)).withNet(net))
				q.does(eventAgain(0, who), sent...)
				q.does(eventFells(0, who))
				q.stays(eventAgain(0, who))
			}
			p.does(eventRises(1))
			p.does(eventAgain(1, 0))
			p.does(eventAgain(1, 1))
		}
	}
}

// TestWorldRisesLast has the greatest Fence: behind that there is none, and nobody rises ahead of him who has it.
func TestWorldRisesLast(t *testing.T) {
	for which := range 2 {
		m := plainWorld()
		m.parts[which].fence = math.MaxInt - 1
		p := played(t, m)
		p.does(eventRises(which), strings.Split(msgLines(m.parts[which].ends()), "\n")...)
		if p.w.Shards[which].Fence != math.MaxInt || p.w.Leads[which][0].Term != math.MaxInt {
			t.Errorf("got %s", worldText(p.w))
		}
		p.stays(eventRises(which))
		p.does(eventFells(which, 0))
		p.stays(eventRises(which))
		// Nobody has that term yet.
		m.parts[which].fence = math.MaxInt
		p = played(t, m)
		p.does(eventRises(which), strings.Split(msgLines(m.parts[which].ends()), "\n")...)
		p.stays(eventRises(which))
	}
}

func TestWorldFells(t *testing.T) {
	for which := range 2 {
		m := openWorld().after(eventRises(which), eventRises(which), eventRises(which))
		p := played(t, m)
		p.leads(which, 4, 3, 2)
		p.does(eventFells(which, 1))
		p.leads(which, 4, -3, 2)
		p.does(eventFells(which, 0))
		p.leads(which, -4, -3, 2)
		p.stays(eventFells(which, 0), eventFells(which, 1))
		p.does(eventFells(which, 2))
		p.leads(which, -4, -3, -2)
		p.stays(eventFells(which, 2))
		for _, who := range nobody(3) {
			p.stays(eventFells(which, who))
		}
		p.leads(1-which, 1)
		p.stays(eventFells(1-which, 1))
	}
	for _, which := range nobody(2) {
		for who := range 3 {
			played(t, plainWorld()).stays(eventFells(which, who))
		}
	}
	// What he leads stays as it is, but for him.
	p := played(t, plainWorld())
	before := p.w
	p.does(eventFells(0, 0))
	if !samePart(p.w.Shards[0], before.Shards[0]) || !sameCache(p.w.Leads[0][0].Cache, before.Leads[0][0].Cache) || p.w.Leads[0][0].Term != 2 {
		t.Errorf("got %s", worldText(p.w))
	}
}

// TestWorldTells has who leads tell all that was written, as far as there is room.
func TestWorldTells(t *testing.T) {
	m := openWorld()
	m.parts[0] = m.parts[0].after(writes(1, req(0, 0, 1), set(2, 17)), writes(1, req(0, 0, 2), set(6, 3)), writes(1, req(0, 0, 3), set(2, 18)))
	all := []string{"gone 0 0 0 0 2 2", "gone 0 0 0 0 6 1", "gone 1 0 0 0 2 2", "gone 1 0 0 0 6 1"}
	for _, net := range []int{0, 1, 35, 36, 37, 38, 39, 40} {
		p := played(t, m.withNet(net))
		p.does(eventTells(0, 0), all[:min(4, 40-net)]...)
		p.does(eventTells(1, 0))
	}
	p := played(t, m)
	p.does(eventRises(0))
	p.does(eventTells(0, 1), all...)
	p.does(eventFells(0, 1))
	p.stays(eventTells(0, 1), eventAgain(0, 1), eventAgain(0, 0))
	p.does(eventTells(0, 0), all...)
	for _, who := range nobody(2) {
		p.stays(eventTells(0, who), eventAgain(0, who))
	}
	for _, which := range nobody(2) {
		p.stays(eventTells(which, 0), eventAgain(which, 0), eventTells(which, 1), eventAgain(which, 1))
	}
	q := played(t, plainWorld())
	for which, many := range []int{3, 2} {
		for _, who := range nobody(many) {
			q.stays(eventTells(which, who), eventAgain(which, who))
		}
	}
	q.stays(eventTells(0, 2), eventAgain(0, 2))
}

func TestWorldDrops(t *testing.T) {
	m := openWorld()
	m.tiers[1] = joinedTier()
	p := played(t, m)
	before := p.w.Tiers[1]
	p.does(eventDrops(1, 18))
	if tier := p.w.Tiers[1]; len(tier.Cache.Items) != 3 || !slices.Equal(tier.Cache.Floors, before.Cache.Floors) || tier.Seq != before.Seq {
		t.Errorf("got %s", tierText(tier))
	}
	p.stays(eventDrops(1, 18))
	// It is not there, but of whoever reads it it is asked for again.
	p.does(eventReads(1, 18), "fill 1 0 7 4 18 0")
	for key := -2; key < 26; key++ {
		if key != 2 && key != 7 && key != 11 {
			p.stays(eventDrops(1, key))
		}
		p.stays(eventDrops(0, key), eventDrops(-1, key), eventDrops(2, key), eventDrops(math.MinInt, key), eventDrops(math.MaxInt, key))
	}
	for left, key := range []int{11, 2, 7} {
		p.does(eventDrops(1, key))
		if got := len(p.w.Tiers[1].Cache.Items); got != 2-left {
			t.Errorf("%d items without %d", got, key)
		}
	}
	p.stays(eventDrops(1, math.MinInt), eventDrops(1, math.MaxInt))
}

// TestWorldOtherKinds has events of no kind, with all that the others have.
func TestWorldOtherKinds(t *testing.T) {
	for what, m := range rightWorlds() {
		p := played(t, m)
		for _, kind := range []int{-1, 0, 13, 14, -3, -12, 99, math.MinInt, math.MaxInt} {
			for a := -1; a <= 2; a++ {
				for b := -1; b <= 2; b++ {
					e := impl.Event{Kind: kind, A: a, B: b, N: 1, Op: set(2, 5)}
					if got := impl.WorldDo(p.w, e); !sameWorld(got, p.w) {
						t.Fatalf("%s, %+v: got\n%s", what, e, worldText(got))
					}
				}
			}
		}
	}
}

// allEvents are events of all kinds, to all that there are in a world, and to those beside them.
func allEvents(m worldModel) []impl.Event {
	var events []impl.Event
	for id := -1; id <= 2; id++ {
		for _, key := range []int{-1, 0, 2, 7, 9, 11, 18, 20, 23, 24} {
			events = append(events, eventReads(id, key), eventDrops(id, key))
		}
		for _, op := range []impl.Op{set(2, 5), set(7, 0), bind(2, 3, 5), bind(4, 6, 9), part(3, 2), bind(2, 2, 5), {}} {
			events = append(events, eventWrites(id, op))
		}
		events = append(events, eventRetries(id), eventFalls(id), eventRises(id))
		for who := -1; who <= 3; who++ {
			events = append(events, eventFells(id, who), eventTells(id, who), eventAgain(id, who))
		}
	}
	for place := -1; place <= len(m.net); place++ {
		events = append(events, eventLoses(place), eventTwice(place))
		for who := -1; who <= 3; who++ {
			for n := range 3 {
				events = append(events, impl.Event{Kind: 3, A: place, B: who, N: n})
			}
		}
	}
	return events
}

// TestWorldEach has each event of each world that is ok.
func TestWorldEach(t *testing.T) {
	came := map[string]int{}
	for what, m := range rightWorlds() {
		w := m.world()
		for _, e := range allEvents(m) {
			got, _ := wantWorld(t, what, w, m, e)
			sent, told := len(got.Net)-len(w.Net), len(got.Told)-len(w.Told)
			came[fmt.Sprintf("%d sent %d told %d", e.Kind, sent, told)]++
			if !sameWorld(got, w) {
				came[fmt.Sprintf("%d", e.Kind)]++
			}
		}
	}
	for _, what := range []string{"1 sent 1 told 0", "1 sent 0 told 1", "2 sent 1 told 0", "3 sent -1 told 0", "3 sent 0 told 0", "3 sent 1 told 0", "3 sent 2 told 0", "3 sent -1 told 1", "4 sent -1 told 0", "5 sent 1 told 0", "5 sent 0 told 0",
		"6 sent 1 told 0", "7", "8", "9 sent 0 told 0", "9 sent 2 told 0", "9 sent 3 told 0", "10 sent 0 told 0", "10 sent 1 told 0", "11 sent 2 told 0", "11 sent 3 told 0", "12"} {
		if came[what] == 0 {
			t.Errorf("no %s: %v", what, came)
		}
	}
}

// TestWorldExample is the document's example of a script, event by event.
func TestWorldExample(t *testing.T) {
	p := played(t, openWorld())
	p.does(eventWrites(0, set(2, 7)), "write 0 0 0 1 1 2 0 7")
	p.all("tier 0 wrote 2 1 7 code 0")
	p.does(eventWrites(1, bind(2, 3, 5)), "write 1 0 0 1 2 2 3 5")
	p.does(eventTwice(0), "write 1 0 0 1 2 2 3 5")
	p.does(eventCuts(0, 0))
	if got := msgLines(p.w.Net); got != "write 1 0 0 1 2 2 3 5" {
		t.Errorf("got %s", got)
	}
	p.does(eventRises(0), "back 0 1 0 1 2 2 3 5")
	p.all("tier 1 wrote 18 1 (3@5) code 0")
	p.stays(eventRetries(1))
	p.all()
	p.does(eventReads(0, 11), "join 0 1 0 0")
	p.all("tier 0 has 11 1 (2@5) code 0")
	p.does(eventReads(1, 18), "join 1 0 0 0")
	p.all("tier 1 has 18 1 (3@5) code 0")
	p.does(eventWrites(0, part(2, 3)), "write 0 0 0 3 3 2 3 0")
	p.does(eventTakes(0), "wrote 0 0 0 3 0 18 2 ()", "news 1 0 0 0 0 18 2 ()", "back 0 1 0 2 3 2 3 0")
	if got := partText(p.w.Shards[0]) + "\n" + partText(p.w.Shards[1]); got != "0/2/2 2:1:7 18:2:() log 2 18 18 done 0.0.3:18:2:0 1.0.1:18:1:0 out 2:3.2.3.0 in\n1/1/0 11:1:(2@5) log 11 done out in 2.3:1" {
		t.Errorf("got %s", got)
	}
	p.all("tier 0 wrote 18 2 () code 0")
	p.does(eventFalls(1))
	p.does(eventReads(1, 18), "join 1 0 1 0")
	p.all("tier 1 has 18 2 () code 0")
	if got := partText(p.w.Shards[1]); !strings.HasPrefix(got, "1/1/0 11:2:() log") {
		t.Errorf("got %s", got)
	}
}
