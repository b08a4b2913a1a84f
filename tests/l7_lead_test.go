package tests

import (
	"fmt"
	"math"
	"slices"
	"testing"

	"loop.example/kith/impl"
)

// allRightModels are the models of all parts that are ok.
func allRightModels() map[string]partModel {
	parts := map[string]partModel{}
	for what, s := range allRightParts() {
		parts[what] = modelOf(s)
	}
	return parts
}

// emptyLeadLists is somebody who leads, with empty lists in the place of nil.
func emptyLeadLists(l impl.Lead) impl.Lead {
	l.Cache = emptyCacheLists(l.Cache)
	return l
}

func TestLeadOk(t *testing.T) {
	for what, p := range allRightModels() {
		for who, l := range rightLeads(p) {
			if lead, s := l.lead(), p.shard(); !impl.LeadOk(lead, s) || !impl.LeadOk(emptyLeadLists(lead), emptyLists(s)) {
				t.Errorf("%s, %s: %s is ok", what, who, leadText(lead))
			}
		}
	}
}

// TestLeadOkTerms has each term near the edges, Up and not Up.
func TestLeadOkTerms(t *testing.T) {
	for what, p := range allRightModels() {
		for who, l := range rightLeads(p) {
			for _, term := range []int{math.MinInt, -2, -1, 0, 1, p.fence - 1, p.fence, p.fence + 1, p.fence + 2, math.MaxInt} {
				l.term = term
				if got, want := impl.LeadOk(l.lead(), p.shard()), 0 <= term && term <= p.fence; got != want {
					t.Errorf("%s, %s, term %d of %d: ok is %v", what, who, term, p.fence, got)
				}
			}
		}
	}
}

// plainLead is somebody who leads a busy part, and that: his cache has an item as new as its row, two older ones, and one of a key that was never written.
func plainLead(part0 int) (impl.Lead, impl.Shard) {
	p := busyPart(part0)
	l := leadModel{term: 2, up: true}
	l.cache = l.cache.after(puts(item(6+part0, 0, thing(0))), puts(p.itemAt(18+part0, 1)), puts(p.itemAt(10+part0, 1)), puts(p.itemAt(2+part0, 2)))
	return l.lead(), p.shard()
}

// leadChange is a change of one thing of who leads or of his part, and whether he is ok behind it.
type leadChange struct {
	what string
	do   func(l *impl.Lead, s *impl.Shard)
	fine bool
}

// ofLead is a change of who leads alone.
func ofLead(what string, fine bool, do func(l *impl.Lead)) leadChange {
	return leadChange{what, func(l *impl.Lead, _ *impl.Shard) { do(l) }, fine}
}

// ofItem is a change of the item at a place of the cache of who leads, and of the floor of its key with it.
func ofItem(what string, fine bool, place int, do func(it *impl.Item)) leadChange {
	return ofLead(what, fine, func(l *impl.Lead) {
		it := l.Cache.Items[place]
		do(&it)
		withItem(&l.Cache, place, it)
	})
}

// leadCacheChanges are changes of the cache of the plain one who leads.
func leadCacheChanges(part0 int) []leadChange {
	changes := []leadChange{
		ofLead("no cache", false, func(l *impl.Lead) { l.Cache = impl.Cache{} }),
		ofLead("an open cache", true, func(l *impl.Lead) { l.Cache = impl.CacheOpen() }),
		ofLead("a floor less", false, func(l *impl.Lead) { l.Cache.Floors = l.Cache.Floors[:23] }),
		ofLead("a floor more", false, func(l *impl.Lead) { l.Cache.Floors = append(l.Cache.Floors, 0) }),
		ofLead("a floor of -1", false, func(l *impl.Lead) { l.Cache.Floors[23] = -1 }),
		ofLead("a floor of 61", false, func(l *impl.Lead) { l.Cache.Floors[23] = 61 }),
		ofLead("a floor above its row", true, func(l *impl.Lead) { l.Cache.Floors[16+part0] = 60 }),
		ofLead("a floor of the other part", true, func(l *impl.Lead) { l.Cache.Floors[1-part0] = 60 }),
		ofLead("a floor below its item", false, func(l *impl.Lead) { l.Cache.Floors[2+part0]-- }),
		ofLead("an item less", true, func(l *impl.Lead) { l.Cache.Items = l.Cache.Items[:3] }),
		ofLead("an item twice", false, func(l *impl.Lead) { l.Cache.Items[3] = l.Cache.Items[0] }),
		ofLead("five items", false, func(l *impl.Lead) { l.Cache.Items = append(l.Cache.Items, item(part0, 0, thing(0))) }),
		ofItem("the Ver of the row", true, 0, func(it *impl.Item) { it.Ver = 2 }),
		ofItem("a Ver above the row", false, 0, func(it *impl.Item) { it.Ver = 3 }),
		ofItem("a Ver far above the row", false, 0, func(it *impl.Item) { it.Ver = 60 }),
		ofItem("a Ver that there isn't", false, 0, func(it *impl.Item) { it.Ver = 61 }),
		ofItem("a Ver of -1", false, 0, func(it *impl.Item) { it.Ver = -1 }),
		ofItem("a Ver of 0", true, 0, func(it *impl.Item) { it.Ver = 0 }),
		ofItem("the row's Ver of an older one", true, 1, func(it *impl.Item) { it.Ver = 3 }),
		ofItem("above the row of an older one", false, 1, func(it *impl.Item) { it.Ver = 4 }),
		ofItem("above the row of the third", false, 2, func(it *impl.Item) { it.Ver = 4 }),
		ofItem("the first of what was never written", false, 3, func(it *impl.Item) { it.Ver = 1 }),
		ofItem("another number", true, 0, func(it *impl.Item) { it.Val = thing(999) }),
		ofItem("a number that there isn't", false, 0, func(it *impl.Item) { it.Val = thing(-1) }),
		ofItem("other kin", true, 1, func(it *impl.Item) { it.Val = bond(7, 777) }),
		ofItem("kin out of order", false, 1, func(it *impl.Item) { it.Val = bond(7, 7, 6, 777) }),
	}
	for place := range 4 {
		for _, key := range []int{1 - part0, 9 - part0, 17 - part0, 23 - part0} {
			changes = append(changes, ofItem(fmt.Sprintf("the key %d of the other part at %d", key, place), false, place, func(it *impl.Item) { *it = item(key, 0, impl.Val{}) }))
		}
		for _, key := range []int{-1, -2, 24, 25} {
			changes = append(changes, ofItem(fmt.Sprintf("the key %d at %d", key, place), false, place, func(it *impl.Item) { *it = item(key, 0, impl.Val{}) }))
		}
	}
	return changes
}

// leadPartChanges are changes of the part of the plain one who leads, and of what he has beside a cache.
func leadPartChanges() []leadChange {
	ofPart := func(what string, fine bool, do func(s *impl.Shard)) leadChange {
		return leadChange{what, func(_ *impl.Lead, s *impl.Shard) { do(s) }, fine}
	}
	return []leadChange{
		ofLead("nothing", true, func(l *impl.Lead) {}),
		ofLead("not up", true, func(l *impl.Lead) { l.Up = false }),
		ofLead("no lead", false, func(l *impl.Lead) { *l = impl.Lead{} }),
		ofLead("a term below", true, func(l *impl.Lead) { l.Term = 0 }),
		ofLead("a term above", false, func(l *impl.Lead) { l.Term = 3 }),
		ofPart("a fence above", true, func(s *impl.Shard) { s.Fence = 3 }),
		ofPart("the greatest fence", true, func(s *impl.Shard) { s.Fence = math.MaxInt }),
		ofPart("a fence below", false, func(s *impl.Shard) { s.Fence = 1 }),
		ofPart("no part", false, func(s *impl.Shard) { *s = impl.Shard{} }),
		ofPart("the other part", false, func(s *impl.Shard) { *s = busyPart(1 - s.Part).shard() }),
		ofPart("an open part", false, func(s *impl.Shard) { *s = partModel{part: s.Part, fence: 2}.shard() }),
		ofPart("another number of the part", false, func(s *impl.Shard) { s.Part = 1 - s.Part }),
		ofPart("a row less", false, func(s *impl.Shard) { s.Rows = s.Rows[:23] }),
		ofPart("no rows", false, func(s *impl.Shard) { s.Rows = nil }),
		ofPart("no log", false, func(s *impl.Shard) { s.Log = nil }),
	}
}

// TestLeadOkOneOff has one thing changed of who leads, or of his part; where he isn't ok behind it, he answers nothing and sends none.
func TestLeadOkOneOff(t *testing.T) {
	for part0 := range 2 {
		for _, change := range slices.Concat(leadCacheChanges(part0), leadPartChanges()) {
			l, s := plainLead(part0)
			if !impl.LeadOk(l, s) {
				t.Fatalf("%s is ok", leadText(l))
			}
			change.do(&l, &s)
			if got := impl.LeadOk(l, s); got != change.fine {
				t.Errorf("part %d, %s: %s: ok is %v", part0, change.what, leadText(l), got)
			}
			if !change.fine {
				wantNoLead(t, fmt.Sprintf("part %d, %s", part0, change.what), l, s)
			}
		}
	}
}

// wantNoLead tells an answer of who leads that is not nothing and none.
func wantNoLead(t *testing.T, what string, l impl.Lead, s impl.Shard) {
	t.Helper()
	if impl.LeadOk(l, s) {
		t.Errorf("%s: %s is not ok", what, leadText(l))
	}
	part0 := s.Part & 1
	for _, m := range []impl.Msg{
		plainMsgs(part0)[1], plainMsgs(part0)[3], plainMsgs(part0)[5], plainMsgs(part0)[7], plainMsgs(part0)[9], plainMsgs(part0)[10], plainMsgs(1 - part0)[3], {},
	} {
		gotL, gotS, sent := impl.LeadTake(l, s, m)
		if !sameLead(gotL, impl.Lead{}) || !samePart(gotS, impl.Shard{}) || len(sent) != 0 {
			t.Errorf("%s, %q: got %s, %s, %s", what, impl.MsgText(m), leadText(gotL), partText(gotS), msgLines(sent))
		}
	}
	if tell, again := impl.LeadTell(l, s), impl.LeadAgain(l, s); len(tell) != 0 || len(again) != 0 {
		t.Errorf("%s: got %s, %s", what, msgLines(tell), msgLines(again))
	}
}

// TestLeadOfWrong has parts and caches that are not ok.
func TestLeadOfWrong(t *testing.T) {
	for what, s := range wrongParts() {
		open := leadModel{term: max(s.Fence, 0), up: true}.lead()
		wantNoLead(t, what, open, s)
		open.Term = 0
		wantNoLead(t, what, open, s)
		plain, _ := plainLead(s.Part & 1)
		wantNoLead(t, what, plain, s)
	}
	for what, c := range wrongCaches() {
		for _, p := range []partModel{{}, {part: 1}, busyPart(0), busyPart(1)} {
			wantNoLead(t, what, impl.Lead{Term: p.fence, Up: true, Cache: c}, p.shard())
		}
	}
}

func TestLeadRise(t *testing.T) {
	came := map[int]int{}
	for what, p := range allRightModels() {
		if p.fence == math.MaxInt {
			continue
		}
		l, s, sent := impl.LeadRise(p.shard())
		wantL, wantP, want := p.rise()
		wantLead(t, what, l, s, sent, wantL, wantP, want)
		came[len(sent)]++
		if l.Term != p.fence+1 || s.Fence != p.fence+1 || !l.Up || len(l.Cache.Items) != 0 {
			t.Errorf("%s: got %s, %s", what, leadText(l), partText(s))
		}
	}
	for _, many := range []int{0, 1, 2, 3} {
		if came[many] == 0 {
			t.Errorf("no part with %d other ends: %v", many, came)
		}
	}
	for what, s := range wrongParts() {
		l, got, sent := impl.LeadRise(s)
		if !sameLead(l, impl.Lead{}) || !samePart(got, impl.Shard{}) || len(sent) != 0 {
			t.Errorf("%s: got %s, %s, %s", what, leadText(l), partText(got), msgLines(sent))
		}
	}
}

// TestLeadRiseLast has the greatest Fence that there is: no term is above that, so it stays, and who rises is ok.
func TestLeadRiseLast(t *testing.T) {
	for _, fence := range []int{math.MaxInt - 1, math.MaxInt} {
		p := busyPart(0)
		p.fence = fence
		l, s, sent := impl.LeadRise(p.shard())
		p.fence = math.MaxInt
		wantLead(t, fmt.Sprint("fence ", fence), l, s, sent, leadModel{term: math.MaxInt, up: true}, p, p.ends())
	}
}

// TestLeadRiseEnds has other ends that go to both parts, in the order of the intents.
func TestLeadRiseEnds(t *testing.T) {
	p := partModel{}.after(fences(4), writes(4, req(0, 0, 1), bind(2, 4, 5)), writes(4, req(1, 0, 1), part(6, 1)), writes(4, req(0, 0, 2), bind(0, 7, 1000)), clears(4, 1), writes(4, req(0, 0, 3), part(0, 2)))
	l, s, sent := impl.LeadRise(p.shard())
	want := "back 0 1 0 2 3 6 1 0\nback 0 1 0 3 2 0 7 1000\nback 0 0 0 4 3 0 2 0"
	if msgLines(sent) != want || l.Term != 5 || s.Fence != 5 {
		t.Errorf("got %s, %s, %s", leadText(l), partText(s), msgLines(sent))
	}
	if got := msgLines(impl.LeadAgain(l, s)); got != want {
		t.Errorf("again: got %s", got)
	}
	// Whoever is put off sends them too: they were written.
	if got := msgLines(impl.LeadAgain(leadModel{term: 4, up: true}.lead(), s)); got != want {
		t.Errorf("put off: got %s", got)
	}
	l.Up = false
	if got := impl.LeadAgain(l, s); len(got) != 0 {
		t.Errorf("not up: got %s", msgLines(got))
	}
}

// TestLeadTellAndAgain has all who lead, of all parts.
func TestLeadTellAndAgain(t *testing.T) {
	came := map[string]int{}
	for what, p := range allRightModels() {
		for who, l := range rightLeads(p) {
			tell, again := impl.LeadTell(l.lead(), p.shard()), impl.LeadAgain(l.lead(), p.shard())
			if want := l.tell(p); !sameMsgs(tell, want) {
				t.Errorf("%s, %s: got\n%s\nwant\n%s", what, who, msgLines(tell), msgLines(want))
			}
			if want := l.again(p); !sameMsgs(again, want) {
				t.Errorf("%s, %s: got\n%s\nwant\n%s", what, who, msgLines(again), msgLines(want))
			}
			for _, m := range slices.Concat(tell, again) {
				if !impl.MsgOk(m) {
					t.Errorf("%s, %s: %+v is not ok", what, who, m)
				}
			}
			came[fmt.Sprint("tell ", len(tell) > 0, l.up)]++
			came[fmt.Sprint("again ", len(again) > 0, l.up)]++
		}
	}
	for _, what := range []string{"tell true true", "tell false true", "tell false false", "again true true", "again false true", "again false false"} {
		if came[what] == 0 {
			t.Errorf("no %s: %v", what, came)
		}
	}
}

// TestLeadTellTold has the messages of one part written out: of the keys that were written alone, of each tier all, in order.
func TestLeadTellTold(t *testing.T) {
	p := partModel{part: 1}.after(writes(0, req(0, 0, 1), set(7, 3)), writes(0, req(0, 0, 2), bind(1, 3, 5)), backs(0, 1, bind(2, 3, 5)), writes(0, req(1, 0, 1), set(7, 4)))
	want := "gone 0 1 0 0 7 2\ngone 0 1 0 0 11 1\ngone 0 1 0 0 17 1\ngone 1 1 0 0 7 2\ngone 1 1 0 0 11 1\ngone 1 1 0 0 17 1"
	for _, l := range []leadModel{{up: true}, {up: true, cache: allFloors(60)}} {
		if got := msgLines(impl.LeadTell(l.lead(), p.shard())); got != want {
			t.Errorf("got %s", got)
		}
	}
	if got := impl.LeadTell(leadModel{}.lead(), p.shard()); len(got) != 0 {
		t.Errorf("not up: got %s", msgLines(got))
	}
	if got := impl.LeadTell(leadModel{term: 1, up: true}.lead(), p.shard()); len(got) != 0 {
		t.Errorf("of a later term: got %s", msgLines(got))
	}
	if got := impl.LeadTell(leadModel{up: true}.lead(), impl.ShardOpen(1)); len(got) != 0 {
		t.Errorf("nothing was written: got %s", msgLines(got))
	}
}
