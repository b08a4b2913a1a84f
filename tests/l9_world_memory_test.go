package tests

import (
	"cmp"
	"fmt"
	"reflect"
	"slices"
	"testing"

	"loop.example/kith/impl"
)

// span is the memory of one list, spare room included.
type span struct {
	from uintptr
	to   uintptr
	what string
}

// spansOf are the memory of all lists of a value, those in its spare room too.
func spansOf(v reflect.Value) []span {
	var spans []span
	eachList(v, func(list reflect.Value) {
		if size := uintptr(list.Cap()) * list.Type().Elem().Size(); size > 0 {
			spans = append(spans, span{list.Pointer(), list.Pointer() + size, list.Type().String()})
		}
	})
	slices.SortFunc(spans, func(a span, b span) int { return cmp.Compare(a.from, b.from) })
	return spans
}

// eachList gives all lists of a value, the outer ones first.
func eachList(v reflect.Value, give func(list reflect.Value)) {
	switch v.Kind() {
	case reflect.Slice:
		give(v)
		all := v.Slice(0, v.Cap())
		for place := range all.Len() {
			eachList(all.Index(place), give)
		}
	case reflect.Struct:
		for place := range v.NumField() {
			eachList(v.Field(place), give)
		}
	}
}

// shared is what two lists of a value share memory, if any do.
func shared(spans []span) string {
	for place := 1; place < len(spans); place++ {
		if spans[place].from < spans[place-1].to {
			return spans[place-1].what + " and " + spans[place].what
		}
	}
	return ""
}

// sharedWith is what a list of one value shares memory with a list of another one, if any does.
func sharedWith(spans []span, others []span) string {
	for _, other := range others {
		for _, s := range spans {
			if s.from < other.to && other.from < s.to {
				return s.what + " and " + other.what
			}
		}
	}
	return ""
}

// wholeValue is a copy of a value, whose lists have their spare room as elements.
func wholeValue(v reflect.Value) reflect.Value {
	whole := reflect.New(v.Type()).Elem()
	whole.Set(v)
	switch v.Kind() {
	case reflect.Slice:
		whole.Set(reflect.MakeSlice(v.Type(), v.Cap(), v.Cap()))
		all := v.Slice(0, v.Cap())
		for place := range all.Len() {
			whole.Index(place).Set(wholeValue(all.Index(place)))
		}
	case reflect.Struct:
		for place := range v.NumField() {
			whole.Field(place).Set(wholeValue(v.Field(place)))
		}
	}
	return whole
}

// roomyValue is a copy of a value, all of memory of its own, whose lists have room behind their ends, in which something stands already.
func roomyValue(v reflect.Value) reflect.Value {
	room := reflect.New(v.Type()).Elem()
	room.Set(v)
	switch v.Kind() {
	case reflect.Slice:
		room.Set(reflect.MakeSlice(v.Type(), v.Len()+3, v.Len()+3))
		for place := range v.Len() {
			room.Index(place).Set(roomyValue(v.Index(place)))
		}
		for place := range 3 {
			room.Index(v.Len() + place).Set(junkValue(v.Type().Elem()))
		}
		room.Set(room.Slice(0, v.Len()))
	case reflect.Struct:
		for place := range v.NumField() {
			room.Field(place).Set(roomyValue(v.Field(place)))
		}
	}
	return room
}

// junkValue is a value none of whose parts is nothing.
func junkValue(of reflect.Type) reflect.Value {
	junk := reflect.New(of).Elem()
	switch of.Kind() {
	case reflect.Int:
		junk.SetInt(77)
	case reflect.Bool:
		junk.SetBool(true)
	case reflect.Slice:
		junk.Set(reflect.MakeSlice(of, 1, 1))
		junk.Index(0).Set(junkValue(of.Elem()))
	case reflect.Struct:
		for place := range of.NumField() {
			junk.Field(place).Set(junkValue(of.Field(place).Type))
		}
	}
	return junk
}

func roomyWorld(w impl.World) impl.World {
	return roomyValue(reflect.ValueOf(w)).Interface().(impl.World)
}

// worldCall is a call that is given worlds and events; it answers something.
type worldCall struct {
	what string
	do   func(w impl.World, events []impl.Event) any
}

// worldCalls are all that answer more than whether it is so.
func worldCalls() []worldCall {
	return []worldCall{
		{"do", func(w impl.World, events []impl.Event) any { return impl.WorldDo(w, events[0]) }},
		{"play", func(w impl.World, events []impl.Event) any { return impl.WorldPlay(w, events) }},
		{"play none", func(w impl.World, events []impl.Event) any { return impl.WorldPlay(w, events[:0]) }},
		{"graph", func(w impl.World, _ []impl.Event) any { return impl.WorldGraph(w) }},
	}
}

// wantCallApart tells a call that writes into its arguments, or whose answer shares memory with one of them, with itself or with another answer, or is another one once more.
func wantCallApart(t *testing.T, what string, args reflect.Value, do func() any) {
	t.Helper()
	before := wholeValue(args).Interface()
	first := do()
	second := do()
	if !reflect.DeepEqual(wholeValue(args).Interface(), before) {
		t.Fatalf("%s: an argument is written into", what)
	}
	spans := spansOf(reflect.ValueOf(first))
	if both := shared(spans); both != "" {
		t.Fatalf("%s: two lists of the answer share memory: %s", what, both)
	}
	if both := sharedWith(spans, spansOf(args)); both != "" {
		t.Fatalf("%s: the answer shares memory with an argument: %s", what, both)
	}
	if both := sharedWith(spans, spansOf(reflect.ValueOf(second))); both != "" {
		t.Fatalf("%s: two answers share memory: %s", what, both)
	}
	if !reflect.DeepEqual(first, second) {
		t.Fatalf("%s: another answer once more", what)
	}
}

// wantWorldApart is the same of a call that is given a world and events.
func wantWorldApart(t *testing.T, what string, call worldCall, w impl.World, events []impl.Event) {
	t.Helper()
	args := reflect.ValueOf(struct {
		W      impl.World
		Events []impl.Event
	}{w, events})
	wantCallApart(t, what, args, func() any { return call.do(w, events) })
}

// memoryEvents are events of all kinds that do something, and some that don't.
func memoryEvents(m worldModel) []impl.Event {
	events := slices.Concat(someEvents(), []impl.Event{eventReads(0, 11), eventReads(1, 18), eventReads(1, 20), eventWrites(0, part(2, 3)), eventTells(0, 1), eventAgain(0, 1), eventLoses(20), eventTwice(7), eventTwice(20), eventTwice(-1), eventFells(0, 9)})
	for place := range min(len(m.net), 21) {
		events = append(events, eventTakes(place), eventTwice(place))
	}
	return append(events, eventTakesBy(2, 1), eventCuts(12, 0), eventCuts(20, 0))
}

func TestWorldMemory(t *testing.T) {
	c := chooser(55)
	for what, m := range rightWorlds() {
		w := roomyWorld(m.world())
		for _, e := range memoryEvents(m) {
			events := []impl.Event{e}
			for next := m.do(e); len(events) < 9; next = next.do(events[len(events)-1]) {
				events = append(events, c.event(next, false))
			}
			for _, call := range worldCalls() {
				wantWorldApart(t, fmt.Sprintf("%s, %s, %+v", what, call.what, e), call, w, behindEnd(events, impl.Event{Kind: 9}))
			}
		}
	}
}

// TestWorldMemoryOfRuns has long plays, behind which lists have grown and shrunk.
func TestWorldMemoryOfRuns(t *testing.T) {
	c := chooser(56)
	for run := range 20 {
		m := openWorld()
		var events []impl.Event
		for range 120 {
			e := c.event(m, run%4 == 0)
			events, m = append(events, e), m.do(e)
		}
		for _, many := range []int{40, 80, 120} {
			wantWorldApart(t, fmt.Sprintf("run %d, %d events", run, many), worldCalls()[1], roomyWorld(impl.WorldOpen()), events[:many])
		}
		wantWorldApart(t, fmt.Sprintf("run %d, then", run), worldCalls()[0], impl.WorldPlay(impl.WorldOpen(), events), events)
	}
}

// TestWorldMemoryOfOne has worlds whose lists share their memory: the answers share none.
func TestWorldMemoryOfOne(t *testing.T) {
	w := roomyWorld(plainWorld().world())
	kin := w.Shards[0].Rows[18].Val.Kin
	cache := w.Leads[0][0].Cache
	for place, it := range cache.Items {
		cache.Items[place].Val.Kin = w.Shards[0].Rows[it.Key].Val.Kin
	}
	for place := range w.Leads[0] {
		w.Leads[0][place].Cache = cache
	}
	for place := range w.Leads[1] {
		w.Leads[1][place].Cache = impl.Cache{Floors: cache.Floors}
	}
	for place, m := range w.Net {
		switch m.Kind {
		case 2, 5:
			w.Net[place].Item.Val.Kin = kin
		case 8:
			w.Net[place].Vers = w.Net[7].Vers
		}
	}
	for place := range 20 {
		w.Told = append(w.Told, impl.Told{Tier: place % 2, Item: item(18, place, impl.Val{Kin: kin})})
	}
	w.Tiers[1].Cache = w.Tiers[0].Cache
	if !impl.WorldOk(w) {
		t.Fatalf("%s\nis ok", worldText(w))
	}
	for _, e := range memoryEvents(plainWorld()) {
		for _, call := range worldCalls() {
			wantWorldApart(t, fmt.Sprintf("%s, %+v", call.what, e), call, w, []impl.Event{e, eventTwice(1), eventTwice(1), eventTakes(1)})
		}
	}
}

// TestWorldMemoryOfWrong has worlds that are not ok, and too many events: nothing is answered, spare room too.
func TestWorldMemoryOfWrong(t *testing.T) {
	for place, change := range worldChanges() {
		if change.fine || place%7 > 0 {
			continue
		}
		w := plainWorld().world()
		change.do(&w)
		w = roomyWorld(w)
		for _, call := range worldCalls() {
			wantWorldApart(t, change.what, call, w, []impl.Event{eventTakes(0)})
			if spans := spansOf(reflect.ValueOf(call.do(w, []impl.Event{eventTakes(0)}))); len(spans) > 0 {
				t.Fatalf("%s, %s: there is memory of nothing: %v", change.what, call.what, spans)
			}
		}
	}
	many := impl.WorldPlay(impl.WorldOpen(), make([]impl.Event, 401))
	if spans := spansOf(reflect.ValueOf(many)); len(spans) > 0 {
		t.Errorf("there is memory of nothing: %v", spans)
	}
}

// TestWorldAsksOnly has the calls that answer no more than whether it is so.
func TestWorldAsksOnly(t *testing.T) {
	asks := worldCall{"asks", func(w impl.World, _ []impl.Event) any {
		return []bool{impl.WorldOk(w), impl.WorldSame(w, impl.WorldOpen()), impl.WorldSame(impl.WorldOpen(), w), impl.WorldSame(w, w)}
	}}
	for place, change := range worldChanges() {
		if place%7 > 0 {
			continue
		}
		w := plainWorld().world()
		change.do(&w)
		wantWorldApart(t, change.what, asks, roomyWorld(w), nil)
	}
}

// TestWorldOpenMemory has answers that are given nothing: they share no memory with themselves nor with each other.
func TestWorldOpenMemory(t *testing.T) {
	opens := worldCall{"open", func(impl.World, []impl.Event) any { return impl.WorldOpen() }}
	wantWorldApart(t, "open", opens, impl.World{}, nil)
	first, second := impl.WorldOpen(), impl.WorldOpen()
	eachList(reflect.ValueOf(&first).Elem(), func(list reflect.Value) {
		if list.Type().Elem().Kind() == reflect.Int {
			list.Index(0).SetInt(55)
		}
	})
	first.Tiers[0].Inc, first.Leads[0][0].Term, first.Shards[1].Rows[3].Ver = 9, 9, 9
	for _, w := range []impl.World{second, impl.WorldOpen()} {
		if !sameWorld(w, openWorld().world()) {
			t.Errorf("got\n%s", worldText(w))
		}
	}
}
