package tests

import (
	"fmt"
	"slices"
	"testing"

	"loop.example/kith/impl"
)

// vows say what of that which is always so holds in a world.
type vows struct {
	items  bool
	floors bool
	bonds  bool
	leads  bool
	all    bool
}

// allKept holds all, and none holds nothing, as of a world that is not ok.
var allKept, noneKept = vows{true, true, true, true, true}, vows{}

// askVows asks the program.
func askVows(w impl.World) vows {
	return vows{impl.VowItems(w), impl.VowFloors(w), impl.VowBonds(w), impl.VowLeads(w), impl.VowAll(w)}
}

// vowsTold is the same in the document's words.
func vowsTold(w impl.World) vows {
	if !worldTold(w) {
		return noneKept
	}
	v := vows{items: itemsTold(w), floors: floorsTold(w), bonds: bondsTold(w), leads: leadsTold(w)}
	v.all = v.items && v.floors && v.bonds && v.leads && trueTold(w) && risesTold(w.Told)
	return v
}

// itemsTold says whether all items in caches, and on their way, were so.
func itemsTold(w impl.World) bool {
	for _, spot := range itemSpots(&w) {
		if !hadTold(w.Shards[spot.it.Key%2], *spot.it) {
			return false
		}
	}
	return true
}

// floorsTold says whether no floor is above its row, and none below what its tier told of a part that it joined.
func floorsTold(w impl.World) bool {
	for _, spot := range cacheSpots(&w) {
		for key, floor := range spot.cache.Floors {
			if floor > w.Shards[key%2].Rows[key].Ver {
				return false
			}
			if spot.tier && w.Tiers[spot.which].Joined[key%2] && floor < lastTold(w.Told, spot.which, key) {
				return false
			}
		}
	}
	return true
}

// bondsTold says whether both ends of each bond know it since one time, or an intent of it is there.
func bondsTold(w impl.World) bool {
	young, elders := map[[2]int]int{}, map[[2]int]int{}
	for who, v := range impl.WorldGraph(w).Rows[8:] {
		for _, e := range v.Kin {
			if who < 8 {
				elders[[2]int{e.Who, who}] = e.At
			} else {
				young[[2]int{who - 8, e.Who}] = e.At
			}
		}
	}
	for a := range 8 {
		for b := range 8 {
			both := [2]int{a, b}
			at, is := young[both]
			since, has := elders[both]
			if (at != since || is != has) && !bondOut(w, a, b) {
				return false
			}
		}
	}
	return true
}

// bondOut says whether an intent of OpBind or OpPart of two people is in the part of the first.
func bondOut(w impl.World, a int, b int) bool {
	return slices.ContainsFunc(w.Shards[a%2].Intents, func(in impl.Intent) bool {
		return among(in.Op.Kind, 2, 3) && in.Op.A == a && in.Op.B == b
	})
}

// leadsTold says whether at most one has the Fence of his part as term, and is the first then.
func leadsTold(w impl.World) bool {
	for which, leads := range w.Leads {
		var who []int
		for place, l := range leads {
			if l.Term == w.Shards[which].Fence {
				who = append(who, place)
			}
		}
		if len(who) > 1 || len(who) == 1 && who[0] != 0 {
			return false
		}
	}
	return true
}

// cacheSpot is where a cache stands: of a tier, or of one who leads, that or the part being told by its number.
type cacheSpot struct {
	what  string
	tier  bool
	which int
	cache *impl.Cache
}

// cacheSpots are all caches of a world that has two parts and two tiers.
func cacheSpots(w *impl.World) []cacheSpot {
	var spots []cacheSpot
	for which := range 2 {
		for who := range w.Leads[which] {
			spots = append(spots, cacheSpot{fmt.Sprintf("lead %d of the part %d", who, which), false, which, &w.Leads[which][who].Cache})
		}
		spots = append(spots, cacheSpot{fmt.Sprintf("tier %d", which), true, which, &w.Tiers[which].Cache})
	}
	return spots
}

// itemSpot is where an item stands, and whether that is on its way.
type itemSpot struct {
	what string
	net  bool
	it   *impl.Item
}

// itemSpots are all items in caches, and of messages that bring one.
func itemSpots(w *impl.World) []itemSpot {
	var spots []itemSpot
	for _, spot := range cacheSpots(w) {
		for place := range spot.cache.Items {
			spots = append(spots, itemSpot{spot.what, false, &spot.cache.Items[place]})
		}
	}
	for place, m := range w.Net {
		if m.Kind == 2 || m.Kind == 4 || m.Kind == 5 {
			spots = append(spots, itemSpot{fmt.Sprintf("kind %d of the part %d", m.Kind, m.Part), true, &w.Net[place].Item})
		}
	}
	return spots
}

// wantVows tells other answers than those that are wanted, of the program or in the document's words.
func wantVows(t *testing.T, what string, w impl.World, want vows) {
	t.Helper()
	if got := askVows(w); got != want {
		t.Fatalf("%s: got %+v, want %+v:\n%s", what, got, want, worldText(w))
	}
	if told := vowsTold(w); told != want {
		t.Fatalf("%s: in the document's words %+v, not %+v:\n%s", what, told, want, worldText(w))
	}
}

// taken is behind all messages, the first one first, each taken by the newest of those who lead.
func (w worldModel) taken() worldModel {
	for len(w.net) > 0 {
		w = w.do(eventTakes(0))
	}
	return w
}

// written is behind writes through a tier, one behind the other.
func (w worldModel) written(tier int, ops ...impl.Op) worldModel {
	for _, op := range ops {
		w = w.do(eventWrites(tier, op)).taken()
	}
	return w
}

// read is behind reads from a tier, one behind the other, none from its cache.
func (w worldModel) read(tier int, keys ...int) worldModel {
	for _, key := range keys {
		w = w.after(eventDrops(tier, key), eventReads(tier, key)).taken()
	}
	return w
}

// filledBy is behind a read from a tier that one who leads answers, too old though that may be; both messages are told beside it, as what came twice and late.
func (w worldModel) filledBy(tier int, key int, who int) (worldModel, []impl.Msg) {
	w = w.after(eventDrops(tier, key), eventReads(tier, key), eventTwice(0), eventTakesBy(0, who))
	late := w.net
	return w.do(eventTakes(1)).taken().do(eventRetries(tier)).taken(), late
}

// vowWorld has something in each of its parts, all of which came by events: bonds of people of one part and of two, three and two who lead, all with something in their caches, and messages of all kinds on their way.
func vowWorld() worldModel {
	w := openWorld().after(eventReads(0, 11), eventTwice(0), eventTakes(0))
	late := w.net
	w = w.taken().written(0, set(2, 17), bind(2, 3, 5), bind(4, 6, 9), set(2, 18)).written(1, set(3, 17), bind(3, 2, 6), bind(5, 7, 9), part(3, 2), bind(3, 2, 8))
	w = w.read(0, 18, 10, 2, 11).read(1, 20, 3, 19, 15, 11)
	w = w.after(eventRises(0), eventRises(1), eventRises(0)).taken()
	w = w.written(0, set(4, 1), set(5, 1)).written(1, bind(2, 3, 7), set(4, 2))
	for which, many := range []int{3, 2} {
		for who := range many {
			for _, key := range []int{20, 10, 18, 2} {
				var sent []impl.Msg
				w, sent = w.filledBy((key/2+who)%2, key^which, who)
				if key == 18 {
					late = slices.Concat(late, sent)
				}
			}
		}
	}
	w = w.read(0, 18, 2).read(1, 10, 20, 14)
	w.net = late
	// The other end of the first of these is on its way, and that of the second has come, which isn't known yet.
	w = w.after(eventWrites(0, bind(0, 1, 3)), eventTwice(12), eventTakes(12), eventWrites(1, bind(1, 2, 4)), eventTwice(16), eventTakes(16), eventTwice(19), eventTakes(19))
	return w.after(eventTells(1, 1), eventFells(0, 2))
}

// keptWorlds are worlds in which all holds that is always so.
func keptWorlds() map[string]worldModel {
	open, busy, full := openWorld(), vowWorld(), openWorld()
	for num := range 60 {
		full = full.written(0, set(2, num)).written(1, set(3, num))
	}
	nobody := busy
	nobody.leads = [2][]leadModel{}
	worlds := map[string]worldModel{
		"open": open, "busy": busy, "all came": busy.taken(), "nobody leads": nobody, "full": full, "full, and asked": full.read(0, 3, 2, 18).written(1, set(2, 5), bind(3, 2, 1)),
		"nobody is up": busy.after(eventFells(0, 0), eventFells(0, 1), eventFells(1, 0), eventFells(1, 1)),
		"fallen":       busy.taken().after(eventFalls(0), eventFalls(1)).read(1, 18, 10),
	}
	c := chooser(1111)
	for _, many := range []int{60, 200, 600} {
		w := open
		for range many {
			w = w.do(c.event(w, false))
		}
		worlds[fmt.Sprintf("behind %d events", many)] = w
	}
	return worlds
}
