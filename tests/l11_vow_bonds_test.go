package tests

import (
	"fmt"
	"slices"
	"testing"

	"loop.example/kith/impl"
)

// noBondsKept is what holds, if a bond is not known from both ends, and not on its way.
var noBondsKept = vows{true, true, false, true, false}

func bondsWant(kept bool) vows {
	if kept {
		return allKept
	}
	return noBondsKept
}

// kinOf are keys and what they have, by twos: a key of young or of elders, and kin.
type kinOf struct {
	key int
	kin impl.Val
}

// bondWorld is an open world, but for what some keys have, and for intents.
func bondWorld(has []kinOf, intents ...impl.Op) impl.World {
	w := impl.WorldOpen()
	for _, k := range has {
		s := &w.Shards[k.key%2]
		withWritten(s, k.key, s.Rows[k.key].Ver+1, k.kin)
	}
	for _, op := range intents {
		s := &w.Shards[op.A%2]
		s.Stamp++
		s.Intents = append(s.Intents, impl.Intent{Stamp: s.Stamp, Op: op})
	}
	return w
}

// bondEnds are what two people's keys have, of b as a's young since a time, and of a as b's elder since another one; -1 is not at all.
func bondEnds(a int, b int, young int, elder int) []kinOf {
	var has []kinOf
	if young >= 0 {
		has = append(has, kinOf{16 + a, bond(b, young)})
	}
	if elder >= 0 {
		has = append(has, kinOf{8 + b, bond(a, elder)})
	}
	return has
}

// TestVowBondsEach has any two people, one with himself too, who know of each other since any two times, or not.
func TestVowBondsEach(t *testing.T) {
	for a := range 8 {
		for b := range 8 {
			for _, young := range []int{-1, 0, 1, 5, 1000} {
				for _, elder := range []int{-1, 0, 1, 5, 1000} {
					what := fmt.Sprintf("%d and %d, since %d and %d", a, b, young, elder)
					has := bondEnds(a, b, young, elder)
					wantVows(t, what, bondWorld(has), bondsWant(young == elder))
					if a == b {
						continue
					}
					// Of these two it doesn't matter what is on its way, but that it is.
					for _, op := range []impl.Op{bind(a, b, 5), bind(a, b, 77), part(a, b)} {
						wantVows(t, fmt.Sprint(what, ", out ", op), bondWorld(has, op), allKept)
					}
				}
			}
		}
	}
}

// TestVowBondsOut has a bond that one end alone knows, and intents: of these two, of them the other way round, and of others.
func TestVowBondsOut(t *testing.T) {
	for a := range 8 {
		for b := range 8 {
			if a == b {
				continue
			}
			c := (max(a, b) + 1) % 8
			if c == min(a, b) {
				c = (c + 1) % 8
			}
			// An intent of others is of a bond that both of them don't know.
			others := []impl.Op{bind(b, a, 5), part(b, a), bind(a, c, 5), part(a, c), bind(c, b, 5), part(c, b), bind(b, c, 5), part(c, a)}
			for _, has := range [][]kinOf{bondEnds(a, b, 5, -1), bondEnds(a, b, -1, 5), bondEnds(a, b, 5, 6)} {
				what := fmt.Sprintf("%d and %d, %v", a, b, has)
				for place, op := range others {
					wantVows(t, fmt.Sprint(what, ", out ", op), bondWorld(has, op), noBondsKept)
					wantVows(t, fmt.Sprint(what, ", out two", op), bondWorld(has, op, others[(place+1)%8]), noBondsKept)
					// The one of these two is the first, in the midst, or the last.
					for _, ops := range [][]impl.Op{{part(a, b), op}, {op, bind(a, b, 9)}, {bind(a, c, 1), part(a, b), op}, {bind(a, c, 1), bind(a, c, 2), bind(a, b, 1)}} {
						wantVows(t, fmt.Sprint(what, ", out ", ops), bondWorld(has, ops...), allKept)
					}
				}
			}
			// Where both ends know it, or both don't, nothing need be on its way.
			for _, op := range others {
				wantVows(t, "both know it", bondWorld(bondEnds(a, b, 5, 5), op), allKept)
				wantVows(t, "nobody knows it", bondWorld(nil, op), allKept)
			}
		}
	}
}

// TestVowBondsWrongOut has intents that there can't be: of another kind of write, in another part, and of one with himself.
func TestVowBondsWrongOut(t *testing.T) {
	for a := range 8 {
		for b := range 8 {
			for what, has := range map[string][]kinOf{"one end": bondEnds(a, b, 5, -1), "the other end": bondEnds(a, b, -1, 5), "both": bondEnds(a, b, 5, 5), "none": nil} {
				for _, op := range []impl.Op{{Kind: 1, A: a, N: 5}, {Kind: 1, A: a, B: b, N: 5}, {Kind: 0, A: a, B: b}, {Kind: 4, A: a, B: b}, {Kind: 2, A: a, B: b, N: 1001}, {Kind: 3, A: a, B: b, N: 1}, bind(a, a, 5), part(b, b)} {
					wantVows(t, fmt.Sprint(what, ", out ", op), bondWorld(has, op), noneKept)
				}
				if a == b {
					continue
				}
				w := bondWorld(has)
				w.Shards[1-a%2].Stamp, w.Shards[1-a%2].Intents = 1, []impl.Intent{{Stamp: 1, Op: bind(a, b, 5)}}
				wantVows(t, what+", in the other part", w, noneKept)
			}
		}
	}
}

// TestVowBondsTurned has people who know of each other, but as other kin than they are.
func TestVowBondsTurned(t *testing.T) {
	for a := range 8 {
		for b := range a {
			for _, c := range []struct {
				what string
				kept bool
				has  []kinOf
			}{
				{"each the other's young", false, []kinOf{{16 + a, bond(b, 5)}, {16 + b, bond(a, 5)}}},
				{"each the other's elder", false, []kinOf{{8 + a, bond(b, 5)}, {8 + b, bond(a, 5)}}},
				{"one both, the other none", false, []kinOf{{16 + a, bond(b, 5)}, {8 + a, bond(b, 5)}}},
				{"each both", true, []kinOf{{16 + a, bond(b, 5)}, {8 + b, bond(a, 5)}, {16 + b, bond(a, 7)}, {8 + a, bond(b, 7)}}},
				{"each both, times turned", false, []kinOf{{16 + a, bond(b, 5)}, {8 + b, bond(a, 7)}, {16 + b, bond(a, 7)}, {8 + a, bond(b, 5)}}},
				{"once, and not any more", true, []kinOf{{16 + a, bond(b, 5)}, {8 + b, bond(a, 5)}, {16 + a, bond()}, {8 + b, bond()}}},
				{"once, and one end not any more", false, []kinOf{{16 + a, bond(b, 5)}, {8 + b, bond(a, 5)}, {16 + a, bond()}}},
				{"once, and the other end not any more", false, []kinOf{{16 + a, bond(b, 5)}, {8 + b, bond(a, 5)}, {8 + b, bond()}}},
				{"once, and since another time at one end", false, []kinOf{{16 + a, bond(b, 5)}, {8 + b, bond(a, 5)}, {8 + b, bond(a, 6)}}},
			} {
				wantVows(t, fmt.Sprintf("%d and %d: %s", a, b, c.what), bondWorld(c.has), bondsWant(c.kept))
			}
		}
	}
}

// TestVowBondsMany has all people as kin of all, but for one end of one bond.
func TestVowBondsMany(t *testing.T) {
	var all []kinOf
	for who := range 8 {
		var young, elders []int
		for other := range 8 {
			young, elders = append(young, other, 500-8*who-other), append(elders, other, 500-8*other-who)
		}
		all = append(all, kinOf{16 + who, bond(young...)}, kinOf{8 + who, bond(elders...)})
	}
	wantVows(t, "all", bondWorld(all), allKept)
	for place, k := range all {
		for at, e := range k.kin.Kin {
			a, b := k.key-16, e.Who
			if k.key < 16 {
				a, b = e.Who, k.key-8
			}
			less := slices.Clone(all)
			less[place].kin = impl.Val{Kin: slices.Delete(slices.Clone(k.kin.Kin), at, at+1)}
			wantVows(t, fmt.Sprintf("%d and %d, key %d", a, b, k.key), bondWorld(less), noBondsKept)
			// It is the other way round that both know of each other.
			if a != b {
				wantVows(t, fmt.Sprintf("%d and %d, key %d, out", a, b, k.key), bondWorld(less, part(a, b)), allKept)
				wantVows(t, fmt.Sprintf("%d and %d, key %d, out the other way", a, b, k.key), bondWorld(less, part(b, a)), noBondsKept)
			}
		}
	}
}

// turns are writes of one bond, one behind the other.
func turns(a int, b int) map[string][]impl.Op {
	return map[string][]impl.Op{
		"bound and parted":            {bind(a, b, 5), part(a, b)},
		"bound, parted and bound":     {bind(a, b, 5), part(a, b), bind(a, b, 5)},
		"bound, parted, bound later":  {bind(a, b, 5), part(a, b), bind(a, b, 7)},
		"bound since three times":     {bind(a, b, 5), bind(a, b, 0), bind(a, b, 1000)},
		"parted and bound":            {part(a, b), bind(a, b, 5)},
		"bound and parted twice":      {bind(a, b, 5), part(a, b), part(a, b)},
		"each the other's young":      {bind(a, b, 5), bind(b, a, 6), part(a, b)},
		"bound both ways, parted one": {bind(a, b, 5), bind(b, a, 5), part(b, a)},
	}
}

// TestVowBondsTwice has a bond that is turned twice or thrice while its other end is on its way: in whatever order that comes, it is known from both ends, or on its way, and at last from both as it was written last.
func TestVowBondsTwice(t *testing.T) {
	// Of what is left, the first, the second or the third comes next.
	orders := [][]int{{0, 0, 0}, {0, 1, 0}, {1, 0, 0}, {1, 1, 0}, {2, 0, 0}, {2, 1, 0}}
	for _, both := range [][2]int{{2, 3}, {5, 0}, {2, 4}} {
		first := both[0] % 2
		for what, ops := range turns(both[0], both[1]) {
			p := turned(t, ops)
			if out := len(p.w.Shards[0].Intents) + len(p.w.Shards[1].Intents); len(p.w.Net) != len(ops) || out != len(ops) {
				t.Fatalf("%s: got\n%s", what, worldText(p.w))
			}
			for _, order := range orders {
				for _, ahead := range [][]impl.Event{
					nil, {eventTwice(0), eventTwice(1)}, {eventLoses(0)}, {eventLoses(1)}, {eventLoses(0), eventLoses(0)}, {eventCuts(1, 0)}, {eventCuts(0, 0), eventRises(1 - first)},
					{eventRises(first)}, {eventRises(1 - first), eventTakesBy(0, 1)}, {eventRises(0), eventRises(1), eventTakesBy(1, 1), eventAgain(first, 1)},
				} {
					q := &playedWorld{t: t, m: p.m, w: p.w}
					q.step(ahead...)
					q.comes(order)
					q.wantBonds(ops)
				}
			}
		}
	}
}

// turned is behind writes, whose other ends are all that is on its way.
func turned(t *testing.T, ops []impl.Op) *playedWorld {
	t.Helper()
	p := played(t, openWorld())
	for place, op := range ops {
		// The answer comes, and the news are lost.
		p.step(eventWrites(0, op), eventTakes(place), eventTakes(place), eventLoses(place))
	}
	return p
}

// step has events happen, behind each of which all holds.
func (p *playedWorld) step(events ...impl.Event) {
	p.t.Helper()
	for _, e := range events {
		p.w, p.m = wantWorld(p.t, "played", p.w, p.m, e)
		wantVows(p.t, fmt.Sprintf("behind %+v", e), p.w, allKept)
	}
}

// comes has some messages come in an order, the others behind them, and what is not known to have come once more.
func (p *playedWorld) comes(order []int) {
	p.t.Helper()
	for _, place := range order {
		p.step(eventTakes(place))
	}
	for range 3 {
		for len(p.w.Net) > 0 {
			p.step(eventTakes((len(p.w.Net) - 1) * order[0] / 2))
		}
		for which := range 2 {
			if !p.w.Leads[which][0].Up {
				p.step(eventRises(which))
			}
			p.step(eventAgain(which, 0))
		}
	}
}

// wantBonds tells a world in which anything is on its way, or whose graph is not as the writes make it.
func (p *playedWorld) wantBonds(ops []impl.Op) {
	p.t.Helper()
	want := impl.GraphOpen()
	for _, op := range ops {
		want, _ = impl.GraphDo(want, op)
	}
	out := len(p.w.Shards[0].Intents) + len(p.w.Shards[1].Intents) + len(p.w.Net)
	if got := impl.WorldGraph(p.w); !sameRows(got, want) || !impl.GraphOk(got) || out > 0 {
		p.t.Fatalf("%v: got\n%s", ops, worldText(p.w))
	}
}

// TestVowBondsFull has parts that are full: what is on its way stays so.
func TestVowBondsFull(t *testing.T) {
	for _, both := range [][2]int{{2, 3}, {3, 2}, {2, 4}} {
		m := openWorld()
		for num := range 60 {
			m = m.written(0, set(both[1], num))
		}
		if both[0]%2 == both[1]%2 {
			// It has room for the one end alone.
			m = openWorld()
			for num := range 59 {
				m = m.written(0, set(both[1], num))
			}
		}
		m = m.written(1, bind(both[0], both[1], 5))
		for range 3 {
			m = m.do(eventRises(0)).taken().do(eventAgain(1, 0)).taken()
			w := m.world()
			if len(w.Shards[both[0]%2].Intents) != 1 || impl.GraphOk(impl.WorldGraph(w)) {
				t.Fatalf("got\n%s", worldText(w))
			}
			wantVows(t, fmt.Sprint(both), w, allKept)
			w.Shards[both[0]%2].Intents = nil
			wantVows(t, fmt.Sprint(both, " without it"), w, noBondsKept)
		}
	}
}
