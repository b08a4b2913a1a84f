package tests

import (
	"fmt"
	"math"
	"slices"
	"testing"

	"loop.example/kith/impl"
)

func TestShardNames(t *testing.T) {
	if impl.ShardTiers != 2 || impl.ShardIntents != 3 || impl.ShardLog != 60 {
		t.Error("bounds")
	}
	codes := []int{impl.ShardFine, impl.ShardFenced, impl.ShardForm, impl.ShardFull, impl.ShardOld, impl.ShardAgain}
	if !slices.Equal(codes, []int{0, 1, 2, 3, 4, 5}) {
		t.Errorf("codes: %v", codes)
	}
}

func TestShardOpen(t *testing.T) {
	for part := range 2 {
		want := impl.Shard{Part: part, Rows: make([]impl.Row, 24)}
		if got := impl.ShardOpen(part); !samePart(got, want) || !impl.ShardOk(got) {
			t.Errorf("part %d: got %v, want %v", part, got, want)
		}
	}
	for _, part := range []int{-1, 2, -2, 3, 24, math.MaxInt, math.MinInt} {
		if got := impl.ShardOpen(part); !samePart(got, impl.Shard{}) {
			t.Errorf("part %d: got %v", part, got)
		}
	}
}

// withWritten writes one commit behind all others, of whatever key and Ver, and gives the key, if there is one, that row.
func withWritten(s *impl.Shard, key int, ver int, v impl.Val) {
	s.Log = append(s.Log, impl.Commit{Key: key, Ver: ver, Val: copied(v)})
	if 0 <= key && key < len(s.Rows) {
		s.Rows[key] = impl.Row{Ver: ver, Val: copied(v)}
	}
}

// withSets writes so many more numbers of one key, as they would be written.
func withSets(s *impl.Shard, count int) {
	for range count {
		withWritten(s, s.Part, s.Rows[s.Part].Ver+1, thing(len(s.Log)))
	}
}

// manySeen are the stamps of all bonds that a part can have.
func manySeen(part int) []impl.Seen {
	var list []impl.Seen
	for a := range 8 {
		for b := part; b < 8; b += 2 {
			list = append(list, impl.Seen{A: a, B: b, Stamp: 1 + a*b})
		}
	}
	return list
}

// rightChanges are what can be done to a busy part that is ok still: the edges of what ShardOk asks.
func rightChanges() map[string]func(s *impl.Shard) {
	return map[string]func(s *impl.Shard){
		"as it is":            func(s *impl.Shard) {},
		"fence 0":             func(s *impl.Shard) { s.Fence = 0 },
		"the greatest fence":  func(s *impl.Shard) { s.Fence = math.MaxInt },
		"stamp 60":            func(s *impl.Shard) { s.Stamp = 60 },
		"stamp of the last":   func(s *impl.Shard) { s.Stamp = s.Intents[len(s.Intents)-1].Stamp },
		"stamp 0":             func(s *impl.Shard) { s.Stamp, s.Intents = 0, nil },
		"60 commits":          func(s *impl.Shard) { withSets(s, 60-len(s.Log)) },
		"a number of 1000000": func(s *impl.Shard) { withWritten(s, s.Part, s.Rows[s.Part].Ver+1, thing(1000000)) },
		"his own young":       func(s *impl.Shard) { withWritten(s, 22+s.Part, 1, bond(6+s.Part, 5)) },
		"eight young": func(s *impl.Shard) {
			withWritten(s, 22+s.Part, 1, bond(0, 1, 1, 1, 2, 1, 3, 1, 4, 1, 5, 1, 6, 1, 7, 1))
		},
		"nothing, written":     func(s *impl.Shard) { withWritten(s, 6+s.Part, 1, impl.Val{}) },
		"nothing, once more":   func(s *impl.Shard) { withWritten(s, 2+s.Part, s.Rows[2+s.Part].Ver+1, impl.Val{}) },
		"no dones":             func(s *impl.Shard) { s.Dones = nil },
		"one of tier 0":        func(s *impl.Shard) { s.Dones = s.Dones[:1] },
		"one of tier 1":        func(s *impl.Shard) { s.Dones = s.Dones[1:] },
		"life and number 0":    func(s *impl.Shard) { s.Dones[0].Req, s.Dones[1].Req = req(0, 0, 0), req(1, 0, 0) },
		"the greatest life":    func(s *impl.Shard) { s.Dones[1].Req = req(1, math.MaxInt, math.MaxInt) },
		"lives descending":     func(s *impl.Shard) { s.Dones[0].Req, s.Dones[1].Req = req(0, 9, 9), req(1, 1, 1) },
		"done as the first":    func(s *impl.Shard) { s.Dones[0].Ver = 1 },
		"done as the last":     func(s *impl.Shard) { s.Dones[0].Ver = s.Rows[s.Dones[0].Key].Ver },
		"refused as none":      func(s *impl.Shard) { s.Dones[0].Ver, s.Dones[0].Code = 0, 3 },
		"refused as the last":  func(s *impl.Shard) { s.Dones[0].Ver, s.Dones[0].Code = s.Rows[s.Dones[0].Key].Ver, 3 },
		"refused, not written": func(s *impl.Shard) { s.Dones[1] = impl.Done{Req: req(1, 1, 1), Key: 6 + s.Part, Code: 3} },
		"done of elders":       func(s *impl.Shard) { s.Dones[1] = impl.Done{Req: req(1, 1, 1), Key: 10 + s.Part, Ver: 1} },
		"no intents":           func(s *impl.Shard) { s.Intents = nil },
		"one intent":           func(s *impl.Shard) { s.Intents = s.Intents[:1] },
		"3 intents":            func(s *impl.Shard) { s.Intents = threeIntents(s.Part, 1, 2, 4) },
		"a part that follows":  func(s *impl.Shard) { s.Intents[1].Op = turnedTo(s.Part, part(0, 7)) },
		"no stamps":            func(s *impl.Shard) { s.Seen = nil },
		"all stamps":           func(s *impl.Shard) { s.Seen = manySeen(s.Part) },
		"his own stamp":        func(s *impl.Shard) { s.Seen = []impl.Seen{{A: 4 + s.Part, B: 4 + s.Part, Stamp: 1}} },
		"the greatest stamp":   func(s *impl.Shard) { s.Seen[0].Stamp = math.MaxInt },
		"a stamp of 1":         func(s *impl.Shard) { s.Seen[0].Stamp = 1 },
		"empty lists":          func(s *impl.Shard) { *s = emptyLists(impl.Shard{Part: s.Part, Rows: make([]impl.Row, 24)}) },
	}
}

// threeIntents are intents of these stamps.
func threeIntents(part0 int, stamps ...int) []impl.Intent {
	ops := []impl.Op{bind(2, 3, 5), part(0, 1), bind(6, 7, 1000), part(4, 6)}
	var list []impl.Intent
	for place, stamp := range stamps {
		list = append(list, impl.Intent{Stamp: stamp, Op: turnedTo(part0, ops[place])})
	}
	return list
}

// emptyLists is a part with empty lists in the place of nil.
func emptyLists(s impl.Shard) impl.Shard {
	s.Dones, s.Intents, s.Seen = append([]impl.Done{}, s.Dones...), append([]impl.Intent{}, s.Intents...), append([]impl.Seen{}, s.Seen...)
	s.Log = append([]impl.Commit{}, s.Log...)
	s.Rows = slices.Clone(s.Rows)
	for key, row := range s.Rows {
		s.Rows[key].Val.Kin = append([]impl.Edge{}, row.Val.Kin...)
	}
	for place, c := range s.Log {
		s.Log[place].Val.Kin = append([]impl.Edge{}, c.Val.Kin...)
	}
	return s
}

// allRightParts are parts that are ok, those of rightChanges too.
func allRightParts() map[string]impl.Shard {
	parts := map[string]impl.Shard{}
	for what, m := range rightParts() {
		parts[what] = m.shard()
	}
	for what, change := range rightChanges() {
		for which := range 2 {
			s := busyPart(which).shard()
			change(&s)
			parts[fmt.Sprintf("%s, changed part %d", what, which)] = s
		}
	}
	return parts
}

// wrongRows are changes after which the log, or the rows, are not right.
func wrongRows() map[string]func(s *impl.Shard) {
	changes := map[string]func(s *impl.Shard){
		"61 commits":                     func(s *impl.Shard) { withSets(s, 61-len(s.Log)) },
		"of the other part":              func(s *impl.Shard) { withWritten(s, 1-s.Part, 1, thing(5)) },
		"young of the other part":        func(s *impl.Shard) { withWritten(s, 17-s.Part, 1, bond(4, 5)) },
		"of the key -1":                  func(s *impl.Shard) { withWritten(s, -1, 1, thing(5)) },
		"of the key -2":                  func(s *impl.Shard) { withWritten(s, -2, 1, thing(5)) },
		"of the key 24":                  func(s *impl.Shard) { withWritten(s, 24, 1, bond(4, 5)) },
		"of the key 25":                  func(s *impl.Shard) { withWritten(s, 25, 1, bond(4, 5)) },
		"a number below 0":               func(s *impl.Shard) { withWritten(s, 6+s.Part, 1, thing(-1)) },
		"a number too great":             func(s *impl.Shard) { withWritten(s, 6+s.Part, 1, thing(1000001)) },
		"kin for a number":               func(s *impl.Shard) { withWritten(s, 6+s.Part, 1, bond(4, 5)) },
		"a number for kin":               func(s *impl.Shard) { withWritten(s, 22+s.Part, 1, thing(5)) },
		"a number beside kin":            func(s *impl.Shard) { withWritten(s, 14+s.Part, 1, impl.Val{Num: 5, Kin: edges(1, 2)}) },
		"a first one that is the 0th":    func(s *impl.Shard) { withWritten(s, 6+s.Part, 0, thing(5)) },
		"a first one that is the 2nd":    func(s *impl.Shard) { withWritten(s, 6+s.Part, 2, thing(5)) },
		"a first one below 0":            func(s *impl.Shard) { withWritten(s, 6+s.Part, -1, thing(5)) },
		"the last one's Ver once more":   func(s *impl.Shard) { withWritten(s, 2+s.Part, s.Rows[2+s.Part].Ver, thing(5)) },
		"a Ver is left out":              func(s *impl.Shard) { withWritten(s, 2+s.Part, s.Rows[2+s.Part].Ver+2, thing(5)) },
		"a Ver of 1 once more":           func(s *impl.Shard) { withWritten(s, 2+s.Part, 1, thing(5)) },
		"the Ver of another key":         func(s *impl.Shard) { withWritten(s, 4+s.Part, s.Rows[2+s.Part].Ver+1, thing(5)) },
		"a row's Ver too great":          func(s *impl.Shard) { s.Rows[2+s.Part].Ver++ },
		"a row's Ver too small":          func(s *impl.Shard) { s.Rows[2+s.Part].Ver-- },
		"a row with another number":      func(s *impl.Shard) { s.Rows[2+s.Part].Val.Num++ },
		"a row with kin too":             func(s *impl.Shard) { s.Rows[2+s.Part].Val.Kin = edges(1, 1) },
		"a row with other kin":           func(s *impl.Shard) { s.Rows[20+s.Part].Val = bond(6+s.Part, 8) },
		"a row without its kin":          func(s *impl.Shard) { s.Rows[20+s.Part].Val = impl.Val{} },
		"a row of the commit ahead":      func(s *impl.Shard) { s.Rows[2+s.Part] = impl.Row{Ver: 1, Val: thing(17)} },
		"the number of the commit ahead": func(s *impl.Shard) { s.Rows[2+s.Part].Val = thing(17) },
		"a row that is gone":             func(s *impl.Shard) { s.Rows[2+s.Part] = impl.Row{} },
		"a Ver where nothing was":        func(s *impl.Shard) { s.Rows[6+s.Part].Ver = 1 },
		"a Ver below 0":                  func(s *impl.Shard) { s.Rows[6+s.Part].Ver = -1 },
		"a number where nothing was":     func(s *impl.Shard) { s.Rows[6+s.Part].Val = thing(5) },
		"kin where nothing were":         func(s *impl.Shard) { s.Rows[23-s.Part].Val = bond(4, 5) },
		"a row of the other part":        func(s *impl.Shard) { s.Rows[1-s.Part] = impl.Row{Ver: 1, Val: thing(5)} },
		"a number in the other part":     func(s *impl.Shard) { s.Rows[1-s.Part].Val = thing(5) },
		"no commits":                     func(s *impl.Shard) { s.Log = nil },
		"the last commit is gone":        func(s *impl.Shard) { s.Log = s.Log[:len(s.Log)-1] },
		"the first commit is gone":       func(s *impl.Shard) { s.Log = s.Log[1:] },
		"the order of the log turned":    func(s *impl.Shard) { slices.Reverse(s.Log) },
		"no rows":                        func(s *impl.Shard) { s.Rows = nil },
		"one row too few":                func(s *impl.Shard) { s.Rows = s.Rows[:23] },
		"the first row is gone":          func(s *impl.Shard) { s.Rows = s.Rows[1:] },
		"one row too many":               func(s *impl.Shard) { s.Rows = append(s.Rows, impl.Row{}) },
		"one row too many ahead":         func(s *impl.Shard) { s.Rows = slices.Insert(s.Rows, 0, impl.Row{}) },
		"twice as many rows":             func(s *impl.Shard) { s.Rows = slices.Concat(s.Rows, s.Rows) },
		"no rows, nothing else":          func(s *impl.Shard) { *s = impl.Shard{Part: s.Part} },
		"23 rows, nothing else":          func(s *impl.Shard) { *s = impl.Shard{Part: s.Part, Rows: make([]impl.Row, 23)} },
		"25 rows, nothing else":          func(s *impl.Shard) { *s = impl.Shard{Part: s.Part, Rows: make([]impl.Row, 25)} },
		"wrong ahead of right": func(s *impl.Shard) {
			withWritten(s, 6+s.Part, 1, thing(1000001))
			withWritten(s, 6+s.Part, 2, thing(1000000))
		},
	}
	for what, list := range wrongEdges() {
		changes["elders, "+what] = func(s *impl.Shard) { withWritten(s, 14+s.Part, 1, impl.Val{Kin: list}) }
		changes["young, "+what] = func(s *impl.Shard) { withWritten(s, 22+s.Part, 1, impl.Val{Kin: list}) }
	}
	return changes
}

// wrongDones are changes after which a request that was answered is not right.
func wrongDones() map[string]func(s *impl.Shard) {
	changes := map[string]func(s *impl.Shard){
		"done of who -1":              func(s *impl.Shard) { s.Dones[0].Req.Who = -1 },
		"done of who 2":               func(s *impl.Shard) { s.Dones[1].Req.Who = 2 },
		"done of who 0 once more":     func(s *impl.Shard) { s.Dones[1].Req = s.Dones[0].Req },
		"done of two lives of who 1":  func(s *impl.Shard) { s.Dones[0].Req = req(1, 0, 0) },
		"dones turned":                func(s *impl.Shard) { slices.Reverse(s.Dones) },
		"three dones":                 func(s *impl.Shard) { s.Dones = append(s.Dones, s.Dones[1]) },
		"three dones, three lives":    func(s *impl.Shard) { s.Dones = append(s.Dones, impl.Done{Req: req(1, 9, 9), Key: s.Part, Code: 3}) },
		"done of the life -1":         func(s *impl.Shard) { s.Dones[0].Req.Inc = -1 },
		"done of the number -1":       func(s *impl.Shard) { s.Dones[1].Req.Seq = -1 },
		"done of the other part":      func(s *impl.Shard) { s.Dones[0] = impl.Done{Key: 1 - s.Part, Code: 3} },
		"done of the key -1":          func(s *impl.Shard) { s.Dones[0].Key = -1 },
		"done of the key 24":          func(s *impl.Shard) { s.Dones[0].Key = 24 },
		"done of the key 25":          func(s *impl.Shard) { s.Dones[0].Key = 25 },
		"done as the 0th":             func(s *impl.Shard) { s.Dones[0].Ver = 0 },
		"done behind the last":        func(s *impl.Shard) { s.Dones[0].Ver = s.Rows[s.Dones[0].Key].Ver + 1 },
		"done where nothing was":      func(s *impl.Shard) { s.Dones[0].Key = 6 + s.Part },
		"refused as below 0":          func(s *impl.Shard) { s.Dones[0].Ver, s.Dones[0].Code = -1, 3 },
		"refused behind the last":     func(s *impl.Shard) { s.Dones[0].Ver, s.Dones[0].Code = s.Rows[s.Dones[0].Key].Ver+1, 3 },
		"refused as the 1st of no":    func(s *impl.Shard) { s.Dones[0] = impl.Done{Key: 6 + s.Part, Ver: 1, Code: 3} },
		"the second behind its last":  func(s *impl.Shard) { s.Dones[1].Ver = s.Rows[s.Dones[1].Key].Ver + 1 },
		"the second of no right code": func(s *impl.Shard) { s.Dones[1].Code = 5 },
	}
	for _, code := range []int{-1, 1, 2, 4, 5, 6, math.MaxInt, math.MinInt} {
		changes[fmt.Sprintf("done with the code %d", code)] = func(s *impl.Shard) { s.Dones[0].Code = code }
		changes[fmt.Sprintf("done as the 0th with the code %d", code)] = func(s *impl.Shard) { s.Dones[0].Ver, s.Dones[0].Code = 0, code }
	}
	return changes
}

// wrongBonds are changes after which an intent, or a stamp that came, is not right.
func wrongBonds() map[string]func(s *impl.Shard) {
	changes := map[string]func(s *impl.Shard){
		"4 intents":                    func(s *impl.Shard) { s.Intents = threeIntents(s.Part, 1, 2, 3, 4) },
		"intents turned":               func(s *impl.Shard) { slices.Reverse(s.Intents) },
		"the last intents turned":      func(s *impl.Shard) { s.Intents = threeIntents(s.Part, 1, 4, 3) },
		"an intent twice":              func(s *impl.Shard) { s.Intents = []impl.Intent{s.Intents[0], s.Intents[0]} },
		"two intents of one stamp":     func(s *impl.Shard) { s.Intents = threeIntents(s.Part, 1, 3, 3) },
		"an intent of the stamp 0":     func(s *impl.Shard) { s.Intents = threeIntents(s.Part, 0, 3) },
		"an intent of the stamp -1":    func(s *impl.Shard) { s.Intents = threeIntents(s.Part, -1, 3) },
		"an intent above the stamp":    func(s *impl.Shard) { s.Intents[len(s.Intents)-1].Stamp = s.Stamp + 1 },
		"the stamp below an intent":    func(s *impl.Shard) { s.Stamp = s.Intents[len(s.Intents)-1].Stamp - 1 },
		"intents, the stamp 0":         func(s *impl.Shard) { s.Stamp = 0 },
		"an intent of the other part":  func(s *impl.Shard) { s.Intents[0].Op = turnedTo(1-s.Part, bind(2, 3, 5)) },
		"an intent into this part":     func(s *impl.Shard) { s.Intents[1].Op = turnedTo(1-s.Part, part(2, 3)) },
		"an intent of a number":        func(s *impl.Shard) { s.Intents[0].Op = set(2+s.Part, 5) },
		"an intent of nothing":         func(s *impl.Shard) { s.Intents[0].Op = impl.Op{} },
		"an intent of an unknown kind": func(s *impl.Shard) { s.Intents[0].Op.Kind = 4 },
		"an intent to himself":         func(s *impl.Shard) { s.Intents[0].Op = bind(2+s.Part, 2+s.Part, 5) },
		"an intent at 1001":            func(s *impl.Shard) { s.Intents[0].Op = turnedTo(s.Part, bind(2, 3, 1001)) },
		"an intent to nobody":          func(s *impl.Shard) { s.Intents[0].Op = bind(2+s.Part, 8, 5) },
		"a parting since a time":       func(s *impl.Shard) { s.Intents[1].Op = impl.Op{Kind: 3, A: 2 + s.Part, B: 5 - s.Part, N: 1} },
		"stamps turned":                func(s *impl.Shard) { slices.Reverse(s.Seen) },
		"the first stamps turned":      func(s *impl.Shard) { s.Seen[0], s.Seen[1] = s.Seen[1], s.Seen[0] },
		"the last stamps turned":       func(s *impl.Shard) { l := len(s.Seen); s.Seen[l-1], s.Seen[l-2] = s.Seen[l-2], s.Seen[l-1] },
		"a stamp twice":                func(s *impl.Shard) { s.Seen = slices.Insert(s.Seen, 1, s.Seen[0]) },
		"two stamps of one bond":       func(s *impl.Shard) { s.Seen = append(s.Seen, s.Seen[len(s.Seen)-1]); s.Seen[len(s.Seen)-1].Stamp++ },
		"a stamp of B of the other":    func(s *impl.Shard) { s.Seen = []impl.Seen{{A: 2, B: 1 - s.Part, Stamp: 1}} },
		"a stamp of the A -1":          func(s *impl.Shard) { s.Seen[0].A = -1 },
		"a stamp of the A 8":           func(s *impl.Shard) { s.Seen[len(s.Seen)-1].A = 8 },
		"a stamp of the B -2 or -1":    func(s *impl.Shard) { s.Seen[0].B = s.Part - 2 },
		"a stamp of the B 8 or 9":      func(s *impl.Shard) { s.Seen[len(s.Seen)-1].B = 8 + s.Part },
		"a stamp of 0":                 func(s *impl.Shard) { s.Seen[1].Stamp = 0 },
		"a stamp of -1":                func(s *impl.Shard) { s.Seen[1].Stamp = -1 },
		"a stamp of 0 alone":           func(s *impl.Shard) { s.Seen = []impl.Seen{{A: 1, B: s.Part}} },
		"stamps ascending by B": func(s *impl.Shard) {
			s.Seen = []impl.Seen{{A: 3, B: s.Part, Stamp: 1}, {A: 2, B: 2 + s.Part, Stamp: 1}}
		},
		"of one A descending by B": func(s *impl.Shard) {
			s.Seen = []impl.Seen{{A: 3, B: 2 + s.Part, Stamp: 1}, {A: 3, B: s.Part, Stamp: 2}}
		},
	}
	return changes
}

// wrongNumbers are changes after which a number of the part is not right.
func wrongNumbers() map[string]func(s *impl.Shard) {
	return map[string]func(s *impl.Shard){
		"of the part -1":     func(s *impl.Shard) { s.Part = -1 },
		"of the part 2":      func(s *impl.Shard) { s.Part = 2 },
		"of the part 3":      func(s *impl.Shard) { s.Part = 3 },
		"the other part":     func(s *impl.Shard) { s.Part = 1 - s.Part },
		"open, of no part":   func(s *impl.Shard) { *s = impl.Shard{Part: s.Part + 2, Rows: make([]impl.Row, 24)} },
		"open, of part -1":   func(s *impl.Shard) { *s = impl.Shard{Part: -1, Rows: make([]impl.Row, 24)} },
		"fence -1":           func(s *impl.Shard) { s.Fence = -1 },
		"the least fence":    func(s *impl.Shard) { s.Fence = math.MinInt },
		"stamp -1":           func(s *impl.Shard) { s.Stamp, s.Intents = -1, nil },
		"stamp 61":           func(s *impl.Shard) { s.Stamp = 61 },
		"the greatest stamp": func(s *impl.Shard) { s.Stamp = math.MaxInt },
		"nothing":            func(s *impl.Shard) { *s = impl.Shard{} },
	}
}

// wrongParts are parts that are not ok: each is a busy one but for one thing that ShardOk asks.
func wrongParts() map[string]impl.Shard {
	parts := map[string]impl.Shard{}
	for _, changes := range []map[string]func(s *impl.Shard){wrongNumbers(), wrongRows(), wrongDones(), wrongBonds()} {
		for what, change := range changes {
			for which := range 2 {
				s := busyPart(which).shard()
				change(&s)
				parts[fmt.Sprintf("%s, wrong part %d", what, which)] = s
			}
		}
	}
	return parts
}

func TestShardOk(t *testing.T) {
	for what, s := range allRightParts() {
		if !impl.ShardOk(s) {
			t.Errorf("%s: %s is ok", what, partText(s))
		}
		if !impl.ShardOk(emptyLists(s)) {
			t.Errorf("%s: %s is ok with empty lists", what, partText(s))
		}
	}
	for what, s := range wrongParts() {
		if impl.ShardOk(s) {
			t.Errorf("%s: %s is not ok", what, partText(s))
		}
	}
}

// TestShardOkOneCommitOff has each commit of a part with another key, Ver or value: the rows are not what the log comes to.
func TestShardOkOneCommitOff(t *testing.T) {
	for which := range 2 {
		plain := busyPart(which).shard()
		for place, c := range plain.Log {
			other := c.Val
			if c.Key < 8 {
				other.Num++
			} else {
				other = kinChanged(other, 7, impl.Op{Kind: 2, N: 3})
			}
			last := plain.Rows[c.Key].Ver == c.Ver
			for what, changed := range map[string]impl.Commit{
				"the next Ver": {Key: c.Key, Ver: c.Ver + 1, Val: c.Val}, "the Ver ahead": {Key: c.Key, Ver: c.Ver - 1, Val: c.Val},
				"another key": {Key: (c.Key + 2) % 24, Ver: c.Ver, Val: c.Val}, "another value": {Key: c.Key, Ver: c.Ver, Val: other},
			} {
				s := busyPart(which).shard()
				s.Log[place] = changed
				// What a key had earlier is told by the log alone, so it can be any that the key can have.
				if ok, want := impl.ShardOk(s), what == "another value" && !last; ok != want {
					t.Errorf("part %d, commit %d with %s: ok is %v", which, place, what, ok)
				}
			}
		}
	}
}

// otherParts are parts that differ from the one that is given in one thing each.
func otherParts(s impl.Shard) map[string]impl.Shard {
	others := map[string]impl.Shard{}
	change := func(what string, do func(s *impl.Shard)) {
		c := modelOf(s).shard()
		do(&c)
		others[what] = c
	}
	change("part", func(s *impl.Shard) { s.Part++ })
	change("fence", func(s *impl.Shard) { s.Fence++ })
	change("stamp", func(s *impl.Shard) { s.Stamp++ })
	for key := range s.Rows {
		change(fmt.Sprintf("ver %d", key), func(s *impl.Shard) { s.Rows[key].Ver++ })
		change(fmt.Sprintf("num %d", key), func(s *impl.Shard) { s.Rows[key].Val.Num++ })
		change(fmt.Sprintf("kin %d", key), func(s *impl.Shard) { s.Rows[key].Val.Kin = append(s.Rows[key].Val.Kin, impl.Edge{Who: 9}) })
	}
	for place := range s.Log {
		change(fmt.Sprintf("commit %d, key", place), func(s *impl.Shard) { s.Log[place].Key++ })
		change(fmt.Sprintf("commit %d, ver", place), func(s *impl.Shard) { s.Log[place].Ver++ })
		change(fmt.Sprintf("commit %d, num", place), func(s *impl.Shard) { s.Log[place].Val.Num++ })
		change(fmt.Sprintf("commit %d, kin", place), func(s *impl.Shard) { s.Log[place].Val.Kin = append(s.Log[place].Val.Kin, impl.Edge{Who: 9}) })
	}
	for place := range s.Dones {
		for field, do := range []func(d *impl.Done){
			func(d *impl.Done) { d.Req.Who++ }, func(d *impl.Done) { d.Req.Inc++ }, func(d *impl.Done) { d.Req.Seq++ },
			func(d *impl.Done) { d.Key++ }, func(d *impl.Done) { d.Ver++ }, func(d *impl.Done) { d.Code++ },
		} {
			change(fmt.Sprintf("done %d, %d", place, field), func(s *impl.Shard) { do(&s.Dones[place]) })
		}
	}
	for place := range s.Intents {
		for field, do := range []func(in *impl.Intent){
			func(in *impl.Intent) { in.Stamp++ }, func(in *impl.Intent) { in.Op.Kind++ }, func(in *impl.Intent) { in.Op.A++ },
			func(in *impl.Intent) { in.Op.B++ }, func(in *impl.Intent) { in.Op.N++ },
		} {
			change(fmt.Sprintf("intent %d, %d", place, field), func(s *impl.Shard) { do(&s.Intents[place]) })
		}
	}
	for place := range s.Seen {
		change(fmt.Sprintf("seen %d, a", place), func(s *impl.Shard) { s.Seen[place].A++ })
		change(fmt.Sprintf("seen %d, b", place), func(s *impl.Shard) { s.Seen[place].B++ })
		change(fmt.Sprintf("seen %d, stamp", place), func(s *impl.Shard) { s.Seen[place].Stamp++ })
	}
	change("a row less", func(s *impl.Shard) { s.Rows = s.Rows[:23] })
	change("a row more", func(s *impl.Shard) { s.Rows = append(s.Rows, impl.Row{}) })
	change("a done less", func(s *impl.Shard) { s.Dones = s.Dones[:len(s.Dones)-1] })
	change("a done more", func(s *impl.Shard) { s.Dones = append(s.Dones, impl.Done{}) })
	change("an intent less", func(s *impl.Shard) { s.Intents = s.Intents[1:] })
	change("an intent more", func(s *impl.Shard) { s.Intents = append(s.Intents, impl.Intent{}) })
	change("a seen less", func(s *impl.Shard) { s.Seen = s.Seen[:len(s.Seen)-1] })
	change("a seen more", func(s *impl.Shard) { s.Seen = append(s.Seen, impl.Seen{}) })
	change("a commit less", func(s *impl.Shard) { s.Log = s.Log[:len(s.Log)-1] })
	change("a commit more", func(s *impl.Shard) { s.Log = append(s.Log, impl.Commit{}) })
	return others
}

func TestShardSame(t *testing.T) {
	parts := allRightParts()
	// Parts that are not ok are asked too.
	for what, s := range wrongParts() {
		parts[what] = s
	}
	for a, s := range parts {
		if !impl.ShardSame(s, emptyLists(s)) || !impl.ShardSame(emptyLists(s), s) {
			t.Errorf("%s: an empty list is the same as nil", a)
		}
		for b, other := range parts {
			if got, want := impl.ShardSame(s, other), samePart(s, other); got != want {
				t.Errorf("%s and %s: got %v, want %v", a, b, got, want)
			}
		}
	}
}

// TestShardSameOneOff has one thing changed at each place.
func TestShardSameOneOff(t *testing.T) {
	for which := range 2 {
		s := busyPart(which).shard()
		for what, other := range otherParts(s) {
			if impl.ShardSame(s, other) || impl.ShardSame(other, s) {
				t.Errorf("part %d: another %s", which, what)
			}
			if !impl.ShardSame(other, other) {
				t.Errorf("part %d, %s: not the same as itself", which, what)
			}
		}
	}
}

func TestShardFence(t *testing.T) {
	for what, s := range allRightParts() {
		for _, term := range []int{s.Fence - 1, s.Fence, s.Fence + 1, s.Fence + 7, -1, 0, 1, math.MaxInt, math.MinInt} {
			want := modelOf(s).shard()
			if term > s.Fence {
				want.Fence = term
			}
			got := impl.ShardFence(s, term)
			if !samePart(got, want) || !impl.ShardOk(got) {
				t.Errorf("%s, term %d: got %s, want %s", what, term, partText(got), partText(want))
			}
		}
	}
}

// TestShardOfWrong has nothing of what is not ok, whatever is asked.
func TestShardOfWrong(t *testing.T) {
	for what, s := range wrongParts() {
		for _, term := range []int{s.Fence, s.Fence + 1, 0, 2} {
			for _, st := range []shardStep{
				fences(term), fences(9), clears(term, 3), clears(term, 0),
				writes(term, req(0, 9, 9), set(2+s.Part, 5)), writes(term, req(1, 9, 9), turnedTo(s.Part&1, bind(2, 3, 5))),
				writes(term, req(0, 1, 3), set(2+s.Part, 3)), writes(term, req(0, 0, 0), set(2+s.Part, 3)), writes(term, req(2, 9, 9), impl.Op{}),
				backs(term, 9, turnedTo(s.Part&1, bind(1, 2, 5))), backs(term, 1, turnedTo(s.Part&1, part(3, 2))), backs(term, 0, impl.Op{}),
			} {
				got, answer := doStep(s, st)
				if !samePart(got, impl.Shard{}) || answer != notOkAnswer(st) {
					t.Errorf("%s, %v: got %s, %v", what, st, partText(got), answer)
				}
			}
		}
	}
}
