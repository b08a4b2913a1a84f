package tests

import (
	"fmt"
	"slices"
	"testing"

	"loop.example/kith/impl"
)

// readingTier waits for a read of the key 20, of a part that it has joined.
func readingTier() tierModel {
	m := joinedTier()
	m.waits, m.key = "read", 20
	return m
}

// writingTier waits for a write of the key 18.
func writingTier() tierModel {
	m := joinedTier()
	m.waits, m.op = "write", bind(2, 3, 5)
	return m
}

func TestTierFilled(t *testing.T) {
	a := asked(t, readingTier())
	a.says("filled 1 0 7 3 0 20 4 (3@5)", "tier 1 has 20 4 (3@5) code 0")
	a.waits(false, false, 0, impl.Op{}, 3)
	a.has(20, 4, 7, 0, 2, 5, 18, 7)
	a.floor(20, 4)
	// It comes twice: it is put once more, and nothing is told.
	a.does(asksRead(18), "tier 1 has 18 7 (3@5) code 0")
	a.says("filled 1 0 7 3 0 20 4 (3@5)")
	a.has(20, 4, 18, 7, 7, 0, 2, 5)
	// Of another request of this life it is as good, of another key it is put too.
	for _, seq := range []int{0, 1, 2, 4, 1000} {
		b := asked(t, readingTier())
		b.says(fmt.Sprintf("filled 1 1 7 %d 0 9 1 (1@1)", seq))
		b.waits(true, true, 20, impl.Op{}, 3)
		b.has(9, 1, 7, 0, 2, 5, 18, 7)
		b.says(fmt.Sprintf("filled 1 0 7 %d 0 20 0 ()", seq), "tier 1 has 20 0 () code 0")
		b.has(20, 0, 9, 1, 7, 0, 2, 5)
	}
	for _, m := range []tierModel{writingTier(), joinedTier()} {
		b := asked(t, m)
		b.says("filled 1 0 7 3 0 18 8 (3@6)")
		b.has(18, 8, 7, 0, 2, 5, 11, 3)
		b.waits(m.waits != "", false, 0, m.op, 3)
	}
}

// TestTierFilledOld has items above, at and below the floor of their key.
func TestTierFilledOld(t *testing.T) {
	m := readingTier()
	m.cache = m.cache.after(floors(20, 4))
	a := asked(t, m)
	a.stays(asksTake(itemMsg(msgOf(2, 1, 0, 7, 3), item(20, 3, bond(3, 5)))))
	a.stays(asksTake(itemMsg(msgOf(2, 1, 0, 7, 3), item(20, 0, bond()))))
	a.does(asksRetry(), "fill 1 0 7 3 20 0")
	for _, ver := range []int{4, 5, 60} {
		b := asked(t, m)
		b.says(fmt.Sprintf("filled 1 0 7 3 0 20 %d (3@5)", ver), fmt.Sprintf("tier 1 has 20 %d (3@5) code 0", ver))
		b.floor(20, ver)
	}
	// An older one of a key that the cache has is not put, so that one is not the first.
	a.stays(asksTake(itemMsg(msgOf(2, 1, 0, 7, 3), item(18, 6, bond(3, 4)))))
	a.has(7, 0, 2, 5, 18, 7, 11, 3)
	a.says("filled 1 0 7 3 0 18 7 (3@4)")
	a.has(18, 7, 7, 0, 2, 5, 11, 3)
}

// TestTierFilledLife has answers of an earlier life, and of a later one: they tell nothing.
func TestTierFilledLife(t *testing.T) {
	for _, m := range []tierModel{readingTier(), writingTier(), joinedTier()} {
		for _, inc := range []int{0, 6, 8, 1000} {
			for _, key := range []int{20, 18, 9} {
				for _, ver := range []int{0, 7, 8, 60} {
					a := asked(t, m)
					a.stays(asksTake(itemMsg(msgOf(2, 1, key%2, inc, 3), item(key, ver, bond(3, 5)))))
				}
			}
		}
	}
}

// TestTierFilledNotJoined has the item that is waited for, of a part that isn't joined: it is not told till it is.
func TestTierFilledNotJoined(t *testing.T) {
	m := readingTier()
	m.joined = [2]bool{false, true}
	a := asked(t, m)
	a.says("filled 1 0 7 3 0 20 4 (3@5)")
	a.has(20, 4, 7, 0, 2, 5, 18, 7)
	a.waits(true, true, 20, impl.Op{}, 3)
	a.does(asksRetry(), "join 1 0 7 0")
	// What came is as new as when it was joined.
	b := *a
	b.says("joined 1 0 7 0 0 0 0 0 0 0 0 0 0 0 0 0 0 0 0 0 0 0 0 0 4 0 0 0", "tier 1 has 20 4 (3@5) code 0")
	b.has(20, 4, 7, 0, 2, 5, 18, 7)
	// What came is older than that.
	a.says("joined 1 0 7 0 0 0 0 0 0 0 0 0 0 0 0 0 0 0 0 0 0 0 0 0 5 0 0 0", "fill 1 0 7 3 20 0")
	a.has(7, 0, 2, 5, 18, 7)
	a.floor(20, 5)
	a.says("filled 1 0 7 3 0 20 4 (3@5)")
	a.says("filled 1 0 7 3 0 20 5 (3@6)", "tier 1 has 20 5 (3@6) code 0")
}

func TestTierWrote(t *testing.T) {
	for code := range 6 {
		a := asked(t, writingTier())
		a.says(fmt.Sprintf("wrote 1 0 7 3 %d 18 8 (3@5 1@1)", code), fmt.Sprintf("tier 1 wrote 18 8 (3@5 1@1) code %d", code))
		a.waits(false, false, 0, impl.Op{}, 3)
		a.has(18, 8, 7, 0, 2, 5, 11, 3)
		a.floor(18, 8)
		// It comes twice.
		a.stays(asksTake(codeMsg(itemMsg(msgOf(4, 1, 0, 7, 3), item(18, 8, bond(3, 5, 1, 1))), code)))
		a.does(asksRead(18), "tier 1 has 18 8 (3@5 1@1) code 0")
		// Nor is it put, when it is not waited for any more.
		a.stays(asksTake(codeMsg(itemMsg(msgOf(4, 1, 0, 7, 4), item(18, 9, bond(3, 5))), code)))
	}
	thing := joinedTier()
	thing.id, thing.waits, thing.op, thing.joined = 0, "write", set(3, 7), [2]bool{}
	a := asked(t, thing)
	// Of what it wrote it tells, joined or not.
	a.says("wrote 0 1 7 3 0 3 1 7", "tier 0 wrote 3 1 7 code 0")
	a.does(asksRead(3), "join 0 1 7 0")
}

// TestTierWroteOld has an item below the floor of its key: it is told, but not put.
func TestTierWroteOld(t *testing.T) {
	m := writingTier()
	m.cache = m.cache.after(floors(18, 9))
	a := asked(t, m)
	a.says("wrote 1 0 7 3 4 18 8 (3@5)", "tier 1 wrote 18 8 (3@5) code 4")
	a.waits(false, false, 0, impl.Op{}, 3)
	a.has(7, 0, 2, 5, 11, 3)
	a.floor(18, 9)
	b := asked(t, m)
	b.says("wrote 1 0 7 3 0 18 9 (3@5)", "tier 1 wrote 18 9 (3@5) code 0")
	b.has(18, 9, 7, 0, 2, 5, 11, 3)
	c := asked(t, writingTier())
	c.says("wrote 1 0 7 3 0 18 6 (2@5)", "tier 1 wrote 18 6 (2@5) code 0")
	// A newer one was in the cache, and stays where it is.
	c.has(7, 0, 2, 5, 18, 7, 11, 3)
}

// TestTierWroteOther has answers that are not of what it waits for: nothing happens.
func TestTierWroteOther(t *testing.T) {
	wrote := func(inc int, seq int, it impl.Item) tierStep {
		return asksTake(itemMsg(msgOf(4, 1, it.Key%2, inc, seq), it))
	}
	young := item(18, 8, bond(3, 6))
	for _, st := range []tierStep{
		wrote(6, 3, young), wrote(8, 3, young), wrote(0, 3, young), wrote(1000, 3, young), wrote(7, 2, young), wrote(7, 4, young), wrote(7, 0, young), wrote(7, 1000, young), wrote(6, 2, young), wrote(8, 4, young),
		wrote(7, 3, item(2, 8, thing(5))), wrote(7, 3, item(11, 8, bond(2, 5))), wrote(7, 3, item(20, 8, bond(3, 6))), wrote(7, 3, item(16, 8, bond(3, 6))), wrote(7, 3, item(10, 8, bond(3, 6))), wrote(7, 3, item(0, 8, thing(0))),
	} {
		asked(t, writingTier()).stays(st)
	}
	for _, key := range []int{20, 18, 9} {
		m := readingTier()
		m.key = key
		for _, it := range []impl.Item{young, item(20, 8, bond(3, 6)), item(9, 1, bond(1, 2))} {
			if key != 18 {
				asked(t, m).stays(wrote(7, 3, it))
			}
			asked(t, joinedTier()).stays(wrote(7, 3, it))
		}
	}
}

// TestTierWroteSendsNone has answers of a write to a tier that could be told what it waits for: nothing goes on.
func TestTierWroteSendsNone(t *testing.T) {
	m := readingTier()
	m.key = 18
	for _, it := range []impl.Item{item(18, 8, bond(3, 6)), item(18, 7, bond(3, 5)), item(2, 6, thing(6))} {
		asked(t, m).stays(asksTake(itemMsg(msgOf(4, 1, 0, 7, 3), it)))
	}
}

func TestTierNews(t *testing.T) {
	a := asked(t, readingTier())
	// Of a key that the cache has, they come in its place.
	a.says("news 1 0 0 0 0 18 8 (3@6)")
	a.has(18, 8, 7, 0, 2, 5, 11, 3)
	a.says("news 1 0 0 0 0 18 8 (3@7)")
	a.says("news 1 1 0 0 0 11 4 (2@9)")
	a.has(11, 4, 18, 8, 7, 0, 2, 5)
	a.stays(asksTake(itemMsg(msgOf(5, 1, 0, 0, 0), item(18, 7, bond(3, 5)))))
	a.stays(asksTake(itemMsg(msgOf(5, 1, 0, 0, 0), item(18, 0, bond()))))
	// Of another key, they are its floor.
	a.says("news 1 0 0 0 0 20 4 (3@5)")
	a.floor(20, 4)
	a.has(11, 4, 18, 8, 7, 0, 2, 5)
	a.stays(asksTake(itemMsg(msgOf(5, 1, 0, 0, 0), item(20, 4, bond(3, 5)))))
	a.stays(asksTake(itemMsg(msgOf(5, 1, 0, 0, 0), item(20, 3, bond(3, 5)))))
	a.waits(true, true, 20, impl.Op{}, 3)
	a.says("filled 1 0 7 3 0 20 3 (3@5)")
	a.says("filled 1 0 7 3 0 20 5 (3@9)", "tier 1 has 20 5 (3@9) code 0")
	// News are of no life.
	b := asked(t, tierModel{id: 1, inc: 1000})
	b.says("news 1 1 0 0 0 3 60 5")
	b.floor(3, 60)
	b.has()
}

func TestTierGone(t *testing.T) {
	a := asked(t, readingTier())
	a.stays(asksTake(itemMsg(msgOf(6, 1, 0, 0, 0), item(18, 7, impl.Val{}))))
	a.stays(asksTake(itemMsg(msgOf(6, 1, 0, 0, 0), item(18, 6, impl.Val{}))))
	a.stays(asksTake(itemMsg(msgOf(6, 1, 0, 0, 0), item(20, 0, impl.Val{}))))
	a.says("gone 1 0 0 0 18 8")
	a.has(7, 0, 2, 5, 11, 3)
	a.floor(18, 8)
	a.says("gone 1 0 0 0 20 4")
	a.floor(20, 4)
	a.says("gone 1 1 0 0 7 60")
	a.has(2, 5, 11, 3)
	a.stays(asksTake(itemMsg(msgOf(6, 1, 0, 0, 0), item(20, 3, impl.Val{}))))
	a.says("filled 1 0 7 3 0 20 3 (3@5)")
	a.says("filled 1 0 7 3 0 20 4 (3@5)", "tier 1 has 20 4 (3@5) code 0")
	for _, m := range []tierModel{writingTier(), joinedTier()} {
		b := asked(t, m)
		b.says("gone 1 0 0 0 18 8")
		b.waits(m.waits != "", false, 0, m.op, 3)
		b.has(7, 0, 2, 5, 11, 3)
	}
}

// TestTierGoesOn has messages to a tier that waits for what it can be told: it is told, whatever the message is for; if not, nothing is sent.
func TestTierGoesOn(t *testing.T) {
	m := readingTier()
	m.key = 18
	for _, text := range []string{
		"news 1 0 0 0 0 20 4 (3@5)", "news 1 0 0 0 0 18 7 (3@5)", "news 1 0 0 0 0 18 6 (3@9)", "gone 1 1 0 0 9 4", "gone 1 0 0 0 18 7", "filled 1 0 7 9 0 20 4 (3@5)", "filled 1 0 7 3 0 18 6 (3@9)", "filled 1 0 6 3 0 18 8 (3@9)",
		"joined 1 0 7 0 1 2 3 4 5 6 7 8 9 10 11 12 13 14 15 16 17 18 19 20 21 22 23 24", "joined 1 1 7 0 1 2 3 4 5 6 7 8 9 10 11 12 13 14 15 16 17 18 19 20 21 22 23 24", "joined 1 0 8 0 1 2 3 4 5 6 7 8 9 10 11 12 13 14 15 16 17 18 19 20 21 22 23 24",
	} {
		asked(t, m).says(text, "tier 1 has 18 7 (3@5) code 0")
	}
	asked(t, m).says("news 1 0 0 0 0 18 8 (3@6)", "tier 1 has 18 8 (3@6) code 0")
	asked(t, m).says("filled 1 0 7 3 0 18 8 (3@6)", "tier 1 has 18 8 (3@6) code 0")
	asked(t, m).says("gone 1 0 0 0 18 8")
	m.joined = [2]bool{false, true}
	for _, text := range []string{"news 1 0 0 0 0 18 8 (3@6)", "filled 1 0 7 3 0 18 8 (3@6)", "gone 1 0 0 0 2 9", "joined 1 0 8 0 0 0 0 0 0 0 0 0 0 0 0 0 0 0 0 0 0 0 0 0 0 0 0 0", "joined 1 1 7 0 0 0 0 0 0 0 0 0 0 0 0 0 0 0 0 0 0 0 0 0 0 0 0 0"} {
		a := asked(t, m)
		a.says(text)
		a.waits(true, true, 18, impl.Op{}, 3)
	}
}

func TestTierJoined(t *testing.T) {
	m := readingTier()
	m.joined = [2]bool{}
	a := asked(t, m)
	a.does(asksRetry(), "join 1 0 7 0")
	// Of the part's keys the Vers are the floors, as far as they are above them; an item below its floor is gone.
	a.says("joined 1 0 7 0 1 60 4 60 3 60 2 60 9 60 8 60 7 60 6 60 5 60 8 60 0 60 60 60", "fill 1 0 7 3 20 0")
	if want := []int{1, 0, 5, 0, 3, 0, 2, 0, 9, 0, 8, 3, 7, 0, 6, 0, 5, 0, 8, 0, 0, 0, 60, 0}; !slices.Equal(a.tier.Cache.Floors, want) || a.tier.Joined != [2]bool{true, false} {
		t.Errorf("got %s", tierText(a.tier))
	}
	a.has(7, 0, 2, 5, 11, 3)
	a.waits(true, true, 20, impl.Op{}, 3)
	// A second one changes no floor, and sends nothing.
	a.stays(asksTake(versMsg(msgOf(8, 1, 0, 7, 0), slices.Repeat([]int{60}, 24)...)))
	a.stays(asksTake(versMsg(msgOf(8, 1, 0, 7, 0), make([]int, 24)...)))
	// The other part is joined by another one; what is waited for is asked for again.
	a.says("joined 1 1 7 0 60 1 60 1 60 1 60 1 60 1 60 3 60 1 60 1 60 1 60 1 60 1 60 1", "fill 1 0 7 3 20 0")
	if want := []int{1, 1, 5, 1, 3, 1, 2, 1, 9, 1, 8, 3, 7, 1, 6, 1, 5, 1, 8, 1, 0, 1, 60, 1}; !slices.Equal(a.tier.Cache.Floors, want) || a.tier.Joined != [2]bool{true, true} {
		t.Errorf("got %s", tierText(a.tier))
	}
	a.has(2, 5, 11, 3)
	a.stays(asksTake(versMsg(msgOf(8, 1, 1, 7, 0), slices.Repeat([]int{60}, 24)...)))
}

// TestTierJoinedLife has answers of other lives: nothing is joined.
func TestTierJoinedLife(t *testing.T) {
	for _, m := range []tierModel{readingTier(), writingTier(), joinedTier()} {
		m.joined = [2]bool{}
		for _, inc := range []int{0, 6, 8, 1000} {
			for part0 := range 2 {
				for _, vers := range [][]int{make([]int, 24), someVers(), slices.Repeat([]int{60}, 24)} {
					asked(t, m).stays(asksTake(versMsg(msgOf(8, 1, part0, inc, 0), vers...)))
				}
			}
		}
	}
}

// TestTierJoinedThen has what comes behind a part's being joined: it goes on, whatever it waits for, and sends.
func TestTierJoinedThen(t *testing.T) {
	zeros := " 0 0 0 0 0 0 0 0 0 0 0 0 0 0 0 0 0 0 0 0 0 0 0 0"
	m := readingTier()
	m.joined, m.key = [2]bool{}, 18
	a := asked(t, m)
	// The item that it has is as new as it is: it is told, and nothing is sent.
	a.says("joined 1 0 7 0"+zeros, "tier 1 has 18 7 (3@5) code 0")
	a.has(18, 7, 7, 0, 2, 5, 11, 3)
	a.waits(false, false, 0, impl.Op{}, 3)
	// The part of another key: that one's part is asked for again.
	b := asked(t, m)
	b.says("joined 1 1 7 0"+zeros, "join 1 0 7 0")
	b.says("joined 1 0 7 0"+zeros, "tier 1 has 18 7 (3@5) code 0")
	c := asked(t, writingTier())
	c.m.joined = [2]bool{}
	c.tier.Joined = [2]bool{}
	c.says("joined 1 1 7 0"+zeros, "write 1 0 7 3 2 2 3 5")
	c.says("joined 1 0 7 0"+zeros, "write 1 0 7 3 2 2 3 5")
	c.says("joined 1 0 7 0" + zeros)
	c.waits(true, false, 0, bind(2, 3, 5), 3)
	d := asked(t, tierModel{})
	d.says("joined 0 1 0 0" + zeros)
	d.says("joined 0 0 0 0" + zeros)
	d.waits(false, false, 0, impl.Op{}, 0)
	if d.tier.Joined != [2]bool{true, true} {
		t.Errorf("got %s", tierText(d.tier))
	}
	// In the next life nothing is joined.
	d.does(asksFall())
	d.stays(asksTake(versMsg(msgOf(8, 0, 1, 0, 0), make([]int, 24)...)))
	d.does(asksRead(11), "join 0 1 1 0")
	d.says("joined 0 1 1 0"+zeros, "fill 0 1 1 1 11 0")
	d.stays(asksTake(itemMsg(msgOf(2, 0, 1, 0, 1), item(11, 3, bond(2, 9)))))
	d.says("filled 0 1 1 1 0 11 3 (2@9)", "tier 0 has 11 3 (2@9) code 0")
}

// TestTierNothingHappens has messages that are not ok, that go to who leads, and that are another tier's.
func TestTierNothingHappens(t *testing.T) {
	changes := slices.Concat(numberChanges(), itemChanges(), listChanges())
	for waits, m := range plainTiers() {
		m.joined = [2]bool{}
		before := m.tier()
		var msgs []impl.Msg
		for part0 := range 2 {
			for kind, plain := range plainMsgs(part0) {
				if kind != 5 && kind != 6 {
					plain.Inc = m.inc
				}
				other := keptMsg(plain)
				other.Tier = 1 - m.id
				msgs = append(msgs, other)
				if msgKinds[kind].up {
					msgs = append(msgs, plain)
				}
				for _, change := range changes {
					one := keptMsg(plain)
					change.do(&one)
					if !msgTold(one) {
						msgs = append(msgs, one)
					}
				}
			}
		}
		for _, msg := range msgs {
			got, a := doTier(m.tier(), asksTake(msg))
			if !sameTier(got, before) || len(a.sent)+len(a.told) != 0 {
				t.Errorf("%s, %+v: got %s, %v", waits, msg, tierText(got), a)
			}
		}
	}
}

// TestTierTakeEach has each of many messages to each tier that is ok.
func TestTierTakeEach(t *testing.T) {
	came := map[string]int{}
	for what, m := range rightTiers() {
		for _, msg := range tierMsgs(m) {
			next, a := wantTier(t, what, m, asksTake(msg))
			told := fmt.Sprintf("%d of %q to %q, sent %d, told %d", msg.Kind, m.waits, next.waits, len(a.sent), len(a.told))
			came[told]++
			if !sameTier(m.tier(), next.tier()) {
				came[fmt.Sprintf("%d of %q: another", msg.Kind, m.waits)]++
			}
		}
	}
	for _, what := range []string{
		`2 of "" to "", sent 0, told 0`, `2 of "read" to "read", sent 0, told 0`, `2 of "read" to "", sent 0, told 1`, `2 of "write" to "write", sent 0, told 0`,
		`4 of "" to "", sent 0, told 0`, `4 of "read" to "read", sent 0, told 0`, `4 of "write" to "write", sent 0, told 0`, `4 of "write" to "", sent 0, told 1`,
		`5 of "" to "", sent 0, told 0`, `5 of "read" to "read", sent 0, told 0`, `5 of "read" to "", sent 0, told 1`, `5 of "write" to "write", sent 0, told 0`,
		`6 of "" to "", sent 0, told 0`, `6 of "read" to "read", sent 0, told 0`, `6 of "read" to "", sent 0, told 1`, `6 of "write" to "write", sent 0, told 0`,
		`8 of "" to "", sent 0, told 0`, `8 of "read" to "read", sent 0, told 0`, `8 of "read" to "read", sent 1, told 0`, `8 of "read" to "", sent 0, told 1`, `8 of "write" to "write", sent 0, told 0`, `8 of "write" to "write", sent 1, told 0`,
		`2 of "": another`, `2 of "write": another`, `5 of "": another`, `5 of "write": another`, `6 of "": another`, `6 of "write": another`, `8 of "": another`,
	} {
		if came[what] < 20 {
			t.Errorf("%s came but %d times: %v", what, came[what], came)
		}
	}
	for _, what := range []string{`4 of "": another`, `4 of "read": another`, `1 of "": another`, `3 of "": another`, `7 of "read": another`, `9 of "": another`, `10 of "": another`} {
		if came[what] > 0 {
			t.Errorf("%s came %d times", what, came[what])
		}
	}
}

// TestTierTakeAll has all messages that are ok, to tiers that wait for whatever they can, and those too that are far from any that is.
func TestTierTakeAll(t *testing.T) {
	msgs := slices.Concat(rightMsgs(), memoryMsgs())
	for waits, m := range plainTiers() {
		for _, joined := range [][2]bool{{}, {true, true}} {
			m.joined = joined
			for _, msg := range msgs {
				wantTier(t, waits, m, asksTake(msg))
			}
		}
	}
}
