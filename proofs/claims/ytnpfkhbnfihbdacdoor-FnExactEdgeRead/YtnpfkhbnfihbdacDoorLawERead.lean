/- The law FnExactEdgeRead: its walk. -/
import Derived.Test.YtnpfkhbnfihbdacDoorRv
import Derived.Test.YtnpfkhbnfihbdacDoorRn
import Derived.Test.YtnpfkhbnfihbdacDoorEq
import Derived.Test.YtnpfkhbnfihbdacDoorMark
namespace Go.Proofs.YtnpfkhbnfihbdacDoor
open Go.RowKit

theorem readR_length {s : List UInt8} {l : List (Int × Int)} {b : Bool} (h : ReadR s l b) : l.length ≤ 200 := by
  rcases h with ⟨_, _, h1, h2⟩ | ⟨_, rfl, _⟩
  · have hl : ∀ m : List (Int × Int), m.length ≤ (innerL m).length := by
      intro m
      induction m with
      | nil => simp
      | cons e r ih =>
        cases r with
        | nil => unfold innerL; simp [edgeT, Lib.join_cons, Lib.joinTail]; omega
        | cons y r =>
          unfold innerL at ih ⊢
          rw [List.map_cons, Lib.join_cons] at ih ⊢
          rw [List.map_cons, joinTail_cons]
          simp only [List.length_cons, List.length_append] at ih ⊢
          omega
    have := hl l
    rw [← h1, textL] at h2
    simp at h2
    omega
  · simp

/-- What read in an elder world reads on while all below its end stays. -/
theorem Rd.before {B : Nat} {w0 w w' : World} {v : Value} {l : List (Int × Int)} (h0 : Rd w0 v l) (h : Rd w v l) (hB : w0.heap.size ≤ B) (hb : Below B w w') : Rd w' v l := by
  obtain ⟨ao, cap, hv, hl, hc⟩ := h
  obtain ⟨ao', cap', hv', _, hc'⟩ := h0
  subst hv
  cases hv'
  refine ⟨_, _, rfl, hl, fun h1 => ?_⟩
  obtain ⟨b, off, ha, hlt, hcc⟩ := hc h1
  obtain ⟨b', off', ha', hlt', _⟩ := hc' h1
  subst ha
  cases ha'
  refine ⟨_, _, rfl, Nat.lt_of_lt_of_le hlt hb.size, fun i hi => ?_⟩
  obtain ⟨c0, c1⟩ := hcc i hi
  exact ⟨(hb.cell (p := ⟨b, off + i * 2, none⟩) (by show b < B; omega)).trans c0, (hb.cell (p := ⟨b, off + i * 2 + 1, none⟩) (by show b < B; omega)).trans c1⟩

set_option maxRecDepth 100000 in
set_option maxHeartbeats 2000000 in
theorem lawERead_any (s : ByteArray) (w : World) (_ : s.size ≤ maxLen) (hL : Lib4 w) :
    Calls Tryd.prog 3 #[.string s] w fun e w' => e = .returned (.bool true) ∧ Below w.heap.size w w' := by
  by_cases hbig : s.size ≤ 1048576
  · have HL := hid hL
    clear hL
    go_enter Tryd.func3, Tryd.ntmps3
    go_wp2_with fail
    refine (specRead_any s _ hbig).mono ?_
    rintro e w1 ⟨⟨vs, ls, bs, rfl, hs, hsR, hsB⟩, b1⟩
    have HSR := hid hsR
    have HS1 := hid hs
    clear hsR hs hsB
    go_wp2_with fail
    refine (implRead_any s _ hbig (HL.out.below b1)).mono ?_
    rintro e w2 ⟨⟨vg, lg, bg, rfl, og, hgR⟩, b2⟩
    obtain ⟨rfl, rfl⟩ := ReadR.unique HSR.out hgR
    have c2 := b1.trans (b2.mono b1.size)
    have HS2 := hid (HS1.out.later b2)
    have HG2 := hid og
    have hlen := readR_length HSR.out
    have HB1 := hid b1
    clear og hgR
    go_wp2_with fail
    refine (eqEdgeS_any _ _ _ _ _ HG2.out.rd HS2.out).mono ?_
    rintro e w3 ⟨rfl, b3⟩
    rw [eqL_refl]
    have c3 := c2.trans (b3.mono c2.size)
    have HS3 := hid (HS2.out.later b3)
    have HG3 := hid (HG2.out.later b3)
    have b2' : Below w1.heap.size w1 w2 := b2
    clear HS2 HG2 b2
    go_wp2_with fail
    refine (mark_any vg ls 1 _ _ HG3.out (by omega) (by omega) (by omega)).mono ?_
    rintro e w4 ⟨rfl, og4, g4⟩
    have b4 : Below w1.heap.size w3 w4 := Below.of_grown g4 (by have := b2'.size; have := b3.size; omega) (fun k hk => (HG3.out.block k hk).1)
    have HS4 := hid (HS1.out.before HS3.out (Nat.le_refl _) b4)
    have c4 : Below w.heap.size w w4 := c3.trans (b4.mono HB1.out.size)
    have HG4 := hid og4
    clear HS3 HG3 og4 g4
    go_wp2_with fail
    refine (held_any vg ls.length 1 _ HG4.out.rd (by omega) (by omega) (by omega)).mono ?_
    rintro e w5 ⟨rfl, rfl⟩
    go_wp2_with fail
    refine (implRead_any s _ hbig (HL.out.below c4)).mono ?_
    rintro e w6 ⟨⟨vh, lh, bh, rfl, oh, hhR⟩, b6⟩
    obtain ⟨rfl, rfl⟩ := ReadR.unique HSR.out hhR
    have c6 := c4.trans (b6.mono c4.size)
    have HS6 := hid (HS4.out.later b6)
    have HG6 := hid (HG4.out.later b6)
    have HH6 := hid oh
    clear oh hhR HS4 HG4 b6
    go_wp2_with fail
    refine (eqEdgeS_any _ _ _ _ _ HH6.out.rd HS6.out).mono ?_
    rintro e w7 ⟨rfl, b7⟩
    rw [eqL_refl]
    have c7 := c6.trans (b7.mono c6.size)
    have HG7 := hid (HG6.out.later b7)
    clear HS6 HG6 HH6
    go_wp2_with fail
    refine (held_any vg ls.length 1 _ HG7.out.rd (by omega) (by omega) (by omega)).mono ?_
    rintro e w8 ⟨rfl, rfl⟩
    go_wp2
    go_ret
    exact ⟨by simp, c7⟩
  · go_enter Tryd.func3, Tryd.ntmps3
    go_wp2
    go_ret
    exact ⟨by simp, Below.refl _ _⟩
end Go.Proofs.YtnpfkhbnfihbdacDoor
