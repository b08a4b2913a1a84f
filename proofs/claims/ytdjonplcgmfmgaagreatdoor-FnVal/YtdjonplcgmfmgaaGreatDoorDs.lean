/- The draw of a text, torn or not: contract. -/
import Derived.Test.YtdjonplcgmfmgaaGreatDoorSo
namespace Go.Proofs.YtdjonplcgmfmgaaGreatDoor
open Go.RowKit Go.Shelf

theorem strs_six (w : World) (a b c d e f : ByteArray) (P : ByteArray → Prop) (ha : P a) (hb : P b) (hc : P c) (hd : P d) (he : P e) (hf : P f) : Strs (w.alloc (.cells #[.string a, .string b, .string c, .string d, .string e, .string f] 9)) w.heap.size 6 P := by
  refine ⟨by simp, fun i hi => ?_⟩
  rcases i with _ | _ | _ | _ | _ | _ | i
  · exact ⟨a, by go_cell, ha⟩
  · exact ⟨b, by go_cell, hb⟩
  · exact ⟨c, by go_cell, hc⟩
  · exact ⟨d, by go_cell, hd⟩
  · exact ⟨e, by go_cell, he⟩
  · exact ⟨f, by go_cell, hf⟩
  · omega

theorem wrap_small {m : Nat} (h : m ≤ 400) : IntKind.i64.wrap (m : Int) = (m : Int) := by
  simp [IntKind.wrap, IntKind.bits, IntKind.signed]
  omega
theorem Strs.drew {w : World} {b m : Nat} {P : ByteArray → Prop} (h : Strs w b m P) : Strs w.drew b m P := ⟨by simpa using h.1, fun i hi => by simpa using h.2 i hi⟩
theorem first_strs (w : World) (P : ByteArray → Prop) (ha : P ⟨#[]⟩) (hb : P ⟨#[48]⟩) (hc : P ⟨#[64]⟩) (hd : P ⟨#[32]⟩) (he : P ⟨#[41]⟩) (hf : P ⟨#[45]⟩) : Strs (w.alloc (.cells #[.string ⟨#[]⟩, .string ⟨#[48]⟩, .string ⟨#[64]⟩, .string ⟨#[32]⟩, .string ⟨#[41]⟩, .string ⟨#[45]⟩] 9)).drew w.heap.size 6 P :=
  (strs_six w _ _ _ _ _ _ P ha hb hc hd he hf).drew

set_option maxHeartbeats 2000000 in
theorem drawEdgeRead_any (v : Value) (n : Nat) (w : World) (h : Bs w v n) :
    Calls Tryz.prog 12 #[v] w fun e w' => ∃ s : ByteArray, e = .returned (.string s) ∧ s.size ≤ 1000 ∧ Below w.heap.size w w' := by
  obtain ⟨ao, cap, rfl, h0, h1, h2, h3⟩ := h
  go_enter Tryz.func12, Tryz.ntmps12
  go_wp2_with fail
  refine (open_any ao n cap _ h0 h1 h2 h3).mono ?_
  rintro e w1 ⟨g, rfl, R1, b1⟩
  go_wp2_with fail
  refine (l1List_any g 0 w.heap.size _ R1 (by omega)).mono ?_
  rintro e w2 ⟨u, l, q, rfl, L, hl, _, hq, hbd⟩
  have b2 : Below w.heap.size w w2 := b1.grown L.2.2.1 b1.size (fun k e => by cases e; exact R1.1)
  have HL := hid L
  have HB := hid hbd
  clear L hbd
  go_wp2_with fail
  refine (specText_any u l _ HL.out.1.rd (by omega) (bd_wf HB.out)).mono ?_
  rintro e w3 ⟨rfl, b3⟩
  have b3' : Below w.heap.size w w3 := b2.trans (b3.mono b2.size)
  have R3 := hid (HL.out.below b3).2.1
  obtain ⟨s, hs⟩ : ∃ s : ByteArray, s = ⟨(textL l).toArray⟩ := ⟨_, rfl⟩
  have hs0 : s.size = (textL l).length := by rw [hs]; rfl
  have hs1 : 2 ≤ s.size := by rw [hs0]; simp [textL]
  have hs2 : s.size ≤ 400 := by have := text_len HB.out; omega
  rw [← hs]
  clear hs hs0 b3 HL
  go_wp2_with fail
  refine (pick_any g q 2 w.heap.size _ R3.out (by omega) (by omega)).mono ?_
  rintro e w4 ⟨r, rfl, _, _, R4', g4⟩
  have R4 := hid R4'
  have b4 : Below w.heap.size w w4 := b3'.grown g4 b3'.size (fun k e => by cases e; exact R1.1)
  clear R4' g4 R3
  by_cases hr : r = 0
  · subst hr
    go_wp2
    go_ret
    exact ⟨s, rfl, by omega, b4⟩
  · go_wp2_with fail
    refine (pick_any g (q + 1) s.size w.heap.size _ R4.out (by omega) (by omega)).mono ?_
    rintro e w5 ⟨k0, rfl, hk0, hk1, R5', g5⟩
    obtain ⟨k, rfl⟩ : ∃ k : Nat, k0 = (k : Int) := ⟨k0.toNat, by omega⟩
    have hk : k < s.size := by have := hk1 (by omega); omega
    have R5 := hid R5'
    have b5 : Below w.heap.size w w5 := b4.grown g5 b4.size (fun k e => by cases e; exact R1.1)
    clear R5' g5 R4 hk1 hk0
    have R5w := R5.out.2.1
    have c5 := b5.size
    go_wp2_with fail
    go_region_with (first
      | (go_at_call 37; go_loud (refine (of_any g (q + 2) w5.heap.size 6 6 w.heap.size (fun z => z.size ≤ 1) _ (R5.out.later (((Below.refl _ w5).alloc (Nat.le_refl _) _).drew)) (by omega) (by omega) (by omega) (by omega) (first_strs w5 _ (by decide) (by decide) (by decide) (by decide) (by decide) (by decide))).mono ?_; rintro e w6 ⟨z, rfl, hz, R6', g6⟩; have R6 := hid R6'; have b6 : Below w.heap.size w w6 := (b5.trans ((((Below.refl _ w5).alloc (Nat.le_refl _) _).drew).mono b5.size)).grown g6 (by simp; omega) (fun k e => by cases e; exact R1.1); clear R6' g6))
      | (go_at_call 27; refine (pick_any g (q + 2 + 1) 2 w.heap.size _ R6.out (by omega) (by omega)).mono ?_; rintro e w7 ⟨j0, rfl, hj0, hj1, R7', g7⟩; obtain ⟨j, rfl⟩ : ∃ j : Nat, j0 = (j : Int) := ⟨j0.toNat, (Int.toNat_of_nonneg hj0).symm⟩; have hj := hj1 (by omega); obtain ⟨m, hkm⟩ : ∃ m : Nat, (k : Int) + (j : Int) = (m : Int) := ⟨k + j, (by omega)⟩; have hm : m ≤ s.size := (by omega); have hmi : (m : Int) ≤ (s.size : Int) := (by omega); have hmw := wrap_small (m := m) (by omega); have b7 : Below w.heap.size w w7 := b6.grown g7 b6.size (fun k e => by cases e; exact R1.1); clear R7' g7 hj1 hj0))
    all_goals
      go_wp2
    all_goals
      go_ret
      refine ⟨_, rfl, ?_, b7⟩
      rw [ByteArray.size_append, ByteArray.size_append, ByteArray.size_extract, ByteArray.size_extract]
      have hz' : z.size ≤ 1 := hz
      omega
end Go.Proofs.YtdjonplcgmfmgaaGreatDoor
