/- spec.EdgeRead: contract, whole. -/
import Derived.Test.YtdjonplcgmfmgaaGreatDoorRm
namespace Go.Proofs.YtdjonplcgmfmgaaGreatDoor
open Go.RowKit Go.Shelf

set_option maxRecDepth 10000 in
set_option maxHeartbeats 2000000 in
theorem specRead_two (s : ByteArray) (w : World) (h0 : 2 ≤ s.size) (h1 : ¬ 2 < s.size) (hc : (s[0].toNat : Int) = 40) (hd : (s[s.size - 1].toNat : Int) = 41) :
    Calls Tryz.prog 13 #[.string s] w fun e w' => ReadP s.data.toList w.heap.size w' e ∧ Below w.heap.size w w' := by
  obtain ⟨t, ht⟩ : ∃ t, s.extract 1 (s.size - 1) = t := ⟨_, rfl⟩
  have hts : t.size ≤ 200 := by rw [← ht, ByteArray.size_extract]; omega
  have hs : s.size ≤ 200 := by omega
  have hsT : Hid (s.data.toList = textL []) := hidT (by
    have h : s.size = 2 := by omega
    have h1 : s.data.toList.length = 2 := h
    refine List.ext_getElem (by rw [h1]; decide) (fun i i1 i2 => ?_)
    have h3 : i = 0 ∨ i = 1 := by omega
    rcases h3 with rfl | rfl
    · have e : s.data.toList[0] = s[0] := rfl
      rw [e]
      exact u8_eq (by rw [hc]; rfl)
    · have e : s.data.toList[1] = s[1]'(by omega) := rfl
      have e2 : s[1]'(by omega) = s[s.size - 1] := by simp only [h]
      rw [e, e2]
      exact u8_eq (by rw [hd]; rfl))
  obtain ⟨P, hP⟩ : ∃ P, cutL 32 t.data.toList = P := ⟨_, rfl⟩
  have hP0 : 0 < P.length := by rw [← hP]; exact cut_some _ _
  have hP1 : P.length ≤ 201 := by rw [← hP]; have := cut_many 32 t.data.toList; have e : t.data.toList.length = t.size := rfl; omega
  have g0 : decide ((s.size : Int) < 2) = false := decide_eq_false (by omega)
  have g1 : decide (200 < (s.size : Int)) = false := decide_eq_false (by omega)
  have g2 : decide (2 < (s.size : Int)) = false := decide_eq_false (by omega)
  have e1 : ((s.size : Int) - 1) = ((s.size - 1 : Nat) : Int) := by omega
  go_enter Tryz.func13, Tryz.ntmps13
  go_wp2_with fail
  have hcut := cut_any t 32 (w.alloc (.cells #[] 53)) (by omega)
  rw [hP, show (((32 : UInt8).toNat : Nat) : Int) = 32 from rfl] at hcut
  refine hcut.mono ?_
  rintro e w1 ⟨v, rfl, row, b1⟩
  obtain ⟨g, cp, rfl, hg, L1⟩ := lies_row row hP0
  clear hcut row L1 hg
  have hbw : Below w.heap.size w w1 := ((Below.refl _ w).alloc (Nat.le_refl _) (.cells #[] 53)).trans (b1.mono (by simp))
  have row0 : w1.ownsRow w.heap.size 53 2 (.slice (some ⟨w.heap.size, 0, none⟩) 0 0) 0 (ecells []) := row_later (World.ownsRow_lit w #[] 0 (Nat.le_refl _) (Nat.zero_le _) rfl) b1
  have hown : Own w1 w.heap.size (.slice (some ⟨w.heap.size, 0, none⟩) 0 0) [] := row0
  have HO := hid hown
  clear hown row0 b1
  have hsz := hbw.size
  go_wp2_with fail
  go_loopw [5, 7] (fun u i wr => u = .slice (some ⟨w.heap.size, 0, none⟩) 0 0 ∧ i = .int .i64 0 ∧ wr = w1) (fun _ _ _ => 0)
  case atStart => exact ⟨rfl, rfl, rfl⟩
  case round =>
    obtain ⟨rfl, rfl, rfl⟩ := hrel
    go_wp2_with fail
    refine (specOk_any _ [] _ HO.out.rd).mono ?_
    rintro e w2 ⟨rfl, b2⟩
    rw [show okL [] = true from rfl]
    go_wp2_with fail
    refine (specText_any _ [] _ (HO.out.rd.later b2) (by decide) (small_wf (fun x hx => by cases hx))).mono ?_
    rintro e w3 ⟨rfl, b3⟩
    have hb2 := b2.mono hsz
    have hb3 := b3.mono (Nat.le_trans hsz b2.size)
    rw [show (⟨(textL []).toArray⟩ : ByteArray) = s from (bytes_eq hsT.out).symm]
    go_wp2
    go_ret2
    exact ⟨⟨_, [], true, by simp, (HO.out.rd.later b2).later b3, Or.inl ⟨rfl, rfl, hsT.out.symm, hs⟩, fun k hk => (HO.out.block k hk).1⟩, (hbw.trans hb2).trans hb3⟩

/-- What spec.EdgeRead answers. -/
theorem specRead_any (s : ByteArray) (w : World) (hs : s.size ≤ 1048576) :
    Calls Tryz.prog 13 #[.string s] w fun e w' => ReadP s.data.toList w.heap.size w' e ∧ Below w.heap.size w w' := by
  by_cases h2 : s.size < 2
  · exact specRead_short s w h2
  by_cases h3 : 200 < s.size
  · exact specRead_long s w h3 hs
  by_cases hc : (s[0].toNat : Int) = 40
  · by_cases hd : (s[s.size - 1].toNat : Int) = 41
    · by_cases h4 : 2 < s.size
      · exact specRead_main s w h4 (by omega) hc hd
      · exact specRead_two s w (by omega) h4 hc hd
    · exact specRead_last s w (by omega) (by omega) hc hd
  · exact specRead_first s w (by omega) (by omega) hc
end Go.Proofs.YtdjonplcgmfmgaaGreatDoor
