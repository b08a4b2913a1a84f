/- spec.ShardOk: contract. Written by a program (gso.py). -/
import Derived.Test.YtefhpbcdjgllnaaGreatS4e
import Derived.Test.YtefhpbcdjgllnaaGreatS4i
import Derived.Test.YtefhpbcdjgllnaaGreatS4s
import Derived.Test.YtefhpbcdjgllnaaGreatSShard
namespace Go.Proofs.YtefhpbcdjgllnaaGreat
open Go.RowKit
attribute [local go_sem ↓] Go.wp_at_zero Go.wp_at_succ

set_option maxRecDepth 100000 in
set_option maxHeartbeats 4000000 in
theorem specSOk_any (p f st : Int) (v0 v1 v2 v3 v4 : Value) (R D T S Lg : List KD) (w : World) (h : RSShard w v0 v1 v2 v3 v4 R D T S Lg) :
    Calls Tryz.prog 18 #[.agg #[.int .i64 p, .int .i64 f, .int .i64 st, v0, v1, v2, v3, v4]] w fun e w' => e = .returned (.bool (okS p f st R D T S Lg)) ∧ Below w.heap.size w w' := by
  have H := hid h
  obtain ⟨o0, o1, o2, o3, o4, q0, q1, q2, q3, q4, rfl, rfl, rfl, rfl, rfl⟩ := h.open
  clear h
  go_enter Tryz.func18, Tryz.ntmps18
  by_cases hp0 : 0 ≤ p
  case neg =>
    have hno : okS p f st R D T S Lg = false := by
      unfold okS
      rw [decide_eq_false (show ¬ (0 ≤ p ∧ p < 2) from fun z => hp0 z.1)]
      simp
    have gp0 : decide (p ≥ 0) = false := by simp; omega
    go_wp2
    go_ret
    exact ⟨by first | (simp; done) | simp [hno], by go_grown⟩
  have gp0 : decide (p ≥ 0) = true := by simp; omega
  by_cases hp1 : p < 2
  case neg =>
    have hno : okS p f st R D T S Lg = false := by
      unfold okS
      rw [decide_eq_false (show ¬ (0 ≤ p ∧ p < 2) from fun z => hp1 z.2)]
      simp
    have gp1 : decide (p < 2) = false := by simp; omega
    go_wp2
    go_ret
    exact ⟨by first | (simp; done) | simp [hno], by go_grown⟩
  have gp1 : decide (p < 2) = true := by simp; omega
  have hp := And.intro hp0 hp1
  by_cases hf : 0 ≤ f
  case neg =>
    have hno : okS p f st R D T S Lg = false := by
      unfold okS
      rw [decide_eq_false hf]
      simp
    have gf : decide (f ≥ 0) = false := by simp; omega
    go_wp2
    go_ret
    exact ⟨by first | (simp; done) | simp [hno], by go_grown⟩
  have gf : decide (f ≥ 0) = true := by simp; omega
  by_cases hs0 : 0 ≤ st
  case neg =>
    have hno : okS p f st R D T S Lg = false := by
      unfold okS
      rw [decide_eq_false (show ¬ (0 ≤ st ∧ st ≤ 60) from fun z => hs0 z.1)]
      simp
    have gs0 : decide (st ≥ 0) = false := by simp; omega
    go_wp2
    go_ret
    exact ⟨by first | (simp; done) | simp [hno], by go_grown⟩
  have gs0 : decide (st ≥ 0) = true := by simp; omega
  by_cases hs1 : st ≤ 60
  case neg =>
    have hno : okS p f st R D T S Lg = false := by
      unfold okS
      rw [decide_eq_false (show ¬ (0 ≤ st ∧ st ≤ 60) from fun z => hs1 z.2)]
      simp
    have gs1 : decide (st ≤ 60) = false := by simp; omega
    go_wp2
    go_ret
    exact ⟨by first | (simp; done) | simp [hno], by go_grown⟩
  have gs1 : decide (st ≤ 60) = true := by simp; omega
  have hs : 0 ≤ st ∧ st ≤ 60 := ⟨hs0, hs1⟩
  have hd0 : decide (0 ≤ p ∧ p < 2) = true := decide_eq_true hp
  have hd1 : decide (0 ≤ f) = true := decide_eq_true hf
  have hd2 : decide (0 ≤ st ∧ st ≤ 60) = true := decide_eq_true hs
  have HOK : Hid (okS p f st R D T S Lg = (logB p R Lg && (donesB p R D && (intsB p st T && seenB p S)))) := hid (by
    unfold okS
    rw [hd0, hd1, hd2]
    simp only [Bool.true_and])
  have HP := hid hp
  clear hd0 hd1 hd2
  go_wp2_with fail
  generalize hW1 : (w.alloc (.cells #[.int .i64 p, .int .i64 f, .int .i64 st, .slice o0 R.length q0, .slice o1 D.length q1, .slice o2 T.length q2, .slice o3 S.length q3, .slice o4 Lg.length q4] 43)) = w1
  have a0_1 : w1.cell? ⟨w.heap.size, 0, none⟩ = some (.int .i64 p) := by subst hW1; go_cell
  have a1_1 : w1.cell? ⟨w.heap.size, 1, none⟩ = some (.int .i64 f) := by subst hW1; go_cell
  have a2_1 : w1.cell? ⟨w.heap.size, 2, none⟩ = some (.int .i64 st) := by subst hW1; go_cell
  have a3_1 : w1.cell? ⟨w.heap.size, 3, none⟩ = some (.slice o0 R.length q0) := by subst hW1; go_cell
  have a4_1 : w1.cell? ⟨w.heap.size, 4, none⟩ = some (.slice o1 D.length q1) := by subst hW1; go_cell
  have a5_1 : w1.cell? ⟨w.heap.size, 5, none⟩ = some (.slice o2 T.length q2) := by subst hW1; go_cell
  have a6_1 : w1.cell? ⟨w.heap.size, 6, none⟩ = some (.slice o3 S.length q3) := by subst hW1; go_cell
  have a7_1 : w1.cell? ⟨w.heap.size, 7, none⟩ = some (.slice o4 Lg.length q4) := by subst hW1; go_cell
  have al_1 : w.heap.size < w1.heap.size := by subst hW1; first | (simp; done) | (simp; omega)
  have c1 : Below w.heap.size w w1 := by subst hW1; go_grown
  have s1 : w1.heap.size = w.heap.size + 1 := by subst hW1; simp
  clear hW1
  have qa0_1 := cell_regrown a0_1
  have qa1_1 := cell_regrown a1_1
  have qa2_1 := cell_regrown a2_1
  have qa3_1 := cell_regrown a3_1
  have qa4_1 := cell_regrown a4_1
  have qa5_1 := cell_regrown a5_1
  have qa6_1 := cell_regrown a6_1
  have qa7_1 := cell_regrown a7_1
  clear qa0_1 qa1_1 qa2_1 qa3_1 qa4_1 qa5_1 qa6_1 qa7_1
  refine (specRows_any p f st _ _ _ _ _ R Lg _ (H.out.h0.later c1) (H.out.h4.later c1) HP.out.1).mono ?_
  rintro e w2 ⟨rfl, b2⟩
  have d2 : Below w1.heap.size w1 w2 := (Below.trans (by go_grown) (b2.mono (by first | omega | (simp; done) | (simp; omega))))
  have c2 : Below w.heap.size w w2 := c1.trans (d2.mono c1.size)
  have a0_2 : w2.cell? ⟨w.heap.size, 0, none⟩ = some (.int .i64 p) := (by rw [b2.cell (by first | omega | (simp; done) | (simp; omega))]; go_cell)
  have a1_2 : w2.cell? ⟨w.heap.size, 1, none⟩ = some (.int .i64 f) := (by rw [b2.cell (by first | omega | (simp; done) | (simp; omega))]; go_cell)
  have a2_2 : w2.cell? ⟨w.heap.size, 2, none⟩ = some (.int .i64 st) := (by rw [b2.cell (by first | omega | (simp; done) | (simp; omega))]; go_cell)
  have a3_2 : w2.cell? ⟨w.heap.size, 3, none⟩ = some (.slice o0 R.length q0) := (by rw [b2.cell (by first | omega | (simp; done) | (simp; omega))]; go_cell)
  have a4_2 : w2.cell? ⟨w.heap.size, 4, none⟩ = some (.slice o1 D.length q1) := (by rw [b2.cell (by first | omega | (simp; done) | (simp; omega))]; go_cell)
  have a5_2 : w2.cell? ⟨w.heap.size, 5, none⟩ = some (.slice o2 T.length q2) := (by rw [b2.cell (by first | omega | (simp; done) | (simp; omega))]; go_cell)
  have a6_2 : w2.cell? ⟨w.heap.size, 6, none⟩ = some (.slice o3 S.length q3) := (by rw [b2.cell (by first | omega | (simp; done) | (simp; omega))]; go_cell)
  have a7_2 : w2.cell? ⟨w.heap.size, 7, none⟩ = some (.slice o4 Lg.length q4) := (by rw [b2.cell (by first | omega | (simp; done) | (simp; omega))]; go_cell)
  have al_2 : w.heap.size < w2.heap.size := (by have := b2.size; first | omega | (revert this; simp; done) | (revert this; simp; omega))
  clear a0_1 a1_1 a2_1 a3_1 a4_1 a5_1 a6_1 a7_1 al_1
  clear b2 d2
  cases hb0 : logB p R Lg with
  | false =>
    have hno : okS p f st R D T S Lg = false := by rw [HOK.out, hb0]; simp
    go_wp2
    go_ret
    exact ⟨by simp [hno], c2⟩
  | true =>
    have HB0 := hid hb0
    have HR24 := hid ((of_decide_eq_true hb0).1)
    clear hb0
    go_wp2_with fail
    refine (specDones_any p f st _ _ _ _ _ R D _ (H.out.h0.later c2) (H.out.h1.later c2) HR24.out HP.out.1).mono ?_
    rintro e w3 ⟨rfl, b3⟩
    have d3 : Below w2.heap.size w2 w3 := (Below.trans (by go_grown) (b3.mono (by first | omega | (simp; done) | (simp; omega))))
    have c3 : Below w.heap.size w w3 := c2.trans (d3.mono c2.size)
    have a0_3 : w3.cell? ⟨w.heap.size, 0, none⟩ = some (.int .i64 p) := (by rw [b3.cell (by first | omega | (simp; done) | (simp; omega))]; go_cell)
    have a1_3 : w3.cell? ⟨w.heap.size, 1, none⟩ = some (.int .i64 f) := (by rw [b3.cell (by first | omega | (simp; done) | (simp; omega))]; go_cell)
    have a2_3 : w3.cell? ⟨w.heap.size, 2, none⟩ = some (.int .i64 st) := (by rw [b3.cell (by first | omega | (simp; done) | (simp; omega))]; go_cell)
    have a3_3 : w3.cell? ⟨w.heap.size, 3, none⟩ = some (.slice o0 R.length q0) := (by rw [b3.cell (by first | omega | (simp; done) | (simp; omega))]; go_cell)
    have a4_3 : w3.cell? ⟨w.heap.size, 4, none⟩ = some (.slice o1 D.length q1) := (by rw [b3.cell (by first | omega | (simp; done) | (simp; omega))]; go_cell)
    have a5_3 : w3.cell? ⟨w.heap.size, 5, none⟩ = some (.slice o2 T.length q2) := (by rw [b3.cell (by first | omega | (simp; done) | (simp; omega))]; go_cell)
    have a6_3 : w3.cell? ⟨w.heap.size, 6, none⟩ = some (.slice o3 S.length q3) := (by rw [b3.cell (by first | omega | (simp; done) | (simp; omega))]; go_cell)
    have a7_3 : w3.cell? ⟨w.heap.size, 7, none⟩ = some (.slice o4 Lg.length q4) := (by rw [b3.cell (by first | omega | (simp; done) | (simp; omega))]; go_cell)
    have al_3 : w.heap.size < w3.heap.size := (by have := b3.size; first | omega | (revert this; simp; done) | (revert this; simp; omega))
    clear a0_2 a1_2 a2_2 a3_2 a4_2 a5_2 a6_2 a7_2 al_2
    clear b3 d3
    cases hb1 : donesB p R D with
    | false =>
      have hno : okS p f st R D T S Lg = false := by rw [HOK.out, HB0.out, hb1]; simp
      go_wp2
      go_ret
      exact ⟨by simp [hno], c3⟩
    | true =>
      have HB1 := hid hb1
      clear hb1
      go_wp2_with fail
      refine (specInts_any p f st _ _ _ _ _ T _ (H.out.h2.later c3)).mono ?_
      rintro e w4 ⟨rfl, b4⟩
      have d4 : Below w3.heap.size w3 w4 := (Below.trans (by go_grown) (b4.mono (by first | omega | (simp; done) | (simp; omega))))
      have c4 : Below w.heap.size w w4 := c3.trans (d4.mono c3.size)
      have a0_4 : w4.cell? ⟨w.heap.size, 0, none⟩ = some (.int .i64 p) := (by rw [b4.cell (by first | omega | (simp; done) | (simp; omega))]; go_cell)
      have a1_4 : w4.cell? ⟨w.heap.size, 1, none⟩ = some (.int .i64 f) := (by rw [b4.cell (by first | omega | (simp; done) | (simp; omega))]; go_cell)
      have a2_4 : w4.cell? ⟨w.heap.size, 2, none⟩ = some (.int .i64 st) := (by rw [b4.cell (by first | omega | (simp; done) | (simp; omega))]; go_cell)
      have a3_4 : w4.cell? ⟨w.heap.size, 3, none⟩ = some (.slice o0 R.length q0) := (by rw [b4.cell (by first | omega | (simp; done) | (simp; omega))]; go_cell)
      have a4_4 : w4.cell? ⟨w.heap.size, 4, none⟩ = some (.slice o1 D.length q1) := (by rw [b4.cell (by first | omega | (simp; done) | (simp; omega))]; go_cell)
      have a5_4 : w4.cell? ⟨w.heap.size, 5, none⟩ = some (.slice o2 T.length q2) := (by rw [b4.cell (by first | omega | (simp; done) | (simp; omega))]; go_cell)
      have a6_4 : w4.cell? ⟨w.heap.size, 6, none⟩ = some (.slice o3 S.length q3) := (by rw [b4.cell (by first | omega | (simp; done) | (simp; omega))]; go_cell)
      have a7_4 : w4.cell? ⟨w.heap.size, 7, none⟩ = some (.slice o4 Lg.length q4) := (by rw [b4.cell (by first | omega | (simp; done) | (simp; omega))]; go_cell)
      have al_4 : w.heap.size < w4.heap.size := (by have := b4.size; first | omega | (revert this; simp; done) | (revert this; simp; omega))
      clear a0_3 a1_3 a2_3 a3_3 a4_3 a5_3 a6_3 a7_3 al_3
      clear b4 d4
      cases hb2 : intsB p st T with
      | false =>
        have hno : okS p f st R D T S Lg = false := by rw [HOK.out, HB0.out, HB1.out, hb2]; simp
        go_wp2
        go_ret
        exact ⟨by simp [hno], c4⟩
      | true =>
        have HB2 := hid hb2
        clear hb2
        go_wp2_with fail
        refine (specSeen_any p f st _ _ _ _ _ S _ (H.out.h3.later c4) HP.out.1).mono ?_
        rintro e w5 ⟨rfl, b5⟩
        have d5 : Below w4.heap.size w4 w5 := (Below.trans (by go_grown) (b5.mono (by first | omega | (simp; done) | (simp; omega))))
        have c5 : Below w.heap.size w w5 := c4.trans (d5.mono c4.size)
        have a0_5 : w5.cell? ⟨w.heap.size, 0, none⟩ = some (.int .i64 p) := (by rw [b5.cell (by first | omega | (simp; done) | (simp; omega))]; go_cell)
        have a1_5 : w5.cell? ⟨w.heap.size, 1, none⟩ = some (.int .i64 f) := (by rw [b5.cell (by first | omega | (simp; done) | (simp; omega))]; go_cell)
        have a2_5 : w5.cell? ⟨w.heap.size, 2, none⟩ = some (.int .i64 st) := (by rw [b5.cell (by first | omega | (simp; done) | (simp; omega))]; go_cell)
        have a3_5 : w5.cell? ⟨w.heap.size, 3, none⟩ = some (.slice o0 R.length q0) := (by rw [b5.cell (by first | omega | (simp; done) | (simp; omega))]; go_cell)
        have a4_5 : w5.cell? ⟨w.heap.size, 4, none⟩ = some (.slice o1 D.length q1) := (by rw [b5.cell (by first | omega | (simp; done) | (simp; omega))]; go_cell)
        have a5_5 : w5.cell? ⟨w.heap.size, 5, none⟩ = some (.slice o2 T.length q2) := (by rw [b5.cell (by first | omega | (simp; done) | (simp; omega))]; go_cell)
        have a6_5 : w5.cell? ⟨w.heap.size, 6, none⟩ = some (.slice o3 S.length q3) := (by rw [b5.cell (by first | omega | (simp; done) | (simp; omega))]; go_cell)
        have a7_5 : w5.cell? ⟨w.heap.size, 7, none⟩ = some (.slice o4 Lg.length q4) := (by rw [b5.cell (by first | omega | (simp; done) | (simp; omega))]; go_cell)
        have al_5 : w.heap.size < w5.heap.size := (by have := b5.size; first | omega | (revert this; simp; done) | (revert this; simp; omega))
        clear a0_4 a1_4 a2_4 a3_4 a4_4 a5_4 a6_4 a7_4 al_4
        clear b5 d5
        have hyes : okS p f st R D T S Lg = seenB p S := by rw [HOK.out, HB0.out, HB1.out, HB2.out]; simp
        go_wp2
        go_ret
        exact ⟨by simp [hyes], c5⟩
end Go.Proofs.YtefhpbcdjgllnaaGreat
