/- Proved here: FnExactShardOk returns true for every part (no condition); what it was handed reads as before. -/
import Derived.Test.YtadjajappnhipaaGreatS4l
import Derived.Test.YtadjajappnhipaaGreatS4n
import Derived.Test.YtadjajappnhipaaGreatSShard
import Derived.Test.YtadjajappnhipaaGreatS4e
import Derived.Test.YtadjajappnhipaaGreatS4i
import Derived.Test.YtadjajappnhipaaGreatS4s
import Derived.Deep.Cut
import Derived.Test.YtadjajappnhipaaGreatGrA
import Derived.ProofKit
import Derived.Lib.SmallJoins
/- Part: impl.ShardOk: contract. Written by a program (gso.py). -/
namespace Go.Proofs.YtadjajappnhipaaGreat
open Go.RowKit
attribute [local go_sem ↓] Go.wp_at_zero Go.wp_at_succ

set_option maxRecDepth 100000 in
set_option maxHeartbeats 4000000 in
theorem implSOk_any (p f st : Int) (v0 v1 v2 v3 v4 : Value) (R D T S Lg : List KD) (w : World) (h : RSShard w v0 v1 v2 v3 v4 R D T S Lg) :
    Calls Tryz.prog 7 #[.agg #[.int .i64 p, .int .i64 f, .int .i64 st, v0, v1, v2, v3, v4]] w fun e w' => e = .returned (.bool (okS p f st R D T S Lg)) ∧ Below w.heap.size w w' := by
  have H := hid h
  obtain ⟨o0, o1, o2, o3, o4, q0, q1, q2, q3, q4, rfl, rfl, rfl, rfl, rfl⟩ := h.open
  clear h
  go_enter Tryz.func7, Tryz.ntmps7
  by_cases hp : 0 ≤ p ∧ p < 2
  case neg =>
    have hno : okS p f st R D T S Lg = false := by
      unfold okS
      rw [decide_eq_false hp]
      simp
    go_wp2_with fail
    refine (partOk_any p _).mono ?_
    rintro e w2 ⟨rfl, rfl⟩
    rw [decide_eq_false hp]
    go_wp2
    go_ret
    exact ⟨by first | (simp; done) | simp [hno], by go_grown⟩
  by_cases hf : 0 ≤ f
  case neg =>
    have hno : okS p f st R D T S Lg = false := by
      unfold okS
      rw [decide_eq_false hf]
      simp
    have gf : decide (f ≥ 0) = false := by simp; omega
    go_wp2_with fail
    refine (partOk_any p _).mono ?_
    rintro e w2 ⟨rfl, rfl⟩
    rw [decide_eq_true hp]
    go_wp2
    go_ret
    exact ⟨by first | (simp; done) | simp [hno], by go_grown⟩
  have gf : decide (f ≥ 0) = true := by simp; omega
  by_cases hs0 : 0 ≤ st
  case neg =>
    have hno : okS p f st R D T S Lg = false := by
      unfold okS
      rw [decide_eq_false (show ¬ (0 ≤ st ∧ st ≤ 60) from fun z => hs0 z.1)]
      simp
    have gs0 : decide (0 ≤ st) = false := by simp; omega
    go_wp2_with fail
    refine (partOk_any p _).mono ?_
    rintro e w2 ⟨rfl, rfl⟩
    rw [decide_eq_true hp]
    go_wp2
    go_ret
    exact ⟨by first | (simp; done) | simp [hno], by go_grown⟩
  have gs0 : decide (0 ≤ st) = true := by simp; omega
  by_cases hs1 : st ≤ 60
  case neg =>
    have hno : okS p f st R D T S Lg = false := by
      unfold okS
      rw [decide_eq_false (show ¬ (0 ≤ st ∧ st ≤ 60) from fun z => hs1 z.2)]
      simp
    have gs1 : decide (st ≤ 60) = false := by simp; omega
    go_wp2_with fail
    refine (partOk_any p _).mono ?_
    rintro e w2 ⟨rfl, rfl⟩
    rw [decide_eq_true hp]
    go_wp2
    go_ret
    exact ⟨by first | (simp; done) | simp [hno], by go_grown⟩
  have gs1 : decide (st ≤ 60) = true := by simp; omega
  have hs : 0 ≤ st ∧ st ≤ 60 := ⟨hs0, hs1⟩
  have hd0 : decide (0 ≤ p ∧ p < 2) = true := decide_eq_true hp
  have hd1 : decide (0 ≤ f) = true := decide_eq_true hf
  have hd2 : decide (0 ≤ st ∧ st ≤ 60) = true := decide_eq_true hs
  have HOK : Hid (okS p f st R D T S Lg = (logB p R Lg && (donesB p R D && (intsB p st T && seenB p S)))) := hid (by
    unfold okS
    rw [hd0, hd1, hd2]
    simp only [Bool.true_and])
  have HP := hid hp
  clear hd0 hd1 hd2
  go_wp2_with fail
  refine (partOk_any p _).mono ?_
  rintro e w2 ⟨rfl, rfl⟩
  rw [decide_eq_true hp]
  go_wp2_with fail
  generalize hW1 : (w.alloc (.cells #[.int .i64 p, .int .i64 f, .int .i64 st, .slice o0 R.length q0, .slice o1 D.length q1, .slice o2 T.length q2, .slice o3 S.length q3, .slice o4 Lg.length q4] 37)) = w1
  have a0_1 : w1.cell? ⟨w.heap.size, 0, none⟩ = some (.int .i64 p) := by subst hW1; go_cell
  have a1_1 : w1.cell? ⟨w.heap.size, 1, none⟩ = some (.int .i64 f) := by subst hW1; go_cell
  have a2_1 : w1.cell? ⟨w.heap.size, 2, none⟩ = some (.int .i64 st) := by subst hW1; go_cell
  have a3_1 : w1.cell? ⟨w.heap.size, 3, none⟩ = some (.slice o0 R.length q0) := by subst hW1; go_cell
  have a4_1 : w1.cell? ⟨w.heap.size, 4, none⟩ = some (.slice o1 D.length q1) := by subst hW1; go_cell
  have a5_1 : w1.cell? ⟨w.heap.size, 5, none⟩ = some (.slice o2 T.length q2) := by subst hW1; go_cell
  have a6_1 : w1.cell? ⟨w.heap.size, 6, none⟩ = some (.slice o3 S.length q3) := by subst hW1; go_cell
  have a7_1 : w1.cell? ⟨w.heap.size, 7, none⟩ = some (.slice o4 Lg.length q4) := by subst hW1; go_cell
  have al_1 : w.heap.size < w1.heap.size := by subst hW1; first | (simp; done) | (simp; omega)
  have c1 : Below w.heap.size w w1 := by subst hW1; go_grown
  have s1 : w1.heap.size = w.heap.size + 1 := by subst hW1; simp
  clear hW1
  have qa0_1 := cell_regrown a0_1
  have qa1_1 := cell_regrown a1_1
  have qa2_1 := cell_regrown a2_1
  have qa3_1 := cell_regrown a3_1
  have qa4_1 := cell_regrown a4_1
  have qa5_1 := cell_regrown a5_1
  have qa6_1 := cell_regrown a6_1
  have qa7_1 := cell_regrown a7_1
  clear qa0_1 qa1_1 qa2_1 qa3_1 qa4_1 qa5_1 qa6_1 qa7_1
  refine (logRight_any p f st _ _ _ _ _ R Lg _ (H.out.h0.later c1) (H.out.h4.later c1)).mono ?_
  rintro e w2 ⟨rfl, b2⟩
  have d2 : Below w1.heap.size w1 w2 := (Below.trans (by go_grown) (b2.mono (by first | omega | (simp; done) | (simp; omega))))
  have c2 : Below w.heap.size w w2 := c1.trans (d2.mono c1.size)
  have a0_2 : w2.cell? ⟨w.heap.size, 0, none⟩ = some (.int .i64 p) := (by rw [b2.cell (by first | omega | (simp; done) | (simp; omega))]; go_cell)
  have a1_2 : w2.cell? ⟨w.heap.size, 1, none⟩ = some (.int .i64 f) := (by rw [b2.cell (by first | omega | (simp; done) | (simp; omega))]; go_cell)
  have a2_2 : w2.cell? ⟨w.heap.size, 2, none⟩ = some (.int .i64 st) := (by rw [b2.cell (by first | omega | (simp; done) | (simp; omega))]; go_cell)
  have a3_2 : w2.cell? ⟨w.heap.size, 3, none⟩ = some (.slice o0 R.length q0) := (by rw [b2.cell (by first | omega | (simp; done) | (simp; omega))]; go_cell)
  have a4_2 : w2.cell? ⟨w.heap.size, 4, none⟩ = some (.slice o1 D.length q1) := (by rw [b2.cell (by first | omega | (simp; done) | (simp; omega))]; go_cell)
  have a5_2 : w2.cell? ⟨w.heap.size, 5, none⟩ = some (.slice o2 T.length q2) := (by rw [b2.cell (by first | omega | (simp; done) | (simp; omega))]; go_cell)
  have a6_2 : w2.cell? ⟨w.heap.size, 6, none⟩ = some (.slice o3 S.length q3) := (by rw [b2.cell (by first | omega | (simp; done) | (simp; omega))]; go_cell)
  have a7_2 : w2.cell? ⟨w.heap.size, 7, none⟩ = some (.slice o4 Lg.length q4) := (by rw [b2.cell (by first | omega | (simp; done) | (simp; omega))]; go_cell)
  have al_2 : w.heap.size < w2.heap.size := (by have := b2.size; first | omega | (revert this; simp; done) | (revert this; simp; omega))
  clear a0_1 a1_1 a2_1 a3_1 a4_1 a5_1 a6_1 a7_1 al_1
  clear b2 d2
  cases hb0 : logB p R Lg with
  | false =>
    have hno : okS p f st R D T S Lg = false := by rw [HOK.out, hb0]; simp
    go_wp2
    go_ret
    exact ⟨by simp [hno], c2⟩
  | true =>
    have HB0 := hid hb0
    have HR24 := hid ((of_decide_eq_true hb0).1)
    clear hb0
    go_wp2_with fail
    refine (donesRight_any p f st _ _ _ _ _ R D _ (H.out.h0.later c2) (H.out.h1.later c2) HR24.out HP.out.1).mono ?_
    rintro e w3 ⟨rfl, b3⟩
    have d3 : Below w2.heap.size w2 w3 := (Below.trans (by go_grown) (b3.mono (by first | omega | (simp; done) | (simp; omega))))
    have c3 : Below w.heap.size w w3 := c2.trans (d3.mono c2.size)
    have a0_3 : w3.cell? ⟨w.heap.size, 0, none⟩ = some (.int .i64 p) := (by rw [b3.cell (by first | omega | (simp; done) | (simp; omega))]; go_cell)
    have a1_3 : w3.cell? ⟨w.heap.size, 1, none⟩ = some (.int .i64 f) := (by rw [b3.cell (by first | omega | (simp; done) | (simp; omega))]; go_cell)
    have a2_3 : w3.cell? ⟨w.heap.size, 2, none⟩ = some (.int .i64 st) := (by rw [b3.cell (by first | omega | (simp; done) | (simp; omega))]; go_cell)
    have a3_3 : w3.cell? ⟨w.heap.size, 3, none⟩ = some (.slice o0 R.length q0) := (by rw [b3.cell (by first | omega | (simp; done) | (simp; omega))]; go_cell)
    have a4_3 : w3.cell? ⟨w.heap.size, 4, none⟩ = some (.slice o1 D.length q1) := (by rw [b3.cell (by first | omega | (simp; done) | (simp; omega))]; go_cell)
    have a5_3 : w3.cell? ⟨w.heap.size, 5, none⟩ = some (.slice o2 T.length q2) := (by rw [b3.cell (by first | omega | (simp; done) | (simp; omega))]; go_cell)
    have a6_3 : w3.cell? ⟨w.heap.size, 6, none⟩ = some (.slice o3 S.length q3) := (by rw [b3.cell (by first | omega | (simp; done) | (simp; omega))]; go_cell)
    have a7_3 : w3.cell? ⟨w.heap.size, 7, none⟩ = some (.slice o4 Lg.length q4) := (by rw [b3.cell (by first | omega | (simp; done) | (simp; omega))]; go_cell)
    have al_3 : w.heap.size < w3.heap.size := (by have := b3.size; first | omega | (revert this; simp; done) | (revert this; simp; omega))
    clear a0_2 a1_2 a2_2 a3_2 a4_2 a5_2 a6_2 a7_2 al_2
    clear b3 d3
    cases hb1 : donesB p R D with
    | false =>
      have hno : okS p f st R D T S Lg = false := by rw [HOK.out, HB0.out, hb1]; simp
      go_wp2
      go_ret
      exact ⟨by simp [hno], c3⟩
    | true =>
      have HB1 := hid hb1
      clear hb1
      go_wp2_with fail
      refine (intentsRight_any p f st _ _ _ _ _ T _ (H.out.h2.later c3) HP.out.1).mono ?_
      rintro e w4 ⟨rfl, b4⟩
      have d4 : Below w3.heap.size w3 w4 := (Below.trans (by go_grown) (b4.mono (by first | omega | (simp; done) | (simp; omega))))
      have c4 : Below w.heap.size w w4 := c3.trans (d4.mono c3.size)
      have a0_4 : w4.cell? ⟨w.heap.size, 0, none⟩ = some (.int .i64 p) := (by rw [b4.cell (by first | omega | (simp; done) | (simp; omega))]; go_cell)
      have a1_4 : w4.cell? ⟨w.heap.size, 1, none⟩ = some (.int .i64 f) := (by rw [b4.cell (by first | omega | (simp; done) | (simp; omega))]; go_cell)
      have a2_4 : w4.cell? ⟨w.heap.size, 2, none⟩ = some (.int .i64 st) := (by rw [b4.cell (by first | omega | (simp; done) | (simp; omega))]; go_cell)
      have a3_4 : w4.cell? ⟨w.heap.size, 3, none⟩ = some (.slice o0 R.length q0) := (by rw [b4.cell (by first | omega | (simp; done) | (simp; omega))]; go_cell)
      have a4_4 : w4.cell? ⟨w.heap.size, 4, none⟩ = some (.slice o1 D.length q1) := (by rw [b4.cell (by first | omega | (simp; done) | (simp; omega))]; go_cell)
      have a5_4 : w4.cell? ⟨w.heap.size, 5, none⟩ = some (.slice o2 T.length q2) := (by rw [b4.cell (by first | omega | (simp; done) | (simp; omega))]; go_cell)
      have a6_4 : w4.cell? ⟨w.heap.size, 6, none⟩ = some (.slice o3 S.length q3) := (by rw [b4.cell (by first | omega | (simp; done) | (simp; omega))]; go_cell)
      have a7_4 : w4.cell? ⟨w.heap.size, 7, none⟩ = some (.slice o4 Lg.length q4) := (by rw [b4.cell (by first | omega | (simp; done) | (simp; omega))]; go_cell)
      have al_4 : w.heap.size < w4.heap.size := (by have := b4.size; first | omega | (revert this; simp; done) | (revert this; simp; omega))
      clear a0_3 a1_3 a2_3 a3_3 a4_3 a5_3 a6_3 a7_3 al_3
      clear b4 d4
      cases hb2 : intsB p st T with
      | false =>
        have hno : okS p f st R D T S Lg = false := by rw [HOK.out, HB0.out, HB1.out, hb2]; simp
        go_wp2
        go_ret
        exact ⟨by simp [hno], c4⟩
      | true =>
        have HB2 := hid hb2
        clear hb2
        go_wp2_with fail
        refine (seenRight_any p f st _ _ _ _ _ S _ (H.out.h3.later c4) HP.out.1).mono ?_
        rintro e w5 ⟨rfl, b5⟩
        have d5 : Below w4.heap.size w4 w5 := (Below.trans (by go_grown) (b5.mono (by first | omega | (simp; done) | (simp; omega))))
        have c5 : Below w.heap.size w w5 := c4.trans (d5.mono c4.size)
        have a0_5 : w5.cell? ⟨w.heap.size, 0, none⟩ = some (.int .i64 p) := (by rw [b5.cell (by first | omega | (simp; done) | (simp; omega))]; go_cell)
        have a1_5 : w5.cell? ⟨w.heap.size, 1, none⟩ = some (.int .i64 f) := (by rw [b5.cell (by first | omega | (simp; done) | (simp; omega))]; go_cell)
        have a2_5 : w5.cell? ⟨w.heap.size, 2, none⟩ = some (.int .i64 st) := (by rw [b5.cell (by first | omega | (simp; done) | (simp; omega))]; go_cell)
        have a3_5 : w5.cell? ⟨w.heap.size, 3, none⟩ = some (.slice o0 R.length q0) := (by rw [b5.cell (by first | omega | (simp; done) | (simp; omega))]; go_cell)
        have a4_5 : w5.cell? ⟨w.heap.size, 4, none⟩ = some (.slice o1 D.length q1) := (by rw [b5.cell (by first | omega | (simp; done) | (simp; omega))]; go_cell)
        have a5_5 : w5.cell? ⟨w.heap.size, 5, none⟩ = some (.slice o2 T.length q2) := (by rw [b5.cell (by first | omega | (simp; done) | (simp; omega))]; go_cell)
        have a6_5 : w5.cell? ⟨w.heap.size, 6, none⟩ = some (.slice o3 S.length q3) := (by rw [b5.cell (by first | omega | (simp; done) | (simp; omega))]; go_cell)
        have a7_5 : w5.cell? ⟨w.heap.size, 7, none⟩ = some (.slice o4 Lg.length q4) := (by rw [b5.cell (by first | omega | (simp; done) | (simp; omega))]; go_cell)
        have al_5 : w.heap.size < w5.heap.size := (by have := b5.size; first | omega | (revert this; simp; done) | (revert this; simp; omega))
        clear a0_4 a1_4 a2_4 a3_4 a4_4 a5_4 a6_4 a7_4 al_4
        clear b5 d5
        have hyes : okS p f st R D T S Lg = seenB p S := by rw [HOK.out, HB0.out, HB1.out, HB2.out]; simp
        go_wp2
        go_ret
        exact ⟨by simp [hyes], c5⟩
end Go.Proofs.YtadjajappnhipaaGreat

/- Part: spec.ShardOk: contract. Written by a program (gso.py). -/
namespace Go.Proofs.YtadjajappnhipaaGreat
open Go.RowKit
attribute [local go_sem ↓] Go.wp_at_zero Go.wp_at_succ

set_option maxRecDepth 100000 in
set_option maxHeartbeats 4000000 in
theorem specSOk_any (p f st : Int) (v0 v1 v2 v3 v4 : Value) (R D T S Lg : List KD) (w : World) (h : RSShard w v0 v1 v2 v3 v4 R D T S Lg) :
    Calls Tryz.prog 5 #[.agg #[.int .i64 p, .int .i64 f, .int .i64 st, v0, v1, v2, v3, v4]] w fun e w' => e = .returned (.bool (okS p f st R D T S Lg)) ∧ Below w.heap.size w w' := by
  have H := hid h
  obtain ⟨o0, o1, o2, o3, o4, q0, q1, q2, q3, q4, rfl, rfl, rfl, rfl, rfl⟩ := h.open
  clear h
  go_enter Tryz.func5, Tryz.ntmps5
  by_cases hp0 : 0 ≤ p
  case neg =>
    have hno : okS p f st R D T S Lg = false := by
      unfold okS
      rw [decide_eq_false (show ¬ (0 ≤ p ∧ p < 2) from fun z => hp0 z.1)]
      simp
    have gp0 : decide (p ≥ 0) = false := by simp; omega
    go_wp2
    go_ret
    exact ⟨by first | (simp; done) | simp [hno], by go_grown⟩
  have gp0 : decide (p ≥ 0) = true := by simp; omega
  by_cases hp1 : p < 2
  case neg =>
    have hno : okS p f st R D T S Lg = false := by
      unfold okS
      rw [decide_eq_false (show ¬ (0 ≤ p ∧ p < 2) from fun z => hp1 z.2)]
      simp
    have gp1 : decide (p < 2) = false := by simp; omega
    go_wp2
    go_ret
    exact ⟨by first | (simp; done) | simp [hno], by go_grown⟩
  have gp1 : decide (p < 2) = true := by simp; omega
  have hp := And.intro hp0 hp1
  by_cases hf : 0 ≤ f
  case neg =>
    have hno : okS p f st R D T S Lg = false := by
      unfold okS
      rw [decide_eq_false hf]
      simp
    have gf : decide (f ≥ 0) = false := by simp; omega
    go_wp2
    go_ret
    exact ⟨by first | (simp; done) | simp [hno], by go_grown⟩
  have gf : decide (f ≥ 0) = true := by simp; omega
  by_cases hs0 : 0 ≤ st
  case neg =>
    have hno : okS p f st R D T S Lg = false := by
      unfold okS
      rw [decide_eq_false (show ¬ (0 ≤ st ∧ st ≤ 60) from fun z => hs0 z.1)]
      simp
    have gs0 : decide (st ≥ 0) = false := by simp; omega
    go_wp2
    go_ret
    exact ⟨by first | (simp; done) | simp [hno], by go_grown⟩
  have gs0 : decide (st ≥ 0) = true := by simp; omega
  by_cases hs1 : st ≤ 60
  case neg =>
    have hno : okS p f st R D T S Lg = false := by
      unfold okS
      rw [decide_eq_false (show ¬ (0 ≤ st ∧ st ≤ 60) from fun z => hs1 z.2)]
      simp
    have gs1 : decide (st ≤ 60) = false := by simp; omega
    go_wp2
    go_ret
    exact ⟨by first | (simp; done) | simp [hno], by go_grown⟩
  have gs1 : decide (st ≤ 60) = true := by simp; omega
  have hs : 0 ≤ st ∧ st ≤ 60 := ⟨hs0, hs1⟩
  have hd0 : decide (0 ≤ p ∧ p < 2) = true := decide_eq_true hp
  have hd1 : decide (0 ≤ f) = true := decide_eq_true hf
  have hd2 : decide (0 ≤ st ∧ st ≤ 60) = true := decide_eq_true hs
  have HOK : Hid (okS p f st R D T S Lg = (logB p R Lg && (donesB p R D && (intsB p st T && seenB p S)))) := hid (by
    unfold okS
    rw [hd0, hd1, hd2]
    simp only [Bool.true_and])
  have HP := hid hp
  clear hd0 hd1 hd2
  go_wp2_with fail
  generalize hW1 : (w.alloc (.cells #[.int .i64 p, .int .i64 f, .int .i64 st, .slice o0 R.length q0, .slice o1 D.length q1, .slice o2 T.length q2, .slice o3 S.length q3, .slice o4 Lg.length q4] 37)) = w1
  have a0_1 : w1.cell? ⟨w.heap.size, 0, none⟩ = some (.int .i64 p) := by subst hW1; go_cell
  have a1_1 : w1.cell? ⟨w.heap.size, 1, none⟩ = some (.int .i64 f) := by subst hW1; go_cell
  have a2_1 : w1.cell? ⟨w.heap.size, 2, none⟩ = some (.int .i64 st) := by subst hW1; go_cell
  have a3_1 : w1.cell? ⟨w.heap.size, 3, none⟩ = some (.slice o0 R.length q0) := by subst hW1; go_cell
  have a4_1 : w1.cell? ⟨w.heap.size, 4, none⟩ = some (.slice o1 D.length q1) := by subst hW1; go_cell
  have a5_1 : w1.cell? ⟨w.heap.size, 5, none⟩ = some (.slice o2 T.length q2) := by subst hW1; go_cell
  have a6_1 : w1.cell? ⟨w.heap.size, 6, none⟩ = some (.slice o3 S.length q3) := by subst hW1; go_cell
  have a7_1 : w1.cell? ⟨w.heap.size, 7, none⟩ = some (.slice o4 Lg.length q4) := by subst hW1; go_cell
  have al_1 : w.heap.size < w1.heap.size := by subst hW1; first | (simp; done) | (simp; omega)
  have c1 : Below w.heap.size w w1 := by subst hW1; go_grown
  have s1 : w1.heap.size = w.heap.size + 1 := by subst hW1; simp
  clear hW1
  have qa0_1 := cell_regrown a0_1
  have qa1_1 := cell_regrown a1_1
  have qa2_1 := cell_regrown a2_1
  have qa3_1 := cell_regrown a3_1
  have qa4_1 := cell_regrown a4_1
  have qa5_1 := cell_regrown a5_1
  have qa6_1 := cell_regrown a6_1
  have qa7_1 := cell_regrown a7_1
  clear qa0_1 qa1_1 qa2_1 qa3_1 qa4_1 qa5_1 qa6_1 qa7_1
  refine (specRows_any p f st _ _ _ _ _ R Lg _ (H.out.h0.later c1) (H.out.h4.later c1) HP.out.1).mono ?_
  rintro e w2 ⟨rfl, b2⟩
  have d2 : Below w1.heap.size w1 w2 := (Below.trans (by go_grown) (b2.mono (by first | omega | (simp; done) | (simp; omega))))
  have c2 : Below w.heap.size w w2 := c1.trans (d2.mono c1.size)
  have a0_2 : w2.cell? ⟨w.heap.size, 0, none⟩ = some (.int .i64 p) := (by rw [b2.cell (by first | omega | (simp; done) | (simp; omega))]; go_cell)
  have a1_2 : w2.cell? ⟨w.heap.size, 1, none⟩ = some (.int .i64 f) := (by rw [b2.cell (by first | omega | (simp; done) | (simp; omega))]; go_cell)
  have a2_2 : w2.cell? ⟨w.heap.size, 2, none⟩ = some (.int .i64 st) := (by rw [b2.cell (by first | omega | (simp; done) | (simp; omega))]; go_cell)
  have a3_2 : w2.cell? ⟨w.heap.size, 3, none⟩ = some (.slice o0 R.length q0) := (by rw [b2.cell (by first | omega | (simp; done) | (simp; omega))]; go_cell)
  have a4_2 : w2.cell? ⟨w.heap.size, 4, none⟩ = some (.slice o1 D.length q1) := (by rw [b2.cell (by first | omega | (simp; done) | (simp; omega))]; go_cell)
  have a5_2 : w2.cell? ⟨w.heap.size, 5, none⟩ = some (.slice o2 T.length q2) := (by rw [b2.cell (by first | omega | (simp; done) | (simp; omega))]; go_cell)
  have a6_2 : w2.cell? ⟨w.heap.size, 6, none⟩ = some (.slice o3 S.length q3) := (by rw [b2.cell (by first | omega | (simp; done) | (simp; omega))]; go_cell)
  have a7_2 : w2.cell? ⟨w.heap.size, 7, none⟩ = some (.slice o4 Lg.length q4) := (by rw [b2.cell (by first | omega | (simp; done) | (simp; omega))]; go_cell)
  have al_2 : w.heap.size < w2.heap.size := (by have := b2.size; first | omega | (revert this; simp; done) | (revert this; simp; omega))
  clear a0_1 a1_1 a2_1 a3_1 a4_1 a5_1 a6_1 a7_1 al_1
  clear b2 d2
  cases hb0 : logB p R Lg with
  | false =>
    have hno : okS p f st R D T S Lg = false := by rw [HOK.out, hb0]; simp
    go_wp2
    go_ret
    exact ⟨by simp [hno], c2⟩
  | true =>
    have HB0 := hid hb0
    have HR24 := hid ((of_decide_eq_true hb0).1)
    clear hb0
    go_wp2_with fail
    refine (specDones_any p f st _ _ _ _ _ R D _ (H.out.h0.later c2) (H.out.h1.later c2) HR24.out HP.out.1).mono ?_
    rintro e w3 ⟨rfl, b3⟩
    have d3 : Below w2.heap.size w2 w3 := (Below.trans (by go_grown) (b3.mono (by first | omega | (simp; done) | (simp; omega))))
    have c3 : Below w.heap.size w w3 := c2.trans (d3.mono c2.size)
    have a0_3 : w3.cell? ⟨w.heap.size, 0, none⟩ = some (.int .i64 p) := (by rw [b3.cell (by first | omega | (simp; done) | (simp; omega))]; go_cell)
    have a1_3 : w3.cell? ⟨w.heap.size, 1, none⟩ = some (.int .i64 f) := (by rw [b3.cell (by first | omega | (simp; done) | (simp; omega))]; go_cell)
    have a2_3 : w3.cell? ⟨w.heap.size, 2, none⟩ = some (.int .i64 st) := (by rw [b3.cell (by first | omega | (simp; done) | (simp; omega))]; go_cell)
    have a3_3 : w3.cell? ⟨w.heap.size, 3, none⟩ = some (.slice o0 R.length q0) := (by rw [b3.cell (by first | omega | (simp; done) | (simp; omega))]; go_cell)
    have a4_3 : w3.cell? ⟨w.heap.size, 4, none⟩ = some (.slice o1 D.length q1) := (by rw [b3.cell (by first | omega | (simp; done) | (simp; omega))]; go_cell)
    have a5_3 : w3.cell? ⟨w.heap.size, 5, none⟩ = some (.slice o2 T.length q2) := (by rw [b3.cell (by first | omega | (simp; done) | (simp; omega))]; go_cell)
    have a6_3 : w3.cell? ⟨w.heap.size, 6, none⟩ = some (.slice o3 S.length q3) := (by rw [b3.cell (by first | omega | (simp; done) | (simp; omega))]; go_cell)
    have a7_3 : w3.cell? ⟨w.heap.size, 7, none⟩ = some (.slice o4 Lg.length q4) := (by rw [b3.cell (by first | omega | (simp; done) | (simp; omega))]; go_cell)
    have al_3 : w.heap.size < w3.heap.size := (by have := b3.size; first | omega | (revert this; simp; done) | (revert this; simp; omega))
    clear a0_2 a1_2 a2_2 a3_2 a4_2 a5_2 a6_2 a7_2 al_2
    clear b3 d3
    cases hb1 : donesB p R D with
    | false =>
      have hno : okS p f st R D T S Lg = false := by rw [HOK.out, HB0.out, hb1]; simp
      go_wp2
      go_ret
      exact ⟨by simp [hno], c3⟩
    | true =>
      have HB1 := hid hb1
      clear hb1
      go_wp2_with fail
      refine (specInts_any p f st _ _ _ _ _ T _ (H.out.h2.later c3)).mono ?_
      rintro e w4 ⟨rfl, b4⟩
      have d4 : Below w3.heap.size w3 w4 := (Below.trans (by go_grown) (b4.mono (by first | omega | (simp; done) | (simp; omega))))
      have c4 : Below w.heap.size w w4 := c3.trans (d4.mono c3.size)
      have a0_4 : w4.cell? ⟨w.heap.size, 0, none⟩ = some (.int .i64 p) := (by rw [b4.cell (by first | omega | (simp; done) | (simp; omega))]; go_cell)
      have a1_4 : w4.cell? ⟨w.heap.size, 1, none⟩ = some (.int .i64 f) := (by rw [b4.cell (by first | omega | (simp; done) | (simp; omega))]; go_cell)
      have a2_4 : w4.cell? ⟨w.heap.size, 2, none⟩ = some (.int .i64 st) := (by rw [b4.cell (by first | omega | (simp; done) | (simp; omega))]; go_cell)
      have a3_4 : w4.cell? ⟨w.heap.size, 3, none⟩ = some (.slice o0 R.length q0) := (by rw [b4.cell (by first | omega | (simp; done) | (simp; omega))]; go_cell)
      have a4_4 : w4.cell? ⟨w.heap.size, 4, none⟩ = some (.slice o1 D.length q1) := (by rw [b4.cell (by first | omega | (simp; done) | (simp; omega))]; go_cell)
      have a5_4 : w4.cell? ⟨w.heap.size, 5, none⟩ = some (.slice o2 T.length q2) := (by rw [b4.cell (by first | omega | (simp; done) | (simp; omega))]; go_cell)
      have a6_4 : w4.cell? ⟨w.heap.size, 6, none⟩ = some (.slice o3 S.length q3) := (by rw [b4.cell (by first | omega | (simp; done) | (simp; omega))]; go_cell)
      have a7_4 : w4.cell? ⟨w.heap.size, 7, none⟩ = some (.slice o4 Lg.length q4) := (by rw [b4.cell (by first | omega | (simp; done) | (simp; omega))]; go_cell)
      have al_4 : w.heap.size < w4.heap.size := (by have := b4.size; first | omega | (revert this; simp; done) | (revert this; simp; omega))
      clear a0_3 a1_3 a2_3 a3_3 a4_3 a5_3 a6_3 a7_3 al_3
      clear b4 d4
      cases hb2 : intsB p st T with
      | false =>
        have hno : okS p f st R D T S Lg = false := by rw [HOK.out, HB0.out, HB1.out, hb2]; simp
        go_wp2
        go_ret
        exact ⟨by simp [hno], c4⟩
      | true =>
        have HB2 := hid hb2
        clear hb2
        go_wp2_with fail
        refine (specSeen_any p f st _ _ _ _ _ S _ (H.out.h3.later c4) HP.out.1).mono ?_
        rintro e w5 ⟨rfl, b5⟩
        have d5 : Below w4.heap.size w4 w5 := (Below.trans (by go_grown) (b5.mono (by first | omega | (simp; done) | (simp; omega))))
        have c5 : Below w.heap.size w w5 := c4.trans (d5.mono c4.size)
        have a0_5 : w5.cell? ⟨w.heap.size, 0, none⟩ = some (.int .i64 p) := (by rw [b5.cell (by first | omega | (simp; done) | (simp; omega))]; go_cell)
        have a1_5 : w5.cell? ⟨w.heap.size, 1, none⟩ = some (.int .i64 f) := (by rw [b5.cell (by first | omega | (simp; done) | (simp; omega))]; go_cell)
        have a2_5 : w5.cell? ⟨w.heap.size, 2, none⟩ = some (.int .i64 st) := (by rw [b5.cell (by first | omega | (simp; done) | (simp; omega))]; go_cell)
        have a3_5 : w5.cell? ⟨w.heap.size, 3, none⟩ = some (.slice o0 R.length q0) := (by rw [b5.cell (by first | omega | (simp; done) | (simp; omega))]; go_cell)
        have a4_5 : w5.cell? ⟨w.heap.size, 4, none⟩ = some (.slice o1 D.length q1) := (by rw [b5.cell (by first | omega | (simp; done) | (simp; omega))]; go_cell)
        have a5_5 : w5.cell? ⟨w.heap.size, 5, none⟩ = some (.slice o2 T.length q2) := (by rw [b5.cell (by first | omega | (simp; done) | (simp; omega))]; go_cell)
        have a6_5 : w5.cell? ⟨w.heap.size, 6, none⟩ = some (.slice o3 S.length q3) := (by rw [b5.cell (by first | omega | (simp; done) | (simp; omega))]; go_cell)
        have a7_5 : w5.cell? ⟨w.heap.size, 7, none⟩ = some (.slice o4 Lg.length q4) := (by rw [b5.cell (by first | omega | (simp; done) | (simp; omega))]; go_cell)
        have al_5 : w.heap.size < w5.heap.size := (by have := b5.size; first | omega | (revert this; simp; done) | (revert this; simp; omega))
        clear a0_4 a1_4 a2_4 a3_4 a4_4 a5_4 a6_4 a7_4 al_4
        clear b5 d5
        have hyes : okS p f st R D T S Lg = seenB p S := by rw [HOK.out, HB0.out, HB1.out, HB2.out]; simp
        go_wp2
        go_ret
        exact ⟨by simp [hyes], c5⟩
end Go.Proofs.YtadjajappnhipaaGreat

/- Part: The law FnExactShardOk: its walk. Written by a program (glsok.py). -/
namespace Go.Proofs.YtadjajappnhipaaGreat
open Go.RowKit
attribute [local go_sem ↓] Go.wp_at_zero Go.wp_at_succ

set_option maxRecDepth 100000 in
set_option maxHeartbeats 4000000 in
theorem lawSOk_any (i0 i1 i2 : Int) (va0 va1 va2 va3 va4 : Value) (A0 A1 A2 A3 A4 : List KD) (w : World) (ha : RSShard w va0 va1 va2 va3 va4 A0 A1 A2 A3 A4) :
    Calls Tryz.prog 3 #[.agg #[.int .i64 i0, .int .i64 i1, .int .i64 i2, va0, va1, va2, va3, va4]] w fun e w' => e = .returned (.bool true) ∧ Below w.heap.size w w' := by
  have HA := hid ha
  obtain ⟨ao0, ao1, ao2, ao3, ao4, ac0, ac1, ac2, ac3, ac4, rfl, rfl, rfl, rfl, rfl⟩ := ha.open
  clear ha
  go_enter Tryz.func3, Tryz.ntmps3
  go_wp2_with fail
  generalize hW1 : (w.alloc (.cells #[.int .i64 i0, .int .i64 i1, .int .i64 i2, .slice ao0 A0.length ac0, .slice ao1 A1.length ac1, .slice ao2 A2.length ac2, .slice ao3 A3.length ac3, .slice ao4 A4.length ac4] 28)) = w1
  have a0_1 : w1.cell? ⟨w.heap.size, 0, none⟩ = some (.int .i64 i0) := by subst hW1; go_cell
  have a1_1 : w1.cell? ⟨w.heap.size, 1, none⟩ = some (.int .i64 i1) := by subst hW1; go_cell
  have a2_1 : w1.cell? ⟨w.heap.size, 2, none⟩ = some (.int .i64 i2) := by subst hW1; go_cell
  have a3_1 : w1.cell? ⟨w.heap.size, 3, none⟩ = some (.slice ao0 A0.length ac0) := by subst hW1; go_cell
  have a4_1 : w1.cell? ⟨w.heap.size, 4, none⟩ = some (.slice ao1 A1.length ac1) := by subst hW1; go_cell
  have a5_1 : w1.cell? ⟨w.heap.size, 5, none⟩ = some (.slice ao2 A2.length ac2) := by subst hW1; go_cell
  have a6_1 : w1.cell? ⟨w.heap.size, 6, none⟩ = some (.slice ao3 A3.length ac3) := by subst hW1; go_cell
  have a7_1 : w1.cell? ⟨w.heap.size, 7, none⟩ = some (.slice ao4 A4.length ac4) := by subst hW1; go_cell
  have al_1 : w.heap.size < w1.heap.size := by subst hW1; first | (simp; done) | (simp; omega)
  have c1 : Below w.heap.size w w1 := by subst hW1; go_grown
  have s1 : w1.heap.size = w.heap.size + 1 := by subst hW1; simp
  clear hW1
  have qa0_1 := cell_regrown a0_1
  have qa1_1 := cell_regrown a1_1
  have qa2_1 := cell_regrown a2_1
  have qa3_1 := cell_regrown a3_1
  have qa4_1 := cell_regrown a4_1
  have qa5_1 := cell_regrown a5_1
  have qa6_1 := cell_regrown a6_1
  have qa7_1 := cell_regrown a7_1
  refine (szShard_rd i0 i1 i2 _ _ _ _ _ A0 A1 A2 A3 A4 _ _ (HA.out.later c1) (by omega) (by omega)).mono ?_
  rintro e w2 ⟨hs, b2⟩
  have d2 : Below w1.heap.size w1 w2 := (Below.trans (by go_grown) (b2.mono (by first | omega | (simp; done) | (simp; omega))))
  have c2 : Below w.heap.size w w2 := c1.trans (d2.mono c1.size)
  have a0_2 : w2.cell? ⟨w.heap.size, 0, none⟩ = some (.int .i64 i0) := (by rw [b2.cell (by first | omega | (simp; done) | (simp; omega))]; go_cell)
  have a1_2 : w2.cell? ⟨w.heap.size, 1, none⟩ = some (.int .i64 i1) := (by rw [b2.cell (by first | omega | (simp; done) | (simp; omega))]; go_cell)
  have a2_2 : w2.cell? ⟨w.heap.size, 2, none⟩ = some (.int .i64 i2) := (by rw [b2.cell (by first | omega | (simp; done) | (simp; omega))]; go_cell)
  have a3_2 : w2.cell? ⟨w.heap.size, 3, none⟩ = some (.slice ao0 A0.length ac0) := (by rw [b2.cell (by first | omega | (simp; done) | (simp; omega))]; go_cell)
  have a4_2 : w2.cell? ⟨w.heap.size, 4, none⟩ = some (.slice ao1 A1.length ac1) := (by rw [b2.cell (by first | omega | (simp; done) | (simp; omega))]; go_cell)
  have a5_2 : w2.cell? ⟨w.heap.size, 5, none⟩ = some (.slice ao2 A2.length ac2) := (by rw [b2.cell (by first | omega | (simp; done) | (simp; omega))]; go_cell)
  have a6_2 : w2.cell? ⟨w.heap.size, 6, none⟩ = some (.slice ao3 A3.length ac3) := (by rw [b2.cell (by first | omega | (simp; done) | (simp; omega))]; go_cell)
  have a7_2 : w2.cell? ⟨w.heap.size, 7, none⟩ = some (.slice ao4 A4.length ac4) := (by rw [b2.cell (by first | omega | (simp; done) | (simp; omega))]; go_cell)
  have al_2 : w.heap.size < w2.heap.size := (by have := b2.size; first | omega | (revert this; simp; done) | (revert this; simp; omega))
  clear a0_1 a1_1 a2_1 a3_1 a4_1 a5_1 a6_1 a7_1 al_1
  clear b2 d2
  rcases hs with ⟨r, rfl, hr0, hr1, hA⟩ | rfl
  · have HLA := hid hA
    have hr2 : ¬ (r < 0) := by omega
    clear hA
    go_wp2_with fail
    refine (toShard_rd i0 i1 i2 _ _ _ _ _ A0 A1 A2 A3 A4 _ (HA.out.later c2) HLA.out).mono ?_
    rintro e w3 ⟨⟨xo0, xo1, xo2, xo3, xo4, xc0, xc1, xc2, xc3, xc4, rfl, oa⟩, b3⟩
    have OA3 := hid oa
    clear oa
    have d3 : Below w2.heap.size w2 w3 := (Below.trans (by go_grown) (b3.mono (by first | omega | (simp; done) | (simp; omega))))
    have c3 : Below w.heap.size w w3 := c2.trans (d3.mono c2.size)
    have a0_3 : w3.cell? ⟨w.heap.size, 0, none⟩ = some (.int .i64 i0) := (by rw [b3.cell (by first | omega | (simp; done) | (simp; omega))]; go_cell)
    have a1_3 : w3.cell? ⟨w.heap.size, 1, none⟩ = some (.int .i64 i1) := (by rw [b3.cell (by first | omega | (simp; done) | (simp; omega))]; go_cell)
    have a2_3 : w3.cell? ⟨w.heap.size, 2, none⟩ = some (.int .i64 i2) := (by rw [b3.cell (by first | omega | (simp; done) | (simp; omega))]; go_cell)
    have a3_3 : w3.cell? ⟨w.heap.size, 3, none⟩ = some (.slice ao0 A0.length ac0) := (by rw [b3.cell (by first | omega | (simp; done) | (simp; omega))]; go_cell)
    have a4_3 : w3.cell? ⟨w.heap.size, 4, none⟩ = some (.slice ao1 A1.length ac1) := (by rw [b3.cell (by first | omega | (simp; done) | (simp; omega))]; go_cell)
    have a5_3 : w3.cell? ⟨w.heap.size, 5, none⟩ = some (.slice ao2 A2.length ac2) := (by rw [b3.cell (by first | omega | (simp; done) | (simp; omega))]; go_cell)
    have a6_3 : w3.cell? ⟨w.heap.size, 6, none⟩ = some (.slice ao3 A3.length ac3) := (by rw [b3.cell (by first | omega | (simp; done) | (simp; omega))]; go_cell)
    have a7_3 : w3.cell? ⟨w.heap.size, 7, none⟩ = some (.slice ao4 A4.length ac4) := (by rw [b3.cell (by first | omega | (simp; done) | (simp; omega))]; go_cell)
    have al_3 : w.heap.size < w3.heap.size := (by have := b3.size; first | omega | (revert this; simp; done) | (revert this; simp; omega))
    clear a0_2 a1_2 a2_2 a3_2 a4_2 a5_2 a6_2 a7_2 al_2
    clear b3 d3
    go_wp2_with fail
    refine (specSOk_any i0 i1 i2 _ _ _ _ _ A0 A1 A2 A3 A4 _ OA3.out).mono ?_
    rintro e w4 ⟨rfl, b4⟩
    have d4 : Below w3.heap.size w3 w4 := (Below.trans (by go_grown) (b4.mono (by first | omega | (simp; done) | (simp; omega))))
    have c4 : Below w.heap.size w w4 := c3.trans (d4.mono c3.size)
    have a0_4 : w4.cell? ⟨w.heap.size, 0, none⟩ = some (.int .i64 i0) := (by rw [b4.cell (by first | omega | (simp; done) | (simp; omega))]; go_cell)
    have a1_4 : w4.cell? ⟨w.heap.size, 1, none⟩ = some (.int .i64 i1) := (by rw [b4.cell (by first | omega | (simp; done) | (simp; omega))]; go_cell)
    have a2_4 : w4.cell? ⟨w.heap.size, 2, none⟩ = some (.int .i64 i2) := (by rw [b4.cell (by first | omega | (simp; done) | (simp; omega))]; go_cell)
    have a3_4 : w4.cell? ⟨w.heap.size, 3, none⟩ = some (.slice ao0 A0.length ac0) := (by rw [b4.cell (by first | omega | (simp; done) | (simp; omega))]; go_cell)
    have a4_4 : w4.cell? ⟨w.heap.size, 4, none⟩ = some (.slice ao1 A1.length ac1) := (by rw [b4.cell (by first | omega | (simp; done) | (simp; omega))]; go_cell)
    have a5_4 : w4.cell? ⟨w.heap.size, 5, none⟩ = some (.slice ao2 A2.length ac2) := (by rw [b4.cell (by first | omega | (simp; done) | (simp; omega))]; go_cell)
    have a6_4 : w4.cell? ⟨w.heap.size, 6, none⟩ = some (.slice ao3 A3.length ac3) := (by rw [b4.cell (by first | omega | (simp; done) | (simp; omega))]; go_cell)
    have a7_4 : w4.cell? ⟨w.heap.size, 7, none⟩ = some (.slice ao4 A4.length ac4) := (by rw [b4.cell (by first | omega | (simp; done) | (simp; omega))]; go_cell)
    have al_4 : w.heap.size < w4.heap.size := (by have := b4.size; first | omega | (revert this; simp; done) | (revert this; simp; omega))
    clear a0_3 a1_3 a2_3 a3_3 a4_3 a5_3 a6_3 a7_3 al_3
    clear b4 d4
    obtain ⟨r0, hr0⟩ : ∃ z, okS i0 i1 i2 A0 A1 A2 A3 A4 = z := ⟨_, rfl⟩
    have HR0 := hid hr0
    rw [hr0]
    clear hr0
    go_wp2_with fail
    refine (toShard_rd i0 i1 i2 _ _ _ _ _ A0 A1 A2 A3 A4 _ (HA.out.later c4) HLA.out).mono ?_
    rintro e w5 ⟨⟨po0, po1, po2, po3, po4, pc0, pc1, pc2, pc3, pc4, rfl, oa⟩, b5⟩
    have OC5 := hid oa
    clear oa
    have d5 : Below w4.heap.size w4 w5 := (Below.trans (by go_grown) (b5.mono (by first | omega | (simp; done) | (simp; omega))))
    have c5 : Below w.heap.size w w5 := c4.trans (d5.mono c4.size)
    have a0_5 : w5.cell? ⟨w.heap.size, 0, none⟩ = some (.int .i64 i0) := (by rw [b5.cell (by first | omega | (simp; done) | (simp; omega))]; go_cell)
    have a1_5 : w5.cell? ⟨w.heap.size, 1, none⟩ = some (.int .i64 i1) := (by rw [b5.cell (by first | omega | (simp; done) | (simp; omega))]; go_cell)
    have a2_5 : w5.cell? ⟨w.heap.size, 2, none⟩ = some (.int .i64 i2) := (by rw [b5.cell (by first | omega | (simp; done) | (simp; omega))]; go_cell)
    have a3_5 : w5.cell? ⟨w.heap.size, 3, none⟩ = some (.slice ao0 A0.length ac0) := (by rw [b5.cell (by first | omega | (simp; done) | (simp; omega))]; go_cell)
    have a4_5 : w5.cell? ⟨w.heap.size, 4, none⟩ = some (.slice ao1 A1.length ac1) := (by rw [b5.cell (by first | omega | (simp; done) | (simp; omega))]; go_cell)
    have a5_5 : w5.cell? ⟨w.heap.size, 5, none⟩ = some (.slice ao2 A2.length ac2) := (by rw [b5.cell (by first | omega | (simp; done) | (simp; omega))]; go_cell)
    have a6_5 : w5.cell? ⟨w.heap.size, 6, none⟩ = some (.slice ao3 A3.length ac3) := (by rw [b5.cell (by first | omega | (simp; done) | (simp; omega))]; go_cell)
    have a7_5 : w5.cell? ⟨w.heap.size, 7, none⟩ = some (.slice ao4 A4.length ac4) := (by rw [b5.cell (by first | omega | (simp; done) | (simp; omega))]; go_cell)
    have al_5 : w.heap.size < w5.heap.size := (by have := b5.size; first | omega | (revert this; simp; done) | (revert this; simp; omega))
    clear a0_4 a1_4 a2_4 a3_4 a4_4 a5_4 a6_4 a7_4 al_4
    clear b5 d5
    go_wp2_with fail
    generalize hW6 : (w5.alloc (.cells #[.int .i64 i0, .int .i64 i1, .int .i64 i2, .slice po0 A0.length pc0, .slice po1 A1.length pc1, .slice po2 A2.length pc2, .slice po3 A3.length pc3, .slice po4 A4.length pc4] 37)) = w6
    have x0_6 : w6.cell? ⟨w5.heap.size, 0, none⟩ = some (.int .i64 i0) := by subst hW6; go_cell
    have x1_6 : w6.cell? ⟨w5.heap.size, 1, none⟩ = some (.int .i64 i1) := by subst hW6; go_cell
    have x2_6 : w6.cell? ⟨w5.heap.size, 2, none⟩ = some (.int .i64 i2) := by subst hW6; go_cell
    have x3_6 : w6.cell? ⟨w5.heap.size, 3, none⟩ = some (.slice po0 A0.length pc0) := by subst hW6; go_cell
    have x4_6 : w6.cell? ⟨w5.heap.size, 4, none⟩ = some (.slice po1 A1.length pc1) := by subst hW6; go_cell
    have x5_6 : w6.cell? ⟨w5.heap.size, 5, none⟩ = some (.slice po2 A2.length pc2) := by subst hW6; go_cell
    have x6_6 : w6.cell? ⟨w5.heap.size, 6, none⟩ = some (.slice po3 A3.length pc3) := by subst hW6; go_cell
    have x7_6 : w6.cell? ⟨w5.heap.size, 7, none⟩ = some (.slice po4 A4.length pc4) := by subst hW6; go_cell
    have xl_6 : w5.heap.size < w6.heap.size := by subst hW6; simp
    have d6 : Below w5.heap.size w5 w6 := by subst hW6; go_grown
    clear hW6
    have c6 : Below w.heap.size w w6 := c5.trans (d6.mono c5.size)
    have a0_6 : w6.cell? ⟨w.heap.size, 0, none⟩ = some (.int .i64 i0) := (by rw [d6.cell (by first | omega | (simp; done) | (simp; omega))]; go_cell)
    have a1_6 : w6.cell? ⟨w.heap.size, 1, none⟩ = some (.int .i64 i1) := (by rw [d6.cell (by first | omega | (simp; done) | (simp; omega))]; go_cell)
    have a2_6 : w6.cell? ⟨w.heap.size, 2, none⟩ = some (.int .i64 i2) := (by rw [d6.cell (by first | omega | (simp; done) | (simp; omega))]; go_cell)
    have a3_6 : w6.cell? ⟨w.heap.size, 3, none⟩ = some (.slice ao0 A0.length ac0) := (by rw [d6.cell (by first | omega | (simp; done) | (simp; omega))]; go_cell)
    have a4_6 : w6.cell? ⟨w.heap.size, 4, none⟩ = some (.slice ao1 A1.length ac1) := (by rw [d6.cell (by first | omega | (simp; done) | (simp; omega))]; go_cell)
    have a5_6 : w6.cell? ⟨w.heap.size, 5, none⟩ = some (.slice ao2 A2.length ac2) := (by rw [d6.cell (by first | omega | (simp; done) | (simp; omega))]; go_cell)
    have a6_6 : w6.cell? ⟨w.heap.size, 6, none⟩ = some (.slice ao3 A3.length ac3) := (by rw [d6.cell (by first | omega | (simp; done) | (simp; omega))]; go_cell)
    have a7_6 : w6.cell? ⟨w.heap.size, 7, none⟩ = some (.slice ao4 A4.length ac4) := (by rw [d6.cell (by first | omega | (simp; done) | (simp; omega))]; go_cell)
    have al_6 : w.heap.size < w6.heap.size := (by have := d6.size; omega)
    clear a0_5 a1_5 a2_5 a3_5 a4_5 a5_5 a6_5 a7_5 al_5
    have OC6 := hid (OC5.out.later d6)
    clear d6
    refine (implSOk_any i0 i1 i2 _ _ _ _ _ A0 A1 A2 A3 A4 _ OC6.out).mono ?_
    rintro e w7 ⟨rfl, b7⟩
    have d7 : Below w6.heap.size w6 w7 := (Below.trans (by go_grown) (b7.mono (by first | omega | (simp; done) | (simp; omega))))
    have c7 : Below w.heap.size w w7 := c6.trans (d7.mono c6.size)
    have a0_7 : w7.cell? ⟨w.heap.size, 0, none⟩ = some (.int .i64 i0) := (by rw [b7.cell (by first | omega | (simp; done) | (simp; omega))]; go_cell)
    have a1_7 : w7.cell? ⟨w.heap.size, 1, none⟩ = some (.int .i64 i1) := (by rw [b7.cell (by first | omega | (simp; done) | (simp; omega))]; go_cell)
    have a2_7 : w7.cell? ⟨w.heap.size, 2, none⟩ = some (.int .i64 i2) := (by rw [b7.cell (by first | omega | (simp; done) | (simp; omega))]; go_cell)
    have a3_7 : w7.cell? ⟨w.heap.size, 3, none⟩ = some (.slice ao0 A0.length ac0) := (by rw [b7.cell (by first | omega | (simp; done) | (simp; omega))]; go_cell)
    have a4_7 : w7.cell? ⟨w.heap.size, 4, none⟩ = some (.slice ao1 A1.length ac1) := (by rw [b7.cell (by first | omega | (simp; done) | (simp; omega))]; go_cell)
    have a5_7 : w7.cell? ⟨w.heap.size, 5, none⟩ = some (.slice ao2 A2.length ac2) := (by rw [b7.cell (by first | omega | (simp; done) | (simp; omega))]; go_cell)
    have a6_7 : w7.cell? ⟨w.heap.size, 6, none⟩ = some (.slice ao3 A3.length ac3) := (by rw [b7.cell (by first | omega | (simp; done) | (simp; omega))]; go_cell)
    have a7_7 : w7.cell? ⟨w.heap.size, 7, none⟩ = some (.slice ao4 A4.length ac4) := (by rw [b7.cell (by first | omega | (simp; done) | (simp; omega))]; go_cell)
    have al_7 : w.heap.size < w7.heap.size := (by have := b7.size; first | omega | (revert this; simp; done) | (revert this; simp; omega))
    have x0_7 : w7.cell? ⟨w5.heap.size, 0, none⟩ = some (.int .i64 i0) := (by rw [b7.cell (by first | omega | (simp; done) | (simp; omega))]; go_cell)
    have x1_7 : w7.cell? ⟨w5.heap.size, 1, none⟩ = some (.int .i64 i1) := (by rw [b7.cell (by first | omega | (simp; done) | (simp; omega))]; go_cell)
    have x2_7 : w7.cell? ⟨w5.heap.size, 2, none⟩ = some (.int .i64 i2) := (by rw [b7.cell (by first | omega | (simp; done) | (simp; omega))]; go_cell)
    have x3_7 : w7.cell? ⟨w5.heap.size, 3, none⟩ = some (.slice po0 A0.length pc0) := (by rw [b7.cell (by first | omega | (simp; done) | (simp; omega))]; go_cell)
    have x4_7 : w7.cell? ⟨w5.heap.size, 4, none⟩ = some (.slice po1 A1.length pc1) := (by rw [b7.cell (by first | omega | (simp; done) | (simp; omega))]; go_cell)
    have x5_7 : w7.cell? ⟨w5.heap.size, 5, none⟩ = some (.slice po2 A2.length pc2) := (by rw [b7.cell (by first | omega | (simp; done) | (simp; omega))]; go_cell)
    have x6_7 : w7.cell? ⟨w5.heap.size, 6, none⟩ = some (.slice po3 A3.length pc3) := (by rw [b7.cell (by first | omega | (simp; done) | (simp; omega))]; go_cell)
    have x7_7 : w7.cell? ⟨w5.heap.size, 7, none⟩ = some (.slice po4 A4.length pc4) := (by rw [b7.cell (by first | omega | (simp; done) | (simp; omega))]; go_cell)
    have xl_7 : w5.heap.size < w7.heap.size := (by have := b7.size; first | omega | (revert this; simp; done) | (revert this; simp; omega))
    clear a0_6 a1_6 a2_6 a3_6 a4_6 a5_6 a6_6 a7_6 al_6 x0_6 x1_6 x2_6 x3_6 x4_6 x5_6 x6_6 x7_6 xl_6
    have OC7 := hid (OC6.out.later d7)
    clear b7 d7
    rw [HR0.out]
    have hne : (r0 != r0) = false := by simp
    go_upto_region 10 with fail
    go_cut [26] from 7 (fun s wx => s = .bool false ∧ Below w7.heap.size w7 wx)
    case first =>
      go_region_with (first
        | (go_at_call 6; refine (toShard_rd i0 i1 i2 (.slice ao0 A0.length ac0) (.slice ao1 A1.length ac1) (.slice ao2 A2.length ac2) (.slice ao3 A3.length ac3) (.slice ao4 A4.length ac4) A0 A1 A2 A3 A4 _ (HA.out.later (c7.drew)) HLA.out).mono ?_; rintro e w10 ⟨⟨zo0, zo1, zo2, zo3, zo4, zc0, zc1, zc2, zc3, zc4, rfl, oa⟩, b10⟩; have OE10 := hid oa; clear oa; have d10 : Below w7.heap.size w7 w10 := (Below.trans (by go_grown) (b10.mono (by first | omega | (simp; done) | (simp; omega)))); have c10 : Below w.heap.size w w10 := c7.trans (d10.mono c7.size); have x0_10 : w10.cell? ⟨w5.heap.size, 0, none⟩ = some (.int .i64 i0) := (by rw [b10.cell (by first | omega | (simp; done) | (simp; omega))]; go_cell); have x1_10 : w10.cell? ⟨w5.heap.size, 1, none⟩ = some (.int .i64 i1) := (by rw [b10.cell (by first | omega | (simp; done) | (simp; omega))]; go_cell); have x2_10 : w10.cell? ⟨w5.heap.size, 2, none⟩ = some (.int .i64 i2) := (by rw [b10.cell (by first | omega | (simp; done) | (simp; omega))]; go_cell); have x3_10 : w10.cell? ⟨w5.heap.size, 3, none⟩ = some (.slice po0 A0.length pc0) := (by rw [b10.cell (by first | omega | (simp; done) | (simp; omega))]; go_cell); have x4_10 : w10.cell? ⟨w5.heap.size, 4, none⟩ = some (.slice po1 A1.length pc1) := (by rw [b10.cell (by first | omega | (simp; done) | (simp; omega))]; go_cell); have x5_10 : w10.cell? ⟨w5.heap.size, 5, none⟩ = some (.slice po2 A2.length pc2) := (by rw [b10.cell (by first | omega | (simp; done) | (simp; omega))]; go_cell); have x6_10 : w10.cell? ⟨w5.heap.size, 6, none⟩ = some (.slice po3 A3.length pc3) := (by rw [b10.cell (by first | omega | (simp; done) | (simp; omega))]; go_cell); have x7_10 : w10.cell? ⟨w5.heap.size, 7, none⟩ = some (.slice po4 A4.length pc4) := (by rw [b10.cell (by first | omega | (simp; done) | (simp; omega))]; go_cell); have xl_10 : w5.heap.size < w10.heap.size := (by have := b10.size; first | omega | (revert this; simp; done) | (revert this; simp; omega)); clear x0_7 x1_7 x2_7 x3_7 x4_7 x5_7 x6_7 x7_7 xl_7)
        | (go_at_call 8; refine (eqShard_rd i0 i1 i2 _ _ _ _ _ _ _ _ _ _ A0 A1 A2 A3 A4 _ (OC7.out.later d10) OE10.out).mono ?_; rintro e w11 ⟨rfl, b11⟩; have d11 : Below w10.heap.size w10 w11 := (Below.trans (by go_grown) (b11.mono (by first | omega | (simp; done) | (simp; omega)))); have c11 : Below w.heap.size w w11 := c10.trans (d11.mono c10.size)))
      all_goals
        go_wp2_with fail
        go_meet
        exact ⟨rfl, d10.trans (d11.mono d10.size)⟩
    case rest =>
      obtain ⟨rfl, b10⟩ := hcut
      have c8 := c7.trans (b10.mono c7.size)
      clear b10
      go_wp2
      go_ret
      exact ⟨by simp, c8⟩
  · go_wp2
    go_ret
    exact ⟨by simp, c2⟩
end Go.Proofs.YtadjajappnhipaaGreat

/- Part: An argument that is a slice of edges reads as a list of pairs. -/
namespace Go.Proofs.YtadjajappnhipaaGreat
open Go.ChangeShapes Go.WideShapes Go.ChangeAt Go.RowKit Go.Deep

theorem Tryz.own : ownKnob Tryz.prog.godebug = none := by kernel_rfl
theorem Tryz.laidOut : laidOutB Tryz.prog = true := by kernel_rfl
theorem Tryz.cells159 : Tryz.prog.cellsOf 159 = 2 := by kernel_rfl
theorem Tryz.cells3 : Tryz.prog.cellsOf 3 = 1 := by kernel_rfl

set_option maxRecDepth 100000 in
theorem rd_of {H : Type} {enc : TypeId × Value → H} {W : World} {base : Nat} {v : Value} {d : DataW H} {p : List MemPlace} (hv : Value.okWide Tryz.prog W .any base 58 v)
    (h : DataW.Trod enc Tryz.prog W 0 (fun _ => true) true 58 v d p) (hlt : ∀ x ∈ p, x.block < W.heap.size) : ∃ l, Rd W v l := by
  obtain ⟨a0, len, cap, rfl⟩ := okWide_slice Tryz.underlying58 hv
  obtain ⟨fuel, hf⟩ := h
  rcases open_slice_pairs Tryz.underlying58 Tryz.underlying159 Tryz.cells159 rfl rfl Tryz.cells3 Tryz.cells3 hf with ⟨hcs, _⟩ | ⟨a, len', cap', m, n, V0, V1, D0, D1, P0, P1, hcs, _, hlc, hcm, hm, hx, hcell⟩
  · simp [Value.cells] at hcs
    obtain ⟨rfl, rfl, rfl⟩ := hcs
    exact ⟨[], Rd.nil W none 0⟩
  · simp [Value.cells] at hcs
    obtain ⟨rfl, rfl, rfl⟩ := hcs
    simp only [if_true] at hm
    subst hm
    have num : ∀ (t : Value) (x : DataW H × List MemPlace), DataW.trod enc Tryz.prog W 0 (fun _ => true) true n 3 [t] = some x → ∃ z, t = .int .i64 z := by
      intro t x hx
      obtain ⟨z, hz, _⟩ := DataW.trod_int Tryz.underlying3 hx
      exact ⟨z, by simpa using hz⟩
    let N : Value → Int := fun t => match t with | .int _ z => z | _ => 0
    refine ⟨(List.range len).map fun i => (N (V0 i), N (V1 i)), some a, _, by simp; rfl, by simp only [List.length_map, List.length_range]; omega, fun h0 => ?_⟩
    simp only [List.length_map, List.length_range] at h0 ⊢
    obtain ⟨b, off, spot⟩ := a
    have hs : spot = none := by
      have := (hcell 0 (by omega)).1
      simpa [Addr.add] using World.cell?_spot this
    subst hs
    refine ⟨b, off, rfl, ?_, fun i hi => ?_⟩
    · simp only [Prod.mk.injEq] at hx
      have := hlt (.cell b off) (by rw [hx.2]; exact List.mem_append_left _ (MemPlace.mem_row.2 ⟨0, by omega, by simp⟩))
      exact this
    · obtain ⟨c0, c1, t0, t1⟩ := hcell i (by omega)
      obtain ⟨z0, e0⟩ := num _ _ t0
      obtain ⟨z1, e1⟩ := num _ _ t1
      rw [add_plain] at c0 c1
      have hg : ((List.range len).map fun i => (N (V0 i), N (V1 i))).getD i (0, 0) = (z0, z1) := by
        simp [List.getD_eq_getElem?_getD, hi, e0, e1, N]
      rw [hg]
      exact ⟨by rw [c0, e0], by rw [show off + i * 2 + 1 = off + (i * 2 + 1) from by omega, c1, e1]⟩
end Go.Proofs.YtadjajappnhipaaGreat

/- Part: An argument that is a value (a number and a slice of edges). -/
namespace Go.Proofs.YtadjajappnhipaaGreat
open Go.ChangeShapes Go.WideShapes Go.ChangeAt Go.RowKit Go.Deep Go.Joins

theorem Tryz.cells60 : Tryz.prog.cellsOf 60 = 2 := by kernel_rfl

set_option maxRecDepth 100000 in
theorem rd_of_trod {H : Type} {enc : TypeId × Value → H} {W : World} {v : Value} {d : DataW H} {p : List MemPlace} {fuel : Nat}
    (hf : DataW.trod enc Tryz.prog W 0 (fun _ => true) true fuel 58 [v] = some (d, p)) (hlt : ∀ x ∈ p, x.block < W.heap.size) : ∃ l, Rd W v l := by
  rcases open_slice_pairs Tryz.underlying58 Tryz.underlying159 Tryz.cells159 rfl rfl Tryz.cells3 Tryz.cells3 hf with ⟨hcs, _⟩ | ⟨a, len', cap', m, n, V0, V1, D0, D1, P0, P1, hcs, _, hlc, hcm, hm, hx, hcell⟩
  · simp at hcs
    subst hcs
    exact ⟨[], Rd.nil W none 0⟩
  · simp at hcs
    subst hcs
    simp only [if_true] at hm
    subst hm
    have num : ∀ (t : Value) (x : DataW H × List MemPlace), DataW.trod enc Tryz.prog W 0 (fun _ => true) true n 3 [t] = some x → ∃ z, t = .int .i64 z := by
      intro t x hx
      obtain ⟨z, hz, _⟩ := DataW.trod_int Tryz.underlying3 hx
      exact ⟨z, by simpa using hz⟩
    let N : Value → Int := fun t => match t with | .int _ z => z | _ => 0
    refine ⟨(List.range len').map fun i => (N (V0 i), N (V1 i)), some a, _, by simp; rfl, by simp only [List.length_map, List.length_range]; omega, fun h0 => ?_⟩
    simp only [List.length_map, List.length_range] at h0 ⊢
    obtain ⟨b, off, spot⟩ := a
    have hs : spot = none := by
      have := (hcell 0 (by omega)).1
      simpa [Addr.add] using World.cell?_spot this
    subst hs
    refine ⟨b, off, rfl, ?_, fun i hi => ?_⟩
    · simp only [Prod.mk.injEq] at hx
      have := hlt (.cell b off) (by rw [hx.2]; exact List.mem_append_left _ (MemPlace.mem_row.2 ⟨0, by omega, by simp⟩))
      exact this
    · obtain ⟨c0, c1, t0, t1⟩ := hcell i (by omega)
      obtain ⟨z0, e0⟩ := num _ _ t0
      obtain ⟨z1, e1⟩ := num _ _ t1
      rw [add_plain] at c0 c1
      have hg : ((List.range len').map fun i => (N (V0 i), N (V1 i))).getD i (0, 0) = (z0, z1) := by
        simp [List.getD_eq_getElem?_getD, hi, e0, e1, N]
      rw [hg]
      exact ⟨by rw [c0, e0], by rw [show off + i * 2 + 1 = off + (i * 2 + 1) from by omega, c1, e1]⟩

set_option maxRecDepth 100000 in
theorem val_of {H : Type} {enc : TypeId × Value → H} {W : World} {base : Nat} {v : Value} {d : DataW H} {p : List MemPlace} (hv : Value.okWide Tryz.prog W .any base 60 v)
    (h : DataW.Trod enc Tryz.prog W 0 (fun _ => true) true 60 v d p) (hlt : ∀ x ∈ p, x.block < W.heap.size) : ∃ n u l, v = .agg #[.int .i64 n, u] ∧ Rd W u l := by
  obtain ⟨v0, v1, y0, y1, n, rfl, rfl, rfl, h0, h1⟩ := open_agg2 Tryz.underlying60 (by kernel_rfl) Tryz.cells60 hv h
  obtain ⟨z, hz, _⟩ := DataW.trod_int Tryz.underlying3 h0
  have hz' : v0 = .int .i64 z := by simpa using hz
  obtain ⟨d1, p1⟩ := y1
  obtain ⟨l, hl⟩ := rd_of_trod h1 (fun x hx => hlt x (List.mem_append_right _ hx))
  exact ⟨z, v1, l, by rw [hz'], hl⟩
end Go.Proofs.YtadjajappnhipaaGreat

/- Part: An argument's cells: numbers, then kin; lists of such. -/
namespace Go.Proofs.YtadjajappnhipaaGreat
open Go.ChangeShapes Go.WideShapes Go.ChangeAt Go.RowKit Go.Deep Go.Joins

theorem Tryz.cells58' : Tryz.prog.cellsOf 58 = 1 := by kernel_rfl
/-- The cells of an element: its m numbers, then its kin. -/
def CellsK (W : World) (m : Nat) (kn : Bool) (cs : List Value) (x : KD) : Prop :=
  x.1.length = m ∧ ∃ us : List Value, cs = x.1.map (fun n => Value.int .i64 n) ++ us ∧ (kn = true → ∃ u, us = [u] ∧ Rd W u x.2) ∧ (kn = false → us = [] ∧ x.2 = [])
theorem CellsK.append {W : World} {m1 m2 : Nat} {kn : Bool} {cs1 cs2 : List Value} {x1 x2 : KD} (h1 : CellsK W m1 false cs1 x1) (h2 : CellsK W m2 kn cs2 x2) : CellsK W (m1 + m2) kn (cs1 ++ cs2) (x1.1 ++ x2.1, x2.2) := by
  obtain ⟨l1, us1, rfl, _, g1⟩ := h1
  obtain ⟨l2, us2, rfl, f2, g2⟩ := h2
  obtain ⟨rfl, _⟩ := g1 rfl
  exact ⟨by rw [List.length_append, l1, l2], us2, by simp, f2, g2⟩
theorem CellsK.at {W : World} {m : Nat} {kn : Bool} {cs : List Value} {x : KD} {b p : Nat} (h : CellsK W m kn cs x) (hc : ∀ j, j < cs.length → W.cell? ⟨b, p + j, none⟩ = cs[j]?) : AtK m kn W b p x := by
  obtain ⟨l, us, rfl, f, g⟩ := h
  refine ⟨l, fun j hj => ?_, fun hk => ?_, fun hk => (g hk).2⟩
  · rw [hc j (by simp; omega), List.getElem?_append_left (by simp; omega), List.getElem?_map, List.getElem?_eq_getElem (by omega)]
    simp [List.getD_eq_getElem?_getD, List.getElem?_eq_getElem (show j < x.1.length by omega)]
  · obtain ⟨u, rfl, hu⟩ := f hk
    exact ⟨u, by rw [hc m (by simp [l]), List.getElem?_append_right (by simp [l])]; simp [l], hu⟩
/-- Whatever is read by a type has such cells. -/
def ElemK {H : Type} (enc : TypeId × Value → H) (W : World) (t : TypeId) (m : Nat) (kn : Bool) : Prop :=
  ∀ (fuel : Nat) (cs : List Value) (d : DataW H) (p : List MemPlace), DataW.trod enc Tryz.prog W 0 (fun _ => true) true fuel t cs = some (d, p) → (∀ x ∈ p, x.block < W.heap.size) → ∃ x, CellsK W m kn cs x
theorem elem_int {H : Type} (enc : TypeId × Value → H) (W : World) : ElemK enc W 3 1 false := by
  intro fuel cs d p h _
  obtain ⟨z, hz, _⟩ := DataW.trod_int Tryz.underlying3 h
  exact ⟨([z], []), rfl, [], by simpa using hz, fun q => (by cases q), fun _ => ⟨rfl, rfl⟩⟩
theorem elem_kin {H : Type} (enc : TypeId × Value → H) (W : World) : ElemK enc W 58 0 true := by
  intro fuel cs d p h hlt
  have : ∃ v, cs = [v] := by
    rcases open_slice Tryz.underlying58 h with ⟨hc, _⟩ | ⟨a, len, cap, _, _, _, _, hc, _⟩
    · exact ⟨_, hc⟩
    · exact ⟨_, hc⟩
  obtain ⟨v, rfl⟩ := this
  obtain ⟨l, hl⟩ := rd_of_trod h hlt
  exact ⟨([], l), rfl, [v], rfl, fun _ => ⟨v, rfl, hl⟩, fun q => (by cases q)⟩

set_option maxRecDepth 100000 in
theorem rdM_of_trod {H : Type} {enc : TypeId × Value → H} {W : World} {v : Value} {d : DataW H} {p : List MemPlace} {fuel : Nat} {t e : TypeId} {sz m : Nat} {kn : Bool} (ht : Tryz.prog.underlying t = some (.slice e)) (hce : Tryz.prog.cellsOf e = sz) (hsz : 0 < sz) (he : ElemK enc W e m kn)
    (hf : DataW.trod enc Tryz.prog W 0 (fun _ => true) true fuel t [v] = some (d, p)) (hlt : ∀ x ∈ p, x.block < W.heap.size) : ∃ L, RdM sz m kn W v L := by
  rcases open_slice ht hf with ⟨hcs, _⟩ | ⟨a, len, cap, mm, n, D, Pl, hcs, _, hl, hm, hmm, hx, hcell⟩
  · simp at hcs
    subst hcs
    exact ⟨[], RdM.nil W none 0⟩
  · simp at hcs
    subst hcs
    simp only [if_true] at hmm
    subst hmm
    simp only [Prod.mk.injEq] at hx
    rw [hce] at hcell hx
    have each : ∀ i, i < mm → ∃ q : List Value × KD, W.cells? 0 (a.add (i * sz)) sz = some q.1 ∧ CellsK W m kn q.1 q.2 := by
      intro i hi
      obtain ⟨cs', h1, h2⟩ := hcell i hi
      obtain ⟨x, hxk⟩ := he n cs' (D i) (Pl i) h2 (fun x hx1 => hlt x (by
        rw [hx.2]
        exact List.mem_append_right _ (List.mem_flatMap.2 ⟨i, List.mem_range.2 hi, hx1⟩)))
      exact ⟨(cs', x), h1, hxk⟩
    let N : Nat → KD := fun i => if h : i < mm then (each i h).choose.2 else kd0
    refine ⟨(List.range len).map N, some a, mm, by simp, by simp only [List.length_map, List.length_range]; omega, fun h0 => ?_⟩
    simp only [List.length_map, List.length_range] at h0 ⊢
    have hfirst : ∃ u, W.cell? (a.add (0 * sz)) = some u := by
      obtain ⟨cs', h1, _⟩ := hcell 0 (by omega)
      obtain ⟨_, hlen, hcc⟩ := World.cells?_some h1
      have := hcc 0 hsz
      refine ⟨cs'[0]'(by omega), ?_⟩
      rw [add_add, Nat.add_zero] at this
      rw [this]
      simp [List.getElem?_eq_getElem (show 0 < cs'.length by omega)]
    obtain ⟨b, off, spot⟩ := a
    have hs : spot = none := by
      obtain ⟨u, hu⟩ := hfirst
      simpa [Addr.add] using World.cell?_spot hu
    subst hs
    refine ⟨b, off, rfl, ?_, fun i hi => ?_⟩
    · have := hlt (.cell b off) (by rw [hx.2]; exact List.mem_append_left _ (MemPlace.mem_row.2 ⟨0, Nat.mul_pos (by omega) hsz, by simp⟩))
      exact this
    · have hg : ((List.range len).map N).getD i kd0 = N i := by
        simp [List.getD_eq_getElem?_getD, hi]
      rw [hg]
      have hi' : i < mm := by omega
      obtain ⟨h1, h2⟩ := (each i hi').choose_spec
      have hN : N i = (each i hi').choose.2 := by simp only [N, dif_pos hi']
      rw [hN]
      obtain ⟨_, hlen, hcc⟩ := World.cells?_some h1
      refine h2.at fun j hj => ?_
      have e : (((⟨b, off, none⟩ : Addr).add (i * sz)).add j) = ⟨b, off + i * sz + j, none⟩ := by rw [add_plain, add_plain]
      exact (congrArg W.cell? e).symm.trans (hcc j (by omega))
end Go.Proofs.YtadjajappnhipaaGreat

/- Part: An argument that is a Shard. Written by a program (gopen.py). -/
namespace Go.Proofs.YtadjajappnhipaaGreat
open Go.ChangeShapes Go.WideShapes Go.ChangeAt Go.RowKit Go.Deep Go.Joins

theorem Tryz.cells_Val : Tryz.prog.cellsOf 60 = 2 := by kernel_rfl
set_option maxRecDepth 100000 in
theorem elem_Val {H : Type} (enc : TypeId × Value → H) (W : World) : ElemK enc W 60 1 true := by
  intro fuel cs d p h hlt
  obtain ⟨xs, n, _, hx, hl, hxl, hff⟩ := DataW.trod_struct Tryz.underlying60 h
  rw [Tryz.cells_Val] at hl
  simp only [Prod.mk.injEq] at hx
  match xs, hxl, hx, hff with
  | [(d0, q0), (d1, q1)], _, hx, hff =>
    have h0 : DataW.trod enc Tryz.prog W 0 (fun _ => true) true n 3 ((cs.drop 0).take 1) = some (d0, q0) := by
      have h := hff 0 _ rfl
      first | exact h | (rw [Tryz.cells3] at h; exact h)
    obtain ⟨x0, k0⟩ := elem_int enc W _ _ _ _ h0 (fun x hx1 => hlt x (by rw [hx.2]; simp only [List.flatMap_cons, List.flatMap_nil, List.mem_append]; exact Or.inl hx1))
    have h1 : DataW.trod enc Tryz.prog W 0 (fun _ => true) true n 58 ((cs.drop 1).take 1) = some (d1, q1) := by
      have h := hff 1 _ rfl
      first | exact h | (rw [Tryz.cells58'] at h; exact h)
    obtain ⟨x1, k1⟩ := elem_kin enc W _ _ _ _ h1 (fun x hx1 => hlt x (by rw [hx.2]; simp only [List.flatMap_cons, List.flatMap_nil, List.mem_append]; exact Or.inr (Or.inl hx1)))
    have e : cs = (cs.drop 0).take 1 ++ ((cs.drop 1).take 1) := by
      match cs, hl with
      | [z0, z1], _ => rfl
    have k := (k0.append k1)
    rw [← e] at k
    exact ⟨_, k⟩
theorem Tryz.cells_Row : Tryz.prog.cellsOf 62 = 3 := by kernel_rfl
set_option maxRecDepth 100000 in
theorem elem_Row {H : Type} (enc : TypeId × Value → H) (W : World) : ElemK enc W 62 2 true := by
  intro fuel cs d p h hlt
  obtain ⟨xs, n, _, hx, hl, hxl, hff⟩ := DataW.trod_struct Tryz.underlying62 h
  rw [Tryz.cells_Row] at hl
  simp only [Prod.mk.injEq] at hx
  match xs, hxl, hx, hff with
  | [(d0, q0), (d1, q1)], _, hx, hff =>
    have h0 : DataW.trod enc Tryz.prog W 0 (fun _ => true) true n 3 ((cs.drop 0).take 1) = some (d0, q0) := by
      have h := hff 0 _ rfl
      first | exact h | (rw [Tryz.cells3] at h; exact h)
    obtain ⟨x0, k0⟩ := elem_int enc W _ _ _ _ h0 (fun x hx1 => hlt x (by rw [hx.2]; simp only [List.flatMap_cons, List.flatMap_nil, List.mem_append]; exact Or.inl hx1))
    have h1 : DataW.trod enc Tryz.prog W 0 (fun _ => true) true n 60 ((cs.drop 1).take 2) = some (d1, q1) := by
      have h := hff 1 _ rfl
      first | exact h | (rw [Tryz.cells_Val] at h; exact h)
    obtain ⟨x1, k1⟩ := elem_Val enc W _ _ _ _ h1 (fun x hx1 => hlt x (by rw [hx.2]; simp only [List.flatMap_cons, List.flatMap_nil, List.mem_append]; exact Or.inr (Or.inl hx1)))
    have e : cs = (cs.drop 0).take 1 ++ ((cs.drop 1).take 2) := by
      match cs, hl with
      | [z0, z1, z2], _ => rfl
    have k := (k0.append k1)
    rw [← e] at k
    exact ⟨_, k⟩
theorem Tryz.cells_Req : Tryz.prog.cellsOf 91 = 3 := by kernel_rfl
set_option maxRecDepth 100000 in
theorem elem_Req {H : Type} (enc : TypeId × Value → H) (W : World) : ElemK enc W 91 3 false := by
  intro fuel cs d p h hlt
  obtain ⟨xs, n, _, hx, hl, hxl, hff⟩ := DataW.trod_struct Tryz.underlying91 h
  rw [Tryz.cells_Req] at hl
  simp only [Prod.mk.injEq] at hx
  match xs, hxl, hx, hff with
  | [(d0, q0), (d1, q1), (d2, q2)], _, hx, hff =>
    have h0 : DataW.trod enc Tryz.prog W 0 (fun _ => true) true n 3 ((cs.drop 0).take 1) = some (d0, q0) := by
      have h := hff 0 _ rfl
      first | exact h | (rw [Tryz.cells3] at h; exact h)
    obtain ⟨x0, k0⟩ := elem_int enc W _ _ _ _ h0 (fun x hx1 => hlt x (by rw [hx.2]; simp only [List.flatMap_cons, List.flatMap_nil, List.mem_append]; exact Or.inl hx1))
    have h1 : DataW.trod enc Tryz.prog W 0 (fun _ => true) true n 3 ((cs.drop 1).take 1) = some (d1, q1) := by
      have h := hff 1 _ rfl
      first | exact h | (rw [Tryz.cells3] at h; exact h)
    obtain ⟨x1, k1⟩ := elem_int enc W _ _ _ _ h1 (fun x hx1 => hlt x (by rw [hx.2]; simp only [List.flatMap_cons, List.flatMap_nil, List.mem_append]; exact Or.inr (Or.inl hx1)))
    have h2 : DataW.trod enc Tryz.prog W 0 (fun _ => true) true n 3 ((cs.drop 2).take 1) = some (d2, q2) := by
      have h := hff 2 _ rfl
      first | exact h | (rw [Tryz.cells3] at h; exact h)
    obtain ⟨x2, k2⟩ := elem_int enc W _ _ _ _ h2 (fun x hx1 => hlt x (by rw [hx.2]; simp only [List.flatMap_cons, List.flatMap_nil, List.mem_append]; exact Or.inr (Or.inr (Or.inl hx1))))
    have e : cs = (cs.drop 0).take 1 ++ ((cs.drop 1).take 1 ++ ((cs.drop 2).take 1)) := by
      match cs, hl with
      | [z0, z1, z2], _ => rfl
    have k := (k0.append (k1.append k2))
    rw [← e] at k
    exact ⟨_, k⟩
theorem Tryz.cells_Done : Tryz.prog.cellsOf 93 = 6 := by kernel_rfl
set_option maxRecDepth 100000 in
theorem elem_Done {H : Type} (enc : TypeId × Value → H) (W : World) : ElemK enc W 93 6 false := by
  intro fuel cs d p h hlt
  obtain ⟨xs, n, _, hx, hl, hxl, hff⟩ := DataW.trod_struct Tryz.underlying93 h
  rw [Tryz.cells_Done] at hl
  simp only [Prod.mk.injEq] at hx
  match xs, hxl, hx, hff with
  | [(d0, q0), (d1, q1), (d2, q2), (d3, q3)], _, hx, hff =>
    have h0 : DataW.trod enc Tryz.prog W 0 (fun _ => true) true n 91 ((cs.drop 0).take 3) = some (d0, q0) := by
      have h := hff 0 _ rfl
      first | exact h | (rw [Tryz.cells_Req] at h; exact h)
    obtain ⟨x0, k0⟩ := elem_Req enc W _ _ _ _ h0 (fun x hx1 => hlt x (by rw [hx.2]; simp only [List.flatMap_cons, List.flatMap_nil, List.mem_append]; exact Or.inl hx1))
    have h1 : DataW.trod enc Tryz.prog W 0 (fun _ => true) true n 3 ((cs.drop 3).take 1) = some (d1, q1) := by
      have h := hff 1 _ rfl
      first | exact h | (rw [Tryz.cells3] at h; exact h)
    obtain ⟨x1, k1⟩ := elem_int enc W _ _ _ _ h1 (fun x hx1 => hlt x (by rw [hx.2]; simp only [List.flatMap_cons, List.flatMap_nil, List.mem_append]; exact Or.inr (Or.inl hx1)))
    have h2 : DataW.trod enc Tryz.prog W 0 (fun _ => true) true n 3 ((cs.drop 4).take 1) = some (d2, q2) := by
      have h := hff 2 _ rfl
      first | exact h | (rw [Tryz.cells3] at h; exact h)
    obtain ⟨x2, k2⟩ := elem_int enc W _ _ _ _ h2 (fun x hx1 => hlt x (by rw [hx.2]; simp only [List.flatMap_cons, List.flatMap_nil, List.mem_append]; exact Or.inr (Or.inr (Or.inl hx1))))
    have h3 : DataW.trod enc Tryz.prog W 0 (fun _ => true) true n 3 ((cs.drop 5).take 1) = some (d3, q3) := by
      have h := hff 3 _ rfl
      first | exact h | (rw [Tryz.cells3] at h; exact h)
    obtain ⟨x3, k3⟩ := elem_int enc W _ _ _ _ h3 (fun x hx1 => hlt x (by rw [hx.2]; simp only [List.flatMap_cons, List.flatMap_nil, List.mem_append]; exact Or.inr (Or.inr (Or.inr (Or.inl hx1)))))
    have e : cs = (cs.drop 0).take 3 ++ ((cs.drop 3).take 1 ++ ((cs.drop 4).take 1 ++ ((cs.drop 5).take 1))) := by
      match cs, hl with
      | [z0, z1, z2, z3, z4, z5], _ => rfl
    have k := (k0.append (k1.append (k2.append k3)))
    rw [← e] at k
    exact ⟨_, k⟩
theorem Tryz.cells_Op : Tryz.prog.cellsOf 95 = 4 := by kernel_rfl
set_option maxRecDepth 100000 in
theorem elem_Op {H : Type} (enc : TypeId × Value → H) (W : World) : ElemK enc W 95 4 false := by
  intro fuel cs d p h hlt
  obtain ⟨xs, n, _, hx, hl, hxl, hff⟩ := DataW.trod_struct Tryz.underlying95 h
  rw [Tryz.cells_Op] at hl
  simp only [Prod.mk.injEq] at hx
  match xs, hxl, hx, hff with
  | [(d0, q0), (d1, q1), (d2, q2), (d3, q3)], _, hx, hff =>
    have h0 : DataW.trod enc Tryz.prog W 0 (fun _ => true) true n 3 ((cs.drop 0).take 1) = some (d0, q0) := by
      have h := hff 0 _ rfl
      first | exact h | (rw [Tryz.cells3] at h; exact h)
    obtain ⟨x0, k0⟩ := elem_int enc W _ _ _ _ h0 (fun x hx1 => hlt x (by rw [hx.2]; simp only [List.flatMap_cons, List.flatMap_nil, List.mem_append]; exact Or.inl hx1))
    have h1 : DataW.trod enc Tryz.prog W 0 (fun _ => true) true n 3 ((cs.drop 1).take 1) = some (d1, q1) := by
      have h := hff 1 _ rfl
      first | exact h | (rw [Tryz.cells3] at h; exact h)
    obtain ⟨x1, k1⟩ := elem_int enc W _ _ _ _ h1 (fun x hx1 => hlt x (by rw [hx.2]; simp only [List.flatMap_cons, List.flatMap_nil, List.mem_append]; exact Or.inr (Or.inl hx1)))
    have h2 : DataW.trod enc Tryz.prog W 0 (fun _ => true) true n 3 ((cs.drop 2).take 1) = some (d2, q2) := by
      have h := hff 2 _ rfl
      first | exact h | (rw [Tryz.cells3] at h; exact h)
    obtain ⟨x2, k2⟩ := elem_int enc W _ _ _ _ h2 (fun x hx1 => hlt x (by rw [hx.2]; simp only [List.flatMap_cons, List.flatMap_nil, List.mem_append]; exact Or.inr (Or.inr (Or.inl hx1))))
    have h3 : DataW.trod enc Tryz.prog W 0 (fun _ => true) true n 3 ((cs.drop 3).take 1) = some (d3, q3) := by
      have h := hff 3 _ rfl
      first | exact h | (rw [Tryz.cells3] at h; exact h)
    obtain ⟨x3, k3⟩ := elem_int enc W _ _ _ _ h3 (fun x hx1 => hlt x (by rw [hx.2]; simp only [List.flatMap_cons, List.flatMap_nil, List.mem_append]; exact Or.inr (Or.inr (Or.inr (Or.inl hx1)))))
    have e : cs = (cs.drop 0).take 1 ++ ((cs.drop 1).take 1 ++ ((cs.drop 2).take 1 ++ ((cs.drop 3).take 1))) := by
      match cs, hl with
      | [z0, z1, z2, z3], _ => rfl
    have k := (k0.append (k1.append (k2.append k3)))
    rw [← e] at k
    exact ⟨_, k⟩
theorem Tryz.cells_Intent : Tryz.prog.cellsOf 97 = 5 := by kernel_rfl
set_option maxRecDepth 100000 in
theorem elem_Intent {H : Type} (enc : TypeId × Value → H) (W : World) : ElemK enc W 97 5 false := by
  intro fuel cs d p h hlt
  obtain ⟨xs, n, _, hx, hl, hxl, hff⟩ := DataW.trod_struct Tryz.underlying97 h
  rw [Tryz.cells_Intent] at hl
  simp only [Prod.mk.injEq] at hx
  match xs, hxl, hx, hff with
  | [(d0, q0), (d1, q1)], _, hx, hff =>
    have h0 : DataW.trod enc Tryz.prog W 0 (fun _ => true) true n 3 ((cs.drop 0).take 1) = some (d0, q0) := by
      have h := hff 0 _ rfl
      first | exact h | (rw [Tryz.cells3] at h; exact h)
    obtain ⟨x0, k0⟩ := elem_int enc W _ _ _ _ h0 (fun x hx1 => hlt x (by rw [hx.2]; simp only [List.flatMap_cons, List.flatMap_nil, List.mem_append]; exact Or.inl hx1))
    have h1 : DataW.trod enc Tryz.prog W 0 (fun _ => true) true n 95 ((cs.drop 1).take 4) = some (d1, q1) := by
      have h := hff 1 _ rfl
      first | exact h | (rw [Tryz.cells_Op] at h; exact h)
    obtain ⟨x1, k1⟩ := elem_Op enc W _ _ _ _ h1 (fun x hx1 => hlt x (by rw [hx.2]; simp only [List.flatMap_cons, List.flatMap_nil, List.mem_append]; exact Or.inr (Or.inl hx1)))
    have e : cs = (cs.drop 0).take 1 ++ ((cs.drop 1).take 4) := by
      match cs, hl with
      | [z0, z1, z2, z3, z4], _ => rfl
    have k := (k0.append k1)
    rw [← e] at k
    exact ⟨_, k⟩
theorem Tryz.cells_Seen : Tryz.prog.cellsOf 99 = 3 := by kernel_rfl
set_option maxRecDepth 100000 in
theorem elem_Seen {H : Type} (enc : TypeId × Value → H) (W : World) : ElemK enc W 99 3 false := by
  intro fuel cs d p h hlt
  obtain ⟨xs, n, _, hx, hl, hxl, hff⟩ := DataW.trod_struct Tryz.underlying99 h
  rw [Tryz.cells_Seen] at hl
  simp only [Prod.mk.injEq] at hx
  match xs, hxl, hx, hff with
  | [(d0, q0), (d1, q1), (d2, q2)], _, hx, hff =>
    have h0 : DataW.trod enc Tryz.prog W 0 (fun _ => true) true n 3 ((cs.drop 0).take 1) = some (d0, q0) := by
      have h := hff 0 _ rfl
      first | exact h | (rw [Tryz.cells3] at h; exact h)
    obtain ⟨x0, k0⟩ := elem_int enc W _ _ _ _ h0 (fun x hx1 => hlt x (by rw [hx.2]; simp only [List.flatMap_cons, List.flatMap_nil, List.mem_append]; exact Or.inl hx1))
    have h1 : DataW.trod enc Tryz.prog W 0 (fun _ => true) true n 3 ((cs.drop 1).take 1) = some (d1, q1) := by
      have h := hff 1 _ rfl
      first | exact h | (rw [Tryz.cells3] at h; exact h)
    obtain ⟨x1, k1⟩ := elem_int enc W _ _ _ _ h1 (fun x hx1 => hlt x (by rw [hx.2]; simp only [List.flatMap_cons, List.flatMap_nil, List.mem_append]; exact Or.inr (Or.inl hx1)))
    have h2 : DataW.trod enc Tryz.prog W 0 (fun _ => true) true n 3 ((cs.drop 2).take 1) = some (d2, q2) := by
      have h := hff 2 _ rfl
      first | exact h | (rw [Tryz.cells3] at h; exact h)
    obtain ⟨x2, k2⟩ := elem_int enc W _ _ _ _ h2 (fun x hx1 => hlt x (by rw [hx.2]; simp only [List.flatMap_cons, List.flatMap_nil, List.mem_append]; exact Or.inr (Or.inr (Or.inl hx1))))
    have e : cs = (cs.drop 0).take 1 ++ ((cs.drop 1).take 1 ++ ((cs.drop 2).take 1)) := by
      match cs, hl with
      | [z0, z1, z2], _ => rfl
    have k := (k0.append (k1.append k2))
    rw [← e] at k
    exact ⟨_, k⟩
theorem Tryz.cells_Commit : Tryz.prog.cellsOf 65 = 4 := by kernel_rfl
set_option maxRecDepth 100000 in
theorem elem_Commit {H : Type} (enc : TypeId × Value → H) (W : World) : ElemK enc W 65 3 true := by
  intro fuel cs d p h hlt
  obtain ⟨xs, n, _, hx, hl, hxl, hff⟩ := DataW.trod_struct Tryz.underlying65 h
  rw [Tryz.cells_Commit] at hl
  simp only [Prod.mk.injEq] at hx
  match xs, hxl, hx, hff with
  | [(d0, q0), (d1, q1), (d2, q2)], _, hx, hff =>
    have h0 : DataW.trod enc Tryz.prog W 0 (fun _ => true) true n 3 ((cs.drop 0).take 1) = some (d0, q0) := by
      have h := hff 0 _ rfl
      first | exact h | (rw [Tryz.cells3] at h; exact h)
    obtain ⟨x0, k0⟩ := elem_int enc W _ _ _ _ h0 (fun x hx1 => hlt x (by rw [hx.2]; simp only [List.flatMap_cons, List.flatMap_nil, List.mem_append]; exact Or.inl hx1))
    have h1 : DataW.trod enc Tryz.prog W 0 (fun _ => true) true n 3 ((cs.drop 1).take 1) = some (d1, q1) := by
      have h := hff 1 _ rfl
      first | exact h | (rw [Tryz.cells3] at h; exact h)
    obtain ⟨x1, k1⟩ := elem_int enc W _ _ _ _ h1 (fun x hx1 => hlt x (by rw [hx.2]; simp only [List.flatMap_cons, List.flatMap_nil, List.mem_append]; exact Or.inr (Or.inl hx1)))
    have h2 : DataW.trod enc Tryz.prog W 0 (fun _ => true) true n 60 ((cs.drop 2).take 2) = some (d2, q2) := by
      have h := hff 2 _ rfl
      first | exact h | (rw [Tryz.cells_Val] at h; exact h)
    obtain ⟨x2, k2⟩ := elem_Val enc W _ _ _ _ h2 (fun x hx1 => hlt x (by rw [hx.2]; simp only [List.flatMap_cons, List.flatMap_nil, List.mem_append]; exact Or.inr (Or.inr (Or.inl hx1))))
    have e : cs = (cs.drop 0).take 1 ++ ((cs.drop 1).take 1 ++ ((cs.drop 2).take 2)) := by
      match cs, hl with
      | [z0, z1, z2, z3], _ => rfl
    have k := (k0.append (k1.append k2))
    rw [← e] at k
    exact ⟨_, k⟩
theorem Tryz.cellsL_Row : Tryz.prog.cellsOf 22 = 1 := by kernel_rfl
theorem Tryz.cellsL_Done : Tryz.prog.cellsOf 23 = 1 := by kernel_rfl
theorem Tryz.cellsL_Intent : Tryz.prog.cellsOf 24 = 1 := by kernel_rfl
theorem Tryz.cellsL_Seen : Tryz.prog.cellsOf 25 = 1 := by kernel_rfl
theorem Tryz.cellsL_Commit : Tryz.prog.cellsOf 26 = 1 := by kernel_rfl
theorem Tryz.cells_Shard : Tryz.prog.cellsOf 28 = 8 := by kernel_rfl
set_option maxRecDepth 100000 in
theorem shard_of {H : Type} {enc : TypeId × Value → H} {W : World} {base : Nat} {v : Value} {d : DataW H} {p : List MemPlace} (hv : Value.okWide Tryz.prog W .any base 28 v)
    (h : DataW.Trod enc Tryz.prog W 0 (fun _ => true) true 28 v d p) (hlt : ∀ x ∈ p, x.block < W.heap.size) : ∃ (i0 i1 i2 : Int) (u0 u1 u2 u3 u4 : Value) (L0 L1 L2 L3 L4 : List KD), v = .agg #[.int .i64 i0, .int .i64 i1, .int .i64 i2, u0, u1, u2, u3, u4] ∧ RSShard W u0 u1 u2 u3 u4 L0 L1 L2 L3 L4 := by
  obtain ⟨cs, rfl, hsz⟩ := okWide_struct Tryz.underlying28 hv
  rw [Tryz.cells_Shard] at hsz
  obtain ⟨z0, z1, z2, z3, z4, z5, z6, z7, rfl⟩ : ∃ z0 z1 z2 z3 z4 z5 z6 z7, cs = #[z0, z1, z2, z3, z4, z5, z6, z7] := by
    obtain ⟨l⟩ := cs
    match l, hsz with
    | [z0, z1, z2, z3, z4, z5, z6, z7], _ => exact ⟨z0, z1, z2, z3, z4, z5, z6, z7, rfl⟩
  obtain ⟨fuel, hf⟩ := h
  obtain ⟨xs, n, _, hx, _, hxl, hff⟩ := DataW.trod_struct Tryz.underlying28 hf
  simp only [Prod.mk.injEq] at hx
  match xs, hxl, hx, hff with
  | [(d0, q0), (d1, q1), (d2, q2), (d3, q3), (d4, q4), (d5, q5), (d6, q6), (d7, q7)], _, hx, hff =>
    have h0 := hff 0 _ rfl
    simp [Value.cells, Tryz.cells3] at h0
    obtain ⟨i0, hz0, _⟩ := DataW.trod_int Tryz.underlying3 h0
    have hz0' : z0 = .int .i64 i0 := by simpa using hz0
    have h1 := hff 1 _ rfl
    simp [Value.cells, Tryz.cells3] at h1
    obtain ⟨i1, hz1, _⟩ := DataW.trod_int Tryz.underlying3 h1
    have hz1' : z1 = .int .i64 i1 := by simpa using hz1
    have h2 := hff 2 _ rfl
    simp [Value.cells, Tryz.cells3] at h2
    obtain ⟨i2, hz2, _⟩ := DataW.trod_int Tryz.underlying3 h2
    have hz2' : z2 = .int .i64 i2 := by simpa using hz2
    have h3 := hff 3 _ rfl
    simp [Value.cells, Tryz.cellsL_Row] at h3
    obtain ⟨L0, hL0⟩ := rdM_of_trod (sz := 3) (m := 2) (kn := true) Tryz.underlying22 Tryz.cells_Row (by decide) (elem_Row enc W) h3 (fun x hx1 => hlt x (by rw [hx.2]; simp only [List.flatMap_cons, List.flatMap_nil, List.mem_append]; exact Or.inr (Or.inr (Or.inr (Or.inl hx1)))))
    have h4 := hff 4 _ rfl
    simp [Value.cells, Tryz.cellsL_Done] at h4
    obtain ⟨L1, hL1⟩ := rdM_of_trod (sz := 6) (m := 6) (kn := false) Tryz.underlying23 Tryz.cells_Done (by decide) (elem_Done enc W) h4 (fun x hx1 => hlt x (by rw [hx.2]; simp only [List.flatMap_cons, List.flatMap_nil, List.mem_append]; exact Or.inr (Or.inr (Or.inr (Or.inr (Or.inl hx1))))))
    have h5 := hff 5 _ rfl
    simp [Value.cells, Tryz.cellsL_Intent] at h5
    obtain ⟨L2, hL2⟩ := rdM_of_trod (sz := 5) (m := 5) (kn := false) Tryz.underlying24 Tryz.cells_Intent (by decide) (elem_Intent enc W) h5 (fun x hx1 => hlt x (by rw [hx.2]; simp only [List.flatMap_cons, List.flatMap_nil, List.mem_append]; exact Or.inr (Or.inr (Or.inr (Or.inr (Or.inr (Or.inl hx1)))))))
    have h6 := hff 6 _ rfl
    simp [Value.cells, Tryz.cellsL_Seen] at h6
    obtain ⟨L3, hL3⟩ := rdM_of_trod (sz := 3) (m := 3) (kn := false) Tryz.underlying25 Tryz.cells_Seen (by decide) (elem_Seen enc W) h6 (fun x hx1 => hlt x (by rw [hx.2]; simp only [List.flatMap_cons, List.flatMap_nil, List.mem_append]; exact Or.inr (Or.inr (Or.inr (Or.inr (Or.inr (Or.inr (Or.inl hx1))))))))
    have h7 := hff 7 _ rfl
    simp [Value.cells, Tryz.cellsL_Commit] at h7
    obtain ⟨L4, hL4⟩ := rdM_of_trod (sz := 4) (m := 3) (kn := true) Tryz.underlying26 Tryz.cells_Commit (by decide) (elem_Commit enc W) h7 (fun x hx1 => hlt x (by rw [hx.2]; simp only [List.flatMap_cons, List.flatMap_nil, List.mem_append]; exact Or.inr (Or.inr (Or.inr (Or.inr (Or.inr (Or.inr (Or.inr (Or.inl hx1)))))))))
    exact ⟨i0, i1, i2, z3, z4, z5, z6, z7, L0, L1, L2, L3, L4, by rw [hz0', hz1', hz2'], ⟨hL0, hL1, hL2, hL3, hL4⟩⟩
end Go.Proofs.YtadjajappnhipaaGreat

/- Part: Proved here: FnExactShardOk returns true for every part (no condition); what it was handed reads as before. -/
namespace Go.Proofs.YtadjajappnhipaaGreat
open Go.ChangeShapes Go.WideShapes Go.ChangeAt Go.RowKit

set_option maxRecDepth 100000 in
theorem sOk_lifted (os : Os) (started : os.Started) (H : Type) (enc : TypeId × Value → H) :
    ReturnsInHanded {} Tryz.checked os 3 .any (Rows.fnExactShardOkSpec.pre6 enc Tryz.prog Tryz.f3 Rows.fnExactShardOkRow.domain false) (Rows.fnExactShardOkSpec.post enc Tryz.prog Tryz.f3 false true false false) := by
  refine returnsInHanded_of_change (C := Tryz.checked) Tryz.own started (by kernel_rfl) Tryz.func3
    (ChangeSpec.witness6 (enc := enc) (C := Tryz.checked) false ⟨#[], #[.agg #[.int .i64 0, .int .i64 0, .int .i64 0, .slice none 0 0, .slice none 0 0, .slice none 0 0, .slice none 0 0, .slice none 0 0]], []⟩ 8 (by kernel_rfl) (by kernel_rfl) (by kernel_rfl) (by kernel_rfl)) ?_
  intro W base args ds gs before hval0 hW _ _
  have hval : ∀ (j : Nat) t v, Tryz.f3.params[j]? = some t → args[j]? = some v → Value.okWide Tryz.prog W .any base t v := hval0
  have hW' := hW
  obtain ⟨p, q, hA0, hV, rfl, _, _⟩ := hW
  have hA : DataW.TrodAll enc Tryz.prog W 0 (fun _ => true) true Tryz.f3.params.toList args.toList ds p := hA0
  rw [Tryz.params3] at hA hval
  obtain ⟨v0, d0, rfl, rfl, h0⟩ := trodAll_one hA
  obtain ⟨rfl, rfl⟩ := trodVars_none hV
  clear hA0 hval0
  simp only [List.append_nil] at hW'
  have hlt0 : ∀ x ∈ p, x.block < W.heap.size := fun x hx => by have := hW'.lt x (by first | exact hx | (simp; first | exact hx | exact Or.inl hx | exact Or.inr hx | exact Or.inr (Or.inl hx))); exact this
  obtain ⟨i0_0, i0_1, i0_2, u0_0, u0_1, u0_2, u0_3, u0_4, l0_0, l0_1, l0_2, l0_3, l0_4, ev0, hl0⟩ := shard_of (hval 0 28 v0 rfl rfl) h0 hlt0
  have hargs0 : ∀ (W' : World), Below W.heap.size W W' → DataW.Trod enc Tryz.prog W' 0 (fun b => decide (b < W.heap.size)) true 28 v0 d0 p :=
    fun W' hn => Below.trod Tryz.laidOut (by kernel_rfl) (of_decide_eq_true (by kernel_rfl)) h0 hn hlt0
  subst ev0
  refine (lawSOk_any i0_0 i0_1 i0_2 u0_0 u0_1 u0_2 u0_3 u0_4 l0_0 l0_1 l0_2 l0_3 l0_4 W hl0).mono fun e W' ⟨he, hnx⟩ => ?_
  subst he
  exact ⟨_, rfl, _, _, _, [], p, [], hW', trodAll_mk1 (shut_bool Tryz.underlying4 _), trodAll_mk1 (hargs0 _ hnx), rfl, hnx.frame _, fun h => by cases h⟩

theorem sOk_holds : Rows.FnExactShardOkSaid :=
  OpenClaim.holds_of_wide 3 Tryz.f3 rfl rfl rfl rfl rfl rfl rfl ⟨rfl, rfl, rfl, rfl, rfl⟩ rfl rfl rfl rfl rfl (by kernel_rfl) Tryz.func3 (by kernel_rfl)
    (of_decide_eq_true (by kernel_rfl)) (by unfold Func.isWrapper; first | (rw [if_pos (by decide +kernel)]; kernel_rfl) | (rw [if_neg (by decide +kernel)]; exact ⟨rfl, rfl⟩))
    (fun os started H enc _ => sOk_lifted os started H enc)
#print axioms sOk_holds

end Go.Proofs.YtadjajappnhipaaGreat
