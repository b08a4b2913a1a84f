/- spec.l4Seen: contract. Written by a program (gsi.py). -/
import Derived.Test.YtefhpbcdjgllnaaGreatS4w
namespace Go.Proofs.YtefhpbcdjgllnaaGreat
open Go.RowKit
attribute [local go_sem ↓] Go.wp_at_zero Go.wp_at_succ

theorem l4Pair_any (a b c : Int) (w : World) (h : 0 ≤ a ∧ a < 8 ∧ 0 ≤ b ∧ b < 8) : Calls Tryz.prog 73 #[.agg #[.int .i64 a, .int .i64 b, .int .i64 c]] w fun e w' => e = .returned (.int .i64 (a * 8 + b)) ∧ Below w.heap.size w w' := by
  go_enter Tryz.func73, Tryz.ntmps73
  go_wp2
  go_ret
  exact ⟨by simp, by go_grown⟩
set_option maxRecDepth 100000 in
set_option maxHeartbeats 8000000 in
theorem specSeen_any (p f st : Int) (v0 v1 v2 v3 v4 : Value) (S : List KD) (w : World) (hL : RdM 3 3 false w v3 S) (_hp : 0 ≤ p) :
    Calls Tryz.prog 44 #[.agg #[.int .i64 p, .int .i64 f, .int .i64 st, v0, v1, v2, v3, v4]] w fun e w' => e = .returned (.bool (seenB p S)) ∧ Below w.heap.size w w' := by
  obtain ⟨lo, lc, rfl, hml, hcl⟩ := hL
  have HC := hid hcl
  clear hcl
  unfold maxLen at hml
  go_enter Tryz.func44, Tryz.ntmps44

  go_wp2_with fail
  generalize hW1 : (w.alloc (.cells #[.int .i64 p, .int .i64 f, .int .i64 st, v0, v1, v2, .slice lo S.length lc, v4] 43)) = w1
  have a0_1 : w1.cell? ⟨w.heap.size, 0, none⟩ = some (.int .i64 p) := by subst hW1; go_cell
  have a1_1 : w1.cell? ⟨w.heap.size, 1, none⟩ = some (.int .i64 f) := by subst hW1; go_cell
  have a2_1 : w1.cell? ⟨w.heap.size, 2, none⟩ = some (.int .i64 st) := by subst hW1; go_cell
  have a3_1 : w1.cell? ⟨w.heap.size, 3, none⟩ = some (v0) := by subst hW1; go_cell
  have a4_1 : w1.cell? ⟨w.heap.size, 4, none⟩ = some (v1) := by subst hW1; go_cell
  have a5_1 : w1.cell? ⟨w.heap.size, 5, none⟩ = some (v2) := by subst hW1; go_cell
  have a6_1 : w1.cell? ⟨w.heap.size, 6, none⟩ = some (.slice lo S.length lc) := by subst hW1; go_cell
  have a7_1 : w1.cell? ⟨w.heap.size, 7, none⟩ = some (v4) := by subst hW1; go_cell
  have al_1 : w.heap.size < w1.heap.size := by subst hW1; first | (simp; done) | (simp; omega)
  have c1 : Below w.heap.size w w1 := by subst hW1; go_grown
  have s1 : w1.heap.size = w.heap.size + 1 := by subst hW1; simp
  clear hW1
  have qa0_1 := cell_regrown a0_1
  have qa1_1 := cell_regrown a1_1
  have qa2_1 := cell_regrown a2_1
  have qa3_1 := cell_regrown a3_1
  have qa4_1 := cell_regrown a4_1
  have qa5_1 := cell_regrown a5_1
  have qa6_1 := cell_regrown a6_1
  have qa7_1 := cell_regrown a7_1
  clear qa0_1 qa1_1 qa2_1 qa3_1 qa4_1 qa5_1 qa6_1 qa7_1
  go_loopw [3] (fun i wr => ∃ k : Nat, k ≤ S.length ∧ i = .int .i64 k ∧ Hid (SeenTo p S k) ∧ Hid (Below w1.heap.size w1 wr)) (fun i _ => S.length - (intOf i).toNat)
  case atStart => exact ⟨0, Nat.zero_le _, rfl, hid (fun j hj => absurd hj (Nat.not_lt_zero j)), hid (Below.refl _ _)⟩
  case round =>
    obtain ⟨k, hk, rfl, hpre, hbel⟩ := hrel
    obtain ⟨w50, hw50⟩ : ∃ y, y = wr := ⟨_, rfl⟩
    subst hw50
    have b50 := hbel.out
    have d50 : Below w1.heap.size w1 w50 := (Below.trans (by go_grown) (b50.mono (by first | omega | (simp; done) | (simp; omega))))
    have c50 : Below w.heap.size w w50 := c1.trans (d50.mono c1.size)
    have a0_50 : w50.cell? ⟨w.heap.size, 0, none⟩ = some (.int .i64 p) := (by rw [b50.cell (by first | omega | (simp; done) | (simp; omega))]; go_cell)
    have a1_50 : w50.cell? ⟨w.heap.size, 1, none⟩ = some (.int .i64 f) := (by rw [b50.cell (by first | omega | (simp; done) | (simp; omega))]; go_cell)
    have a2_50 : w50.cell? ⟨w.heap.size, 2, none⟩ = some (.int .i64 st) := (by rw [b50.cell (by first | omega | (simp; done) | (simp; omega))]; go_cell)
    have a3_50 : w50.cell? ⟨w.heap.size, 3, none⟩ = some (v0) := (by rw [b50.cell (by first | omega | (simp; done) | (simp; omega))]; go_cell)
    have a4_50 : w50.cell? ⟨w.heap.size, 4, none⟩ = some (v1) := (by rw [b50.cell (by first | omega | (simp; done) | (simp; omega))]; go_cell)
    have a5_50 : w50.cell? ⟨w.heap.size, 5, none⟩ = some (v2) := (by rw [b50.cell (by first | omega | (simp; done) | (simp; omega))]; go_cell)
    have a6_50 : w50.cell? ⟨w.heap.size, 6, none⟩ = some (.slice lo S.length lc) := (by rw [b50.cell (by first | omega | (simp; done) | (simp; omega))]; go_cell)
    have a7_50 : w50.cell? ⟨w.heap.size, 7, none⟩ = some (v4) := (by rw [b50.cell (by first | omega | (simp; done) | (simp; omega))]; go_cell)
    have al_50 : w.heap.size < w50.heap.size := (by have := b50.size; first | omega | (revert this; simp; done) | (revert this; simp; omega))
    clear a0_1 a1_1 a2_1 a3_1 a4_1 a5_1 a6_1 a7_1 al_1
    clear b50 d50
    by_cases hlt : k < S.length
    · obtain ⟨b, o, rfl, hb, hcc⟩ := HC.out (by omega)
      have hki : (k : Int) < (S.length : Int) := by omega
      obtain ⟨d0, d1, d2, hx, e0, e1, e2⟩ := atK_3n ((hcc k hlt).later hb c50)
      have hcol : ∀ c, colK S k c = [d0, d1, d2].getD c 0 := fun c => by rw [colK, hx]
      have HNO : Hid (¬ SeenAt p S k → seenB p S = false) := hid (seenB_no hlt)
      have HMORE : Hid (SeenAt p S k → SeenTo p S (k + 1)) := hid (fun z => hpre.out.more z)
      have HPV := hid (fun q (hq : q + 1 = k) => (show ∃ g0 g1 g2, (colK S q 0 = g0 ∧ colK S q 1 = g1 ∧ colK S q 2 = g2) ∧ (w50.cell? ⟨b, o + q * 3, none⟩ = some (.int .i64 g0) ∧ w50.cell? ⟨b, o + q * 3 + 1, none⟩ = some (.int .i64 g1) ∧ w50.cell? ⟨b, o + q * 3 + 2, none⟩ = some (.int .i64 g2)) from by
        obtain ⟨t0, t1, t2, ht, z0, z1, z2⟩ := atK_3n ((hcc q (by omega)).later hb c50)
        exact ⟨t0, t1, t2, ⟨by rw [colK, ht]; rfl, by rw [colK, ht]; rfl, by rw [colK, ht]; rfl⟩, ⟨z0, z1, z2⟩⟩))
      have HAT : Hid (SeenAt p S k ↔ (0 ≤ d0 ∧ d0 < 8 ∧ 0 ≤ d1 ∧ d1 < 8 ∧ d1 % 2 = p ∧ 1 ≤ d2 ∧ (0 < k → pairK S (k - 1) < d0 * 8 + d1))) := hid (by
        unfold SeenAt pairK
        simp only [hcol]
        exact Iff.rfl)
      have HPB := hid (fun q (hq : q + 1 = k) => hpre.out q (by omega))
      have HLT := hid hlt
      have HB1 := hid hbel.out
      clear hx hcol hlt hpre hbel
      go_upto_region 5 with fail
      generalize hW51 : (w50.alloc (.cells #[.int .i64 d0, .int .i64 d1, .int .i64 d2] 105)) = w51
      have m0_51 : w51.cell? ⟨w50.heap.size, 0, none⟩ = some (.int .i64 d0) := by subst hW51; go_cell
      have m1_51 : w51.cell? ⟨w50.heap.size, 1, none⟩ = some (.int .i64 d1) := by subst hW51; go_cell
      have m2_51 : w51.cell? ⟨w50.heap.size, 2, none⟩ = some (.int .i64 d2) := by subst hW51; go_cell
      have ml_51 : w50.heap.size < w51.heap.size := by subst hW51; simp
      have d51 : Below w50.heap.size w50 w51 := by subst hW51; go_grown
      clear hW51
      have c51 : Below w.heap.size w w51 := c50.trans (d51.mono c50.size)
      have a0_51 : w51.cell? ⟨w.heap.size, 0, none⟩ = some (.int .i64 p) := (by rw [d51.cell (by first | omega | (simp; done) | (simp; omega))]; go_cell)
      have a1_51 : w51.cell? ⟨w.heap.size, 1, none⟩ = some (.int .i64 f) := (by rw [d51.cell (by first | omega | (simp; done) | (simp; omega))]; go_cell)
      have a2_51 : w51.cell? ⟨w.heap.size, 2, none⟩ = some (.int .i64 st) := (by rw [d51.cell (by first | omega | (simp; done) | (simp; omega))]; go_cell)
      have a3_51 : w51.cell? ⟨w.heap.size, 3, none⟩ = some (v0) := (by rw [d51.cell (by first | omega | (simp; done) | (simp; omega))]; go_cell)
      have a4_51 : w51.cell? ⟨w.heap.size, 4, none⟩ = some (v1) := (by rw [d51.cell (by first | omega | (simp; done) | (simp; omega))]; go_cell)
      have a5_51 : w51.cell? ⟨w.heap.size, 5, none⟩ = some (v2) := (by rw [d51.cell (by first | omega | (simp; done) | (simp; omega))]; go_cell)
      have a6_51 : w51.cell? ⟨w.heap.size, 6, none⟩ = some (.slice (some ⟨b, o, none⟩) S.length lc) := (by rw [d51.cell (by first | omega | (simp; done) | (simp; omega))]; go_cell)
      have a7_51 : w51.cell? ⟨w.heap.size, 7, none⟩ = some (v4) := (by rw [d51.cell (by first | omega | (simp; done) | (simp; omega))]; go_cell)
      have al_51 : w.heap.size < w51.heap.size := (by have := d51.size; omega)
      clear a0_50 a1_50 a2_50 a3_50 a4_50 a5_50 a6_50 a7_50 al_50
      have HD51 := hid d51
      clear e0 e1 e2
      have rd0 := cell_regrown m0_51
      have rd1 := cell_regrown m1_51
      have rd2 := cell_regrown m2_51
      have ra0 := cell_regrown a0_51
      have ra6 := cell_regrown a6_51
      by_cases h0 : d0 < 0
      case pos =>
        have g0 : decide (d0 < 0) = true := by simp; omega
        have hno := HNO.out (fun z => by have := (HAT.out.1 z).1; omega)
        refine wp_region_quiet_below (by kernel_rfl) (by kernel_rfl) ?_
        repeat (first | go_big_quiet_skip | (go_big_quiet_want; go_big_quiet_op; first | go_big_quiet_on | go_big_quiet_call (first | (fail))))
        refine wpQuiet_nil ?_
        rintro wq ⟨pq, hwq⟩
        have hq : Below w51.heap.size w51 wq := by rw [hwq]; exact below_regrown _ _ _
        clear hwq pq
        have cq := c51.trans (hq.mono c51.size)
        go_wp2
        go_ret
        exact ⟨by first | (simp; done) | simp [hno], cq⟩
      have g0 : decide (d0 < 0) = false := by simp; omega
      by_cases h1 : 8 ≤ d0
      case pos =>
        have g1 : decide (d0 ≥ 8) = true := by simp; omega
        have hno := HNO.out (fun z => by have := (HAT.out.1 z).2.1; omega)
        refine wp_region_quiet_below (by kernel_rfl) (by kernel_rfl) ?_
        repeat (first | go_big_quiet_skip | (go_big_quiet_want; go_big_quiet_op; first | go_big_quiet_on | go_big_quiet_call (first | (fail))))
        refine wpQuiet_nil ?_
        rintro wq ⟨pq, hwq⟩
        have hq : Below w51.heap.size w51 wq := by rw [hwq]; exact below_regrown _ _ _
        clear hwq pq
        have cq := c51.trans (hq.mono c51.size)
        go_wp2
        go_ret
        exact ⟨by first | (simp; done) | simp [hno], cq⟩
      have g1 : decide (d0 ≥ 8) = false := by simp; omega
      by_cases h2 : d1 < 0
      case pos =>
        have g2 : decide (d1 < 0) = true := by simp; omega
        have hno := HNO.out (fun z => by have := (HAT.out.1 z).2.2.1; omega)
        refine wp_region_quiet_below (by kernel_rfl) (by kernel_rfl) ?_
        repeat (first | go_big_quiet_skip | (go_big_quiet_want; go_big_quiet_op; first | go_big_quiet_on | go_big_quiet_call (first | (fail))))
        refine wpQuiet_nil ?_
        rintro wq ⟨pq, hwq⟩
        have hq : Below w51.heap.size w51 wq := by rw [hwq]; exact below_regrown _ _ _
        clear hwq pq
        have cq := c51.trans (hq.mono c51.size)
        go_wp2
        go_ret
        exact ⟨by first | (simp; done) | simp [hno], cq⟩
      have g2 : decide (d1 < 0) = false := by simp; omega
      by_cases h3 : 8 ≤ d1
      case pos =>
        have g3 : decide (d1 ≥ 8) = true := by simp; omega
        have hno := HNO.out (fun z => by have := (HAT.out.1 z).2.2.2.1; omega)
        refine wp_region_quiet_below (by kernel_rfl) (by kernel_rfl) ?_
        repeat (first | go_big_quiet_skip | (go_big_quiet_want; go_big_quiet_op; first | go_big_quiet_on | go_big_quiet_call (first | (fail))))
        refine wpQuiet_nil ?_
        rintro wq ⟨pq, hwq⟩
        have hq : Below w51.heap.size w51 wq := by rw [hwq]; exact below_regrown _ _ _
        clear hwq pq
        have cq := c51.trans (hq.mono c51.size)
        go_wp2
        go_ret
        exact ⟨by first | (simp; done) | simp [hno], cq⟩
      have g3 : decide (d1 ≥ 8) = false := by simp; omega
      have hrem : d1.tmod 2 = d1 % 2 := Int.tmod_eq_emod_of_nonneg (by omega)
      obtain ⟨md, hmd⟩ : ∃ z, d1 % 2 = z := ⟨_, rfl⟩
      rw [hmd] at hrem
      have HMD := hid hmd
      clear hmd
      by_cases h4 : md = p
      case neg =>
        have g4 : (md != p) = true := by simpa using h4
        have hno := HNO.out (fun z => h4 (HMD.out ▸ (HAT.out.1 z).2.2.2.2.1))
        have H4 := hid h4
        clear h4
        refine wp_region_quiet_below (by kernel_rfl) (by kernel_rfl) ?_
        repeat (first | go_big_quiet_skip | (go_big_quiet_want; go_big_quiet_op; first | go_big_quiet_on | go_big_quiet_call (first | (fail))))
        refine wpQuiet_nil ?_
        rintro wq ⟨pq, hwq⟩
        have hq : Below w51.heap.size w51 wq := by rw [hwq]; exact below_regrown _ _ _
        clear hwq pq
        have cq := c51.trans (hq.mono c51.size)
        go_wp2
        go_ret
        exact ⟨by first | (simp; done) | simp [hno], cq⟩
      have g4 : (md != p) = false := by simpa using h4
      have H4 := hid h4
      clear h4
      by_cases h5 : d2 < 1
      case pos =>
        have g5 : decide (d2 < 1) = true := by simp; omega
        have hno := HNO.out (fun z => by have := (HAT.out.1 z).2.2.2.2.2.1; omega)
        refine wp_region_quiet_below (by kernel_rfl) (by kernel_rfl) ?_
        repeat (first | go_big_quiet_skip | (go_big_quiet_want; go_big_quiet_op; first | go_big_quiet_on | go_big_quiet_call (first | (fail))))
        refine wpQuiet_nil ?_
        rintro wq ⟨pq, hwq⟩
        have hq : Below w51.heap.size w51 wq := by rw [hwq]; exact below_regrown _ _ _
        clear hwq pq
        have cq := c51.trans (hq.mono c51.size)
        go_wp2
        go_ret
        exact ⟨by first | (simp; done) | simp [hno], cq⟩
      have g5 : decide (d2 < 1) = false := by simp; omega
      by_cases h6 : 0 < k
      · have g6 : decide ((k : Int) > 0) = true := by simp; omega
        obtain ⟨q, hqk⟩ : ∃ q, q + 1 = k := ⟨k - 1, by omega⟩
        obtain ⟨x0, x1, x2, hcx, hpc⟩ := HPV.out q hqk
        have hpb := HPB.out q hqk
        unfold SeenAt at hpb
        rw [hcx.1, hcx.2.1] at hpb
        have HQP := hid (show 0 ≤ x0 ∧ x0 < 8 ∧ 0 ≤ x1 ∧ x1 < 8 from ⟨hpb.1, hpb.2.1, hpb.2.2.1, hpb.2.2.2.1⟩)
        have HQX := hid (show 0 ≤ d0 ∧ d0 < 8 ∧ 0 ≤ d1 ∧ d1 < 8 from ⟨by omega, by omega, by omega, by omega⟩)
        have HPQ : Hid (pairK S (k - 1) = x0 * 8 + x1) := hid (by rw [show k - 1 = q from by omega, pairK, hcx.1, hcx.2.1])
        have lift := fun (j : Nat) => HD51.out.cell (p := ⟨b, o + q * 3 + j, none⟩) (Nat.lt_of_lt_of_le hb c50.size)
        have rp0 := cell_regrown ((HD51.out.cell (p := ⟨b, o + q * 3, none⟩) (Nat.lt_of_lt_of_le hb c50.size)).trans hpc.1)
        have rp1 := cell_regrown ((lift 1).trans hpc.2.1)
        have rp2 := cell_regrown ((lift 2).trans hpc.2.2)
        have hq1 : (k : Int) - 1 = (q : Int) := by omega
        have hqi : (q : Int) < (S.length : Int) := by omega
        clear hpc hqk hcx hpb lift
        by_cases h7 : d0 * 8 + d1 ≤ x0 * 8 + x1
        case pos =>
          have g7 : decide (d0 * 8 + d1 ≤ x0 * 8 + x1) = true := by simp; omega
          have hno := HNO.out (fun z => by have := (HAT.out.1 z).2.2.2.2.2.2 h6; have := HPQ.out; omega)
          refine wp_region_quiet_below (by kernel_rfl) (by kernel_rfl) ?_
          repeat (first | go_big_quiet_skip | (go_big_quiet_want; go_big_quiet_op; first | go_big_quiet_on | go_big_quiet_call (first | (go_at_call 73; first | exact Calls.regrown_of (l4Pair_any _ _ _ _ HQX.out) | exact Calls.regrown_of (l4Pair_any _ _ _ _ HQP.out)))))
          refine wpQuiet_nil ?_
          rintro wq ⟨pq, hwq⟩
          have hq : Below w51.heap.size w51 wq := by rw [hwq]; exact below_regrown _ _ _
          clear hwq pq
          have cq := c51.trans (hq.mono c51.size)
          go_wp2
          go_ret
          exact ⟨by first | (simp; done) | simp [hno], cq⟩
        have g7 : decide (d0 * 8 + d1 ≤ x0 * 8 + x1) = false := by simp; omega
        have HM := hid (HMORE.out (HAT.out.2 ⟨by omega, by omega, by omega, by omega, HMD.out.trans H4.out, by omega, fun _ => by have := HPQ.out; omega⟩))
        refine wp_region_quiet_below (by kernel_rfl) (by kernel_rfl) ?_
        repeat (first | go_big_quiet_skip | (go_big_quiet_want; go_big_quiet_op; first | go_big_quiet_on | go_big_quiet_call (first | (go_at_call 73; first | exact Calls.regrown_of (l4Pair_any _ _ _ _ HQX.out) | exact Calls.regrown_of (l4Pair_any _ _ _ _ HQP.out)))))
        refine wpQuiet_nil ?_
        rintro wq ⟨pq, hwq⟩
        have hq : Below w51.heap.size w51 wq := by rw [hwq]; exact below_regrown _ _ _
        clear hwq pq
        have HQ := hid (HB1.out.trans ((HD51.out.trans (hq.mono HD51.out.size)).mono HB1.out.size))
        go_wp2_with fail
        go_roundw
        case rel => exact ⟨k + 1, by have := HLT.out; omega, by go_num, HM, HQ⟩
        case measure =>
          have := HLT.out
          simp [intOf]
          omega
      · have g6 : decide ((k : Int) > 0) = false := by simp; omega
        have HM := hid (HMORE.out (HAT.out.2 ⟨by omega, by omega, by omega, by omega, HMD.out.trans H4.out, by omega, fun z => absurd z h6⟩))
        refine wp_region_quiet_below (by kernel_rfl) (by kernel_rfl) ?_
        repeat (first | go_big_quiet_skip | (go_big_quiet_want; go_big_quiet_op; first | go_big_quiet_on | go_big_quiet_call (first | (fail))))
        refine wpQuiet_nil ?_
        rintro wq ⟨pq, hwq⟩
        have hq : Below w51.heap.size w51 wq := by rw [hwq]; exact below_regrown _ _ _
        clear hwq pq
        have HQ := hid (HB1.out.trans ((HD51.out.trans (hq.mono HD51.out.size)).mono HB1.out.size))
        go_wp2_with fail
        go_roundw
        case rel => exact ⟨k + 1, by have := HLT.out; omega, by go_num, HM, HQ⟩
        case measure =>
          have := HLT.out
          simp [intOf]
          omega
    · obtain rfl : k = S.length := by omega
      have hki : ¬ ((S.length : Int) < (S.length : Int)) := by omega
      have hyes : seenB p S = true := decide_eq_true hpre.out
      go_wp2
      go_ret
      exact ⟨by first | (simp; done) | simp [hyes], c50⟩
end Go.Proofs.YtefhpbcdjgllnaaGreat
