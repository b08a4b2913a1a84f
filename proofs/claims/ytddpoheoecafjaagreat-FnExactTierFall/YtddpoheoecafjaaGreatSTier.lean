/- The law's own helpers of a tier: contracts. Written by a program (gti.py). -/
import Derived.Test.YtddpoheoecafjaaGreatGrA
import Derived.Test.YtddpoheoecafjaaGreatKIntent
import Derived.BigQuiet
namespace Go.Proofs.YtddpoheoecafjaaGreat
open Go.RowKit
attribute [local go_sem ↓] Go.wp_at_zero Go.wp_at_succ

set_option maxRecDepth 100000 in
set_option maxHeartbeats 1000000 in
theorem eqBoolA2_same (a b : Bool) (w : World) :
    Calls Tryz.prog 41 #[.agg #[.bool a, .bool b], .agg #[.bool a, .bool b]] w fun e w' => e = .returned (.bool true) ∧ Below w.heap.size w w' := by
  go_enter Tryz.func41, Tryz.ntmps41
  go_wp2_with fail
  generalize hW1 : ((w.alloc (.cells #[.bool a, .bool b] 22)).alloc (.cells #[.bool a, .bool b] 22)) = w1
  have a0_1 : w1.cell? ⟨w.heap.size, 0, none⟩ = some (.bool a) := by subst hW1; go_cell
  have a1_1 : w1.cell? ⟨w.heap.size, 1, none⟩ = some (.bool b) := by subst hW1; go_cell
  have al_1 : w.heap.size < w1.heap.size := by subst hW1; first | (simp; done) | (simp; omega)
  have b0_1 : w1.cell? ⟨w.heap.size + 1, 0, none⟩ = some (.bool a) := by subst hW1; go_cell
  have b1_1 : w1.cell? ⟨w.heap.size + 1, 1, none⟩ = some (.bool b) := by subst hW1; go_cell
  have bl_1 : w.heap.size + 1 < w1.heap.size := by subst hW1; first | (simp; done) | (simp; omega)
  have c1 : Below w.heap.size w w1 := by subst hW1; go_grown
  have s1 : w1.heap.size = w.heap.size + 2 := by subst hW1; simp
  clear hW1
  have qa0_1 := cell_regrown a0_1
  have qa1_1 := cell_regrown a1_1
  have qb0_1 := cell_regrown b0_1
  have qb1_1 := cell_regrown b1_1
  go_loopw [5] (fun i wr => ∃ k : Nat, k ≤ 2 ∧ i = .int .i64 k ∧ Below w1.heap.size w1 wr) (fun i _ => 2 - (intOf i).toNat)
  case atStart => exact ⟨0, Nat.zero_le _, rfl, Below.refl _ _⟩
  case round =>
    obtain ⟨k, hk, rfl, hbel⟩ := hrel
    have a0_2 := (hbel.cell (p := ⟨w.heap.size, 0, none⟩) al_1).trans a0_1
    have a1_2 := (hbel.cell (p := ⟨w.heap.size, 1, none⟩) al_1).trans a1_1
    have b0_2 := (hbel.cell (p := ⟨w.heap.size + 1, 0, none⟩) bl_1).trans b0_1
    have b1_2 := (hbel.cell (p := ⟨w.heap.size + 1, 1, none⟩) bl_1).trans b1_1
    have hsz := hbel.size
    have r0 := cell_regrown a0_2
    have r1 := cell_regrown a1_2
    have r2 := cell_regrown b0_2
    have r3 := cell_regrown b1_2
    obtain rfl | rfl | rfl : k = 0 ∨ k = 1 ∨ k = 2 := by omega
    · go_wp2_with fail
      refine wp_region_quiet_below (by kernel_rfl) (by kernel_rfl) ?_
      repeat (first | go_big_quiet_skip | (go_big_quiet_want; go_big_quiet_op; first | go_big_quiet_on | go_big_quiet_call (first | (fail))))
      refine wpQuiet_nil ?_
      rintro wq ⟨pq, hwq⟩
      have hq : Below wr.heap.size wr wq := by rw [hwq]; exact below_regrown _ _ _
      clear hwq pq
      go_wp2
      go_roundw
      case rel => exact ⟨1, by omega, by go_num, hbel.trans (hq.mono hsz)⟩
      case measure => simp [intOf]
    · go_wp2_with fail
      refine wp_region_quiet_below (by kernel_rfl) (by kernel_rfl) ?_
      repeat (first | go_big_quiet_skip | (go_big_quiet_want; go_big_quiet_op; first | go_big_quiet_on | go_big_quiet_call (first | (fail))))
      refine wpQuiet_nil ?_
      rintro wq ⟨pq, hwq⟩
      have hq : Below wr.heap.size wr wq := by rw [hwq]; exact below_regrown _ _ _
      clear hwq pq
      go_wp2
      go_roundw
      case rel => exact ⟨2, by omega, by go_num, hbel.trans (hq.mono hsz)⟩
      case measure => simp [intOf]
    · go_wp2
      go_ret
      exact ⟨by simp, c1.trans (hbel.mono c1.size)⟩
set_option maxRecDepth 100000 in
set_option maxHeartbeats 4000000 in
theorem eqTier_rd (i0 i1 i2 : Int) (q0 q1 q2 q3 : Bool) (i3 i4 i5 i6 i7 : Int) (va0 va1 vb0 vb1 : Value) (L0 L1 : List KD) (w : World) (ha : RSCache w va0 va1 L0 L1) (hb : RSCache w vb0 vb1 L0 L1) :
    Calls Tryz.prog 12 #[.agg #[.int .i64 i0, .int .i64 i1, .int .i64 i2, .bool q0, .bool q1, .bool q2, .bool q3, .int .i64 i3, .int .i64 i4, .int .i64 i5, .int .i64 i6, .int .i64 i7, va0, va1], .agg #[.int .i64 i0, .int .i64 i1, .int .i64 i2, .bool q0, .bool q1, .bool q2, .bool q3, .int .i64 i3, .int .i64 i4, .int .i64 i5, .int .i64 i6, .int .i64 i7, vb0, vb1]] w fun e w' => e = .returned (.bool true) ∧ Below w.heap.size w w' := by
  have HA := hid ha
  have HB := hid hb
  obtain ⟨ao0, ao1, ac0, ac1, rfl, rfl⟩ := ha.open
  obtain ⟨bo0, bo1, bc0, bc1, rfl, rfl⟩ := hb.open
  clear ha hb
  go_enter Tryz.func12, Tryz.ntmps12
  go_wp2_with fail
  generalize hW1 : ((w.alloc (.cells #[.int .i64 i0, .int .i64 i1, .int .i64 i2, .bool q0, .bool q1, .bool q2, .bool q3, .int .i64 i3, .int .i64 i4, .int .i64 i5, .int .i64 i6, .int .i64 i7, .slice ao0 L0.length ac0, .slice ao1 L1.length ac1] 38)).alloc (.cells #[.int .i64 i0, .int .i64 i1, .int .i64 i2, .bool q0, .bool q1, .bool q2, .bool q3, .int .i64 i3, .int .i64 i4, .int .i64 i5, .int .i64 i6, .int .i64 i7, .slice bo0 L0.length bc0, .slice bo1 L1.length bc1] 38)) = w1
  have a0_1 : w1.cell? ⟨w.heap.size, 0, none⟩ = some (.int .i64 i0) := by subst hW1; go_cell
  have a1_1 : w1.cell? ⟨w.heap.size, 1, none⟩ = some (.int .i64 i1) := by subst hW1; go_cell
  have a2_1 : w1.cell? ⟨w.heap.size, 2, none⟩ = some (.int .i64 i2) := by subst hW1; go_cell
  have a3_1 : w1.cell? ⟨w.heap.size, 3, none⟩ = some (.bool q0) := by subst hW1; go_cell
  have a4_1 : w1.cell? ⟨w.heap.size, 4, none⟩ = some (.bool q1) := by subst hW1; go_cell
  have a5_1 : w1.cell? ⟨w.heap.size, 5, none⟩ = some (.bool q2) := by subst hW1; go_cell
  have a6_1 : w1.cell? ⟨w.heap.size, 6, none⟩ = some (.bool q3) := by subst hW1; go_cell
  have a7_1 : w1.cell? ⟨w.heap.size, 7, none⟩ = some (.int .i64 i3) := by subst hW1; go_cell
  have a8_1 : w1.cell? ⟨w.heap.size, 8, none⟩ = some (.int .i64 i4) := by subst hW1; go_cell
  have a9_1 : w1.cell? ⟨w.heap.size, 9, none⟩ = some (.int .i64 i5) := by subst hW1; go_cell
  have a10_1 : w1.cell? ⟨w.heap.size, 10, none⟩ = some (.int .i64 i6) := by subst hW1; go_cell
  have a11_1 : w1.cell? ⟨w.heap.size, 11, none⟩ = some (.int .i64 i7) := by subst hW1; go_cell
  have a12_1 : w1.cell? ⟨w.heap.size, 12, none⟩ = some (.slice ao0 L0.length ac0) := by subst hW1; go_cell
  have a13_1 : w1.cell? ⟨w.heap.size, 13, none⟩ = some (.slice ao1 L1.length ac1) := by subst hW1; go_cell
  have al_1 : w.heap.size < w1.heap.size := by subst hW1; first | (simp; done) | (simp; omega)
  have b0_1 : w1.cell? ⟨w.heap.size + 1, 0, none⟩ = some (.int .i64 i0) := by subst hW1; go_cell
  have b1_1 : w1.cell? ⟨w.heap.size + 1, 1, none⟩ = some (.int .i64 i1) := by subst hW1; go_cell
  have b2_1 : w1.cell? ⟨w.heap.size + 1, 2, none⟩ = some (.int .i64 i2) := by subst hW1; go_cell
  have b3_1 : w1.cell? ⟨w.heap.size + 1, 3, none⟩ = some (.bool q0) := by subst hW1; go_cell
  have b4_1 : w1.cell? ⟨w.heap.size + 1, 4, none⟩ = some (.bool q1) := by subst hW1; go_cell
  have b5_1 : w1.cell? ⟨w.heap.size + 1, 5, none⟩ = some (.bool q2) := by subst hW1; go_cell
  have b6_1 : w1.cell? ⟨w.heap.size + 1, 6, none⟩ = some (.bool q3) := by subst hW1; go_cell
  have b7_1 : w1.cell? ⟨w.heap.size + 1, 7, none⟩ = some (.int .i64 i3) := by subst hW1; go_cell
  have b8_1 : w1.cell? ⟨w.heap.size + 1, 8, none⟩ = some (.int .i64 i4) := by subst hW1; go_cell
  have b9_1 : w1.cell? ⟨w.heap.size + 1, 9, none⟩ = some (.int .i64 i5) := by subst hW1; go_cell
  have b10_1 : w1.cell? ⟨w.heap.size + 1, 10, none⟩ = some (.int .i64 i6) := by subst hW1; go_cell
  have b11_1 : w1.cell? ⟨w.heap.size + 1, 11, none⟩ = some (.int .i64 i7) := by subst hW1; go_cell
  have b12_1 : w1.cell? ⟨w.heap.size + 1, 12, none⟩ = some (.slice bo0 L0.length bc0) := by subst hW1; go_cell
  have b13_1 : w1.cell? ⟨w.heap.size + 1, 13, none⟩ = some (.slice bo1 L1.length bc1) := by subst hW1; go_cell
  have bl_1 : w.heap.size + 1 < w1.heap.size := by subst hW1; first | (simp; done) | (simp; omega)
  have c1 : Below w.heap.size w w1 := by subst hW1; go_grown
  have s1 : w1.heap.size = w.heap.size + 2 := by subst hW1; simp
  clear hW1
  have qa0_1 := cell_regrown a0_1
  have qa1_1 := cell_regrown a1_1
  have qa2_1 := cell_regrown a2_1
  have qa3_1 := cell_regrown a3_1
  have qa4_1 := cell_regrown a4_1
  have qa5_1 := cell_regrown a5_1
  have qa6_1 := cell_regrown a6_1
  have qa7_1 := cell_regrown a7_1
  have qa8_1 := cell_regrown a8_1
  have qa9_1 := cell_regrown a9_1
  have qa10_1 := cell_regrown a10_1
  have qa11_1 := cell_regrown a11_1
  have qa12_1 := cell_regrown a12_1
  have qa13_1 := cell_regrown a13_1
  have qb0_1 := cell_regrown b0_1
  have qb1_1 := cell_regrown b1_1
  have qb2_1 := cell_regrown b2_1
  have qb3_1 := cell_regrown b3_1
  have qb4_1 := cell_regrown b4_1
  have qb5_1 := cell_regrown b5_1
  have qb6_1 := cell_regrown b6_1
  have qb7_1 := cell_regrown b7_1
  have qb8_1 := cell_regrown b8_1
  have qb9_1 := cell_regrown b9_1
  have qb10_1 := cell_regrown b10_1
  have qb11_1 := cell_regrown b11_1
  have qb12_1 := cell_regrown b12_1
  have qb13_1 := cell_regrown b13_1
  refine (eqBoolA2_same q0 q1 _).mono ?_
  rintro e w2 ⟨rfl, b2⟩
  have d2 : Below w1.heap.size w1 w2 := (Below.trans (by go_grown) (b2.mono (by first | omega | (simp; done) | (simp; omega))))
  have c2 : Below w.heap.size w w2 := c1.trans (d2.mono c1.size)
  have a0_2 : w2.cell? ⟨w.heap.size, 0, none⟩ = some (.int .i64 i0) := (by rw [b2.cell (by first | omega | (simp; done) | (simp; omega))]; go_cell)
  have a1_2 : w2.cell? ⟨w.heap.size, 1, none⟩ = some (.int .i64 i1) := (by rw [b2.cell (by first | omega | (simp; done) | (simp; omega))]; go_cell)
  have a2_2 : w2.cell? ⟨w.heap.size, 2, none⟩ = some (.int .i64 i2) := (by rw [b2.cell (by first | omega | (simp; done) | (simp; omega))]; go_cell)
  have a3_2 : w2.cell? ⟨w.heap.size, 3, none⟩ = some (.bool q0) := (by rw [b2.cell (by first | omega | (simp; done) | (simp; omega))]; go_cell)
  have a4_2 : w2.cell? ⟨w.heap.size, 4, none⟩ = some (.bool q1) := (by rw [b2.cell (by first | omega | (simp; done) | (simp; omega))]; go_cell)
  have a5_2 : w2.cell? ⟨w.heap.size, 5, none⟩ = some (.bool q2) := (by rw [b2.cell (by first | omega | (simp; done) | (simp; omega))]; go_cell)
  have a6_2 : w2.cell? ⟨w.heap.size, 6, none⟩ = some (.bool q3) := (by rw [b2.cell (by first | omega | (simp; done) | (simp; omega))]; go_cell)
  have a7_2 : w2.cell? ⟨w.heap.size, 7, none⟩ = some (.int .i64 i3) := (by rw [b2.cell (by first | omega | (simp; done) | (simp; omega))]; go_cell)
  have a8_2 : w2.cell? ⟨w.heap.size, 8, none⟩ = some (.int .i64 i4) := (by rw [b2.cell (by first | omega | (simp; done) | (simp; omega))]; go_cell)
  have a9_2 : w2.cell? ⟨w.heap.size, 9, none⟩ = some (.int .i64 i5) := (by rw [b2.cell (by first | omega | (simp; done) | (simp; omega))]; go_cell)
  have a10_2 : w2.cell? ⟨w.heap.size, 10, none⟩ = some (.int .i64 i6) := (by rw [b2.cell (by first | omega | (simp; done) | (simp; omega))]; go_cell)
  have a11_2 : w2.cell? ⟨w.heap.size, 11, none⟩ = some (.int .i64 i7) := (by rw [b2.cell (by first | omega | (simp; done) | (simp; omega))]; go_cell)
  have a12_2 : w2.cell? ⟨w.heap.size, 12, none⟩ = some (.slice ao0 L0.length ac0) := (by rw [b2.cell (by first | omega | (simp; done) | (simp; omega))]; go_cell)
  have a13_2 : w2.cell? ⟨w.heap.size, 13, none⟩ = some (.slice ao1 L1.length ac1) := (by rw [b2.cell (by first | omega | (simp; done) | (simp; omega))]; go_cell)
  have al_2 : w.heap.size < w2.heap.size := (by have := b2.size; first | omega | (revert this; simp; done) | (revert this; simp; omega))
  have b0_2 : w2.cell? ⟨w.heap.size + 1, 0, none⟩ = some (.int .i64 i0) := (by rw [b2.cell (by first | omega | (simp; done) | (simp; omega))]; go_cell)
  have b1_2 : w2.cell? ⟨w.heap.size + 1, 1, none⟩ = some (.int .i64 i1) := (by rw [b2.cell (by first | omega | (simp; done) | (simp; omega))]; go_cell)
  have b2_2 : w2.cell? ⟨w.heap.size + 1, 2, none⟩ = some (.int .i64 i2) := (by rw [b2.cell (by first | omega | (simp; done) | (simp; omega))]; go_cell)
  have b3_2 : w2.cell? ⟨w.heap.size + 1, 3, none⟩ = some (.bool q0) := (by rw [b2.cell (by first | omega | (simp; done) | (simp; omega))]; go_cell)
  have b4_2 : w2.cell? ⟨w.heap.size + 1, 4, none⟩ = some (.bool q1) := (by rw [b2.cell (by first | omega | (simp; done) | (simp; omega))]; go_cell)
  have b5_2 : w2.cell? ⟨w.heap.size + 1, 5, none⟩ = some (.bool q2) := (by rw [b2.cell (by first | omega | (simp; done) | (simp; omega))]; go_cell)
  have b6_2 : w2.cell? ⟨w.heap.size + 1, 6, none⟩ = some (.bool q3) := (by rw [b2.cell (by first | omega | (simp; done) | (simp; omega))]; go_cell)
  have b7_2 : w2.cell? ⟨w.heap.size + 1, 7, none⟩ = some (.int .i64 i3) := (by rw [b2.cell (by first | omega | (simp; done) | (simp; omega))]; go_cell)
  have b8_2 : w2.cell? ⟨w.heap.size + 1, 8, none⟩ = some (.int .i64 i4) := (by rw [b2.cell (by first | omega | (simp; done) | (simp; omega))]; go_cell)
  have b9_2 : w2.cell? ⟨w.heap.size + 1, 9, none⟩ = some (.int .i64 i5) := (by rw [b2.cell (by first | omega | (simp; done) | (simp; omega))]; go_cell)
  have b10_2 : w2.cell? ⟨w.heap.size + 1, 10, none⟩ = some (.int .i64 i6) := (by rw [b2.cell (by first | omega | (simp; done) | (simp; omega))]; go_cell)
  have b11_2 : w2.cell? ⟨w.heap.size + 1, 11, none⟩ = some (.int .i64 i7) := (by rw [b2.cell (by first | omega | (simp; done) | (simp; omega))]; go_cell)
  have b12_2 : w2.cell? ⟨w.heap.size + 1, 12, none⟩ = some (.slice bo0 L0.length bc0) := (by rw [b2.cell (by first | omega | (simp; done) | (simp; omega))]; go_cell)
  have b13_2 : w2.cell? ⟨w.heap.size + 1, 13, none⟩ = some (.slice bo1 L1.length bc1) := (by rw [b2.cell (by first | omega | (simp; done) | (simp; omega))]; go_cell)
  have bl_2 : w.heap.size + 1 < w2.heap.size := (by have := b2.size; first | omega | (revert this; simp; done) | (revert this; simp; omega))
  clear a0_1 a1_1 a2_1 a3_1 a4_1 a5_1 a6_1 a7_1 a8_1 a9_1 a10_1 a11_1 a12_1 a13_1 al_1 b0_1 b1_1 b2_1 b3_1 b4_1 b5_1 b6_1 b7_1 b8_1 b9_1 b10_1 b11_1 b12_1 b13_1 bl_1
  clear b2 d2
  go_wp2_with fail
  refine (eqOp_all i4 i5 i6 i7 i4 i5 i6 i7 _).mono ?_
  rintro e w3 ⟨rfl, b3⟩
  rw [(by simp : (decide (i4 = i4) && decide (i5 = i5) && decide (i6 = i6) && decide (i7 = i7)) = true)]
  have d3 : Below w2.heap.size w2 w3 := (Below.trans (by go_grown) (b3.mono (by first | omega | (simp; done) | (simp; omega))))
  have c3 : Below w.heap.size w w3 := c2.trans (d3.mono c2.size)
  have a0_3 : w3.cell? ⟨w.heap.size, 0, none⟩ = some (.int .i64 i0) := (by rw [b3.cell (by first | omega | (simp; done) | (simp; omega))]; go_cell)
  have a1_3 : w3.cell? ⟨w.heap.size, 1, none⟩ = some (.int .i64 i1) := (by rw [b3.cell (by first | omega | (simp; done) | (simp; omega))]; go_cell)
  have a2_3 : w3.cell? ⟨w.heap.size, 2, none⟩ = some (.int .i64 i2) := (by rw [b3.cell (by first | omega | (simp; done) | (simp; omega))]; go_cell)
  have a3_3 : w3.cell? ⟨w.heap.size, 3, none⟩ = some (.bool q0) := (by rw [b3.cell (by first | omega | (simp; done) | (simp; omega))]; go_cell)
  have a4_3 : w3.cell? ⟨w.heap.size, 4, none⟩ = some (.bool q1) := (by rw [b3.cell (by first | omega | (simp; done) | (simp; omega))]; go_cell)
  have a5_3 : w3.cell? ⟨w.heap.size, 5, none⟩ = some (.bool q2) := (by rw [b3.cell (by first | omega | (simp; done) | (simp; omega))]; go_cell)
  have a6_3 : w3.cell? ⟨w.heap.size, 6, none⟩ = some (.bool q3) := (by rw [b3.cell (by first | omega | (simp; done) | (simp; omega))]; go_cell)
  have a7_3 : w3.cell? ⟨w.heap.size, 7, none⟩ = some (.int .i64 i3) := (by rw [b3.cell (by first | omega | (simp; done) | (simp; omega))]; go_cell)
  have a8_3 : w3.cell? ⟨w.heap.size, 8, none⟩ = some (.int .i64 i4) := (by rw [b3.cell (by first | omega | (simp; done) | (simp; omega))]; go_cell)
  have a9_3 : w3.cell? ⟨w.heap.size, 9, none⟩ = some (.int .i64 i5) := (by rw [b3.cell (by first | omega | (simp; done) | (simp; omega))]; go_cell)
  have a10_3 : w3.cell? ⟨w.heap.size, 10, none⟩ = some (.int .i64 i6) := (by rw [b3.cell (by first | omega | (simp; done) | (simp; omega))]; go_cell)
  have a11_3 : w3.cell? ⟨w.heap.size, 11, none⟩ = some (.int .i64 i7) := (by rw [b3.cell (by first | omega | (simp; done) | (simp; omega))]; go_cell)
  have a12_3 : w3.cell? ⟨w.heap.size, 12, none⟩ = some (.slice ao0 L0.length ac0) := (by rw [b3.cell (by first | omega | (simp; done) | (simp; omega))]; go_cell)
  have a13_3 : w3.cell? ⟨w.heap.size, 13, none⟩ = some (.slice ao1 L1.length ac1) := (by rw [b3.cell (by first | omega | (simp; done) | (simp; omega))]; go_cell)
  have al_3 : w.heap.size < w3.heap.size := (by have := b3.size; first | omega | (revert this; simp; done) | (revert this; simp; omega))
  have b0_3 : w3.cell? ⟨w.heap.size + 1, 0, none⟩ = some (.int .i64 i0) := (by rw [b3.cell (by first | omega | (simp; done) | (simp; omega))]; go_cell)
  have b1_3 : w3.cell? ⟨w.heap.size + 1, 1, none⟩ = some (.int .i64 i1) := (by rw [b3.cell (by first | omega | (simp; done) | (simp; omega))]; go_cell)
  have b2_3 : w3.cell? ⟨w.heap.size + 1, 2, none⟩ = some (.int .i64 i2) := (by rw [b3.cell (by first | omega | (simp; done) | (simp; omega))]; go_cell)
  have b3_3 : w3.cell? ⟨w.heap.size + 1, 3, none⟩ = some (.bool q0) := (by rw [b3.cell (by first | omega | (simp; done) | (simp; omega))]; go_cell)
  have b4_3 : w3.cell? ⟨w.heap.size + 1, 4, none⟩ = some (.bool q1) := (by rw [b3.cell (by first | omega | (simp; done) | (simp; omega))]; go_cell)
  have b5_3 : w3.cell? ⟨w.heap.size + 1, 5, none⟩ = some (.bool q2) := (by rw [b3.cell (by first | omega | (simp; done) | (simp; omega))]; go_cell)
  have b6_3 : w3.cell? ⟨w.heap.size + 1, 6, none⟩ = some (.bool q3) := (by rw [b3.cell (by first | omega | (simp; done) | (simp; omega))]; go_cell)
  have b7_3 : w3.cell? ⟨w.heap.size + 1, 7, none⟩ = some (.int .i64 i3) := (by rw [b3.cell (by first | omega | (simp; done) | (simp; omega))]; go_cell)
  have b8_3 : w3.cell? ⟨w.heap.size + 1, 8, none⟩ = some (.int .i64 i4) := (by rw [b3.cell (by first | omega | (simp; done) | (simp; omega))]; go_cell)
  have b9_3 : w3.cell? ⟨w.heap.size + 1, 9, none⟩ = some (.int .i64 i5) := (by rw [b3.cell (by first | omega | (simp; done) | (simp; omega))]; go_cell)
  have b10_3 : w3.cell? ⟨w.heap.size + 1, 10, none⟩ = some (.int .i64 i6) := (by rw [b3.cell (by first | omega | (simp; done) | (simp; omega))]; go_cell)
  have b11_3 : w3.cell? ⟨w.heap.size + 1, 11, none⟩ = some (.int .i64 i7) := (by rw [b3.cell (by first | omega | (simp; done) | (simp; omega))]; go_cell)
  have b12_3 : w3.cell? ⟨w.heap.size + 1, 12, none⟩ = some (.slice bo0 L0.length bc0) := (by rw [b3.cell (by first | omega | (simp; done) | (simp; omega))]; go_cell)
  have b13_3 : w3.cell? ⟨w.heap.size + 1, 13, none⟩ = some (.slice bo1 L1.length bc1) := (by rw [b3.cell (by first | omega | (simp; done) | (simp; omega))]; go_cell)
  have bl_3 : w.heap.size + 1 < w3.heap.size := (by have := b3.size; first | omega | (revert this; simp; done) | (revert this; simp; omega))
  clear a0_2 a1_2 a2_2 a3_2 a4_2 a5_2 a6_2 a7_2 a8_2 a9_2 a10_2 a11_2 a12_2 a13_2 al_2 b0_2 b1_2 b2_2 b3_2 b4_2 b5_2 b6_2 b7_2 b8_2 b9_2 b10_2 b11_2 b12_2 b13_2 bl_2
  clear b3 d3
  go_wp2_with fail
  refine (eqCache_rd _ _ _ _ L0 L1 _ (HA.out.later c3) (HB.out.later c3)).mono ?_
  rintro e w4 ⟨rfl, b4⟩
  have d4 : Below w3.heap.size w3 w4 := (Below.trans (by go_grown) (b4.mono (by first | omega | (simp; done) | (simp; omega))))
  have c4 : Below w.heap.size w w4 := c3.trans (d4.mono c3.size)
  have a0_4 : w4.cell? ⟨w.heap.size, 0, none⟩ = some (.int .i64 i0) := (by rw [b4.cell (by first | omega | (simp; done) | (simp; omega))]; go_cell)
  have a1_4 : w4.cell? ⟨w.heap.size, 1, none⟩ = some (.int .i64 i1) := (by rw [b4.cell (by first | omega | (simp; done) | (simp; omega))]; go_cell)
  have a2_4 : w4.cell? ⟨w.heap.size, 2, none⟩ = some (.int .i64 i2) := (by rw [b4.cell (by first | omega | (simp; done) | (simp; omega))]; go_cell)
  have a3_4 : w4.cell? ⟨w.heap.size, 3, none⟩ = some (.bool q0) := (by rw [b4.cell (by first | omega | (simp; done) | (simp; omega))]; go_cell)
  have a4_4 : w4.cell? ⟨w.heap.size, 4, none⟩ = some (.bool q1) := (by rw [b4.cell (by first | omega | (simp; done) | (simp; omega))]; go_cell)
  have a5_4 : w4.cell? ⟨w.heap.size, 5, none⟩ = some (.bool q2) := (by rw [b4.cell (by first | omega | (simp; done) | (simp; omega))]; go_cell)
  have a6_4 : w4.cell? ⟨w.heap.size, 6, none⟩ = some (.bool q3) := (by rw [b4.cell (by first | omega | (simp; done) | (simp; omega))]; go_cell)
  have a7_4 : w4.cell? ⟨w.heap.size, 7, none⟩ = some (.int .i64 i3) := (by rw [b4.cell (by first | omega | (simp; done) | (simp; omega))]; go_cell)
  have a8_4 : w4.cell? ⟨w.heap.size, 8, none⟩ = some (.int .i64 i4) := (by rw [b4.cell (by first | omega | (simp; done) | (simp; omega))]; go_cell)
  have a9_4 : w4.cell? ⟨w.heap.size, 9, none⟩ = some (.int .i64 i5) := (by rw [b4.cell (by first | omega | (simp; done) | (simp; omega))]; go_cell)
  have a10_4 : w4.cell? ⟨w.heap.size, 10, none⟩ = some (.int .i64 i6) := (by rw [b4.cell (by first | omega | (simp; done) | (simp; omega))]; go_cell)
  have a11_4 : w4.cell? ⟨w.heap.size, 11, none⟩ = some (.int .i64 i7) := (by rw [b4.cell (by first | omega | (simp; done) | (simp; omega))]; go_cell)
  have a12_4 : w4.cell? ⟨w.heap.size, 12, none⟩ = some (.slice ao0 L0.length ac0) := (by rw [b4.cell (by first | omega | (simp; done) | (simp; omega))]; go_cell)
  have a13_4 : w4.cell? ⟨w.heap.size, 13, none⟩ = some (.slice ao1 L1.length ac1) := (by rw [b4.cell (by first | omega | (simp; done) | (simp; omega))]; go_cell)
  have al_4 : w.heap.size < w4.heap.size := (by have := b4.size; first | omega | (revert this; simp; done) | (revert this; simp; omega))
  have b0_4 : w4.cell? ⟨w.heap.size + 1, 0, none⟩ = some (.int .i64 i0) := (by rw [b4.cell (by first | omega | (simp; done) | (simp; omega))]; go_cell)
  have b1_4 : w4.cell? ⟨w.heap.size + 1, 1, none⟩ = some (.int .i64 i1) := (by rw [b4.cell (by first | omega | (simp; done) | (simp; omega))]; go_cell)
  have b2_4 : w4.cell? ⟨w.heap.size + 1, 2, none⟩ = some (.int .i64 i2) := (by rw [b4.cell (by first | omega | (simp; done) | (simp; omega))]; go_cell)
  have b3_4 : w4.cell? ⟨w.heap.size + 1, 3, none⟩ = some (.bool q0) := (by rw [b4.cell (by first | omega | (simp; done) | (simp; omega))]; go_cell)
  have b4_4 : w4.cell? ⟨w.heap.size + 1, 4, none⟩ = some (.bool q1) := (by rw [b4.cell (by first | omega | (simp; done) | (simp; omega))]; go_cell)
  have b5_4 : w4.cell? ⟨w.heap.size + 1, 5, none⟩ = some (.bool q2) := (by rw [b4.cell (by first | omega | (simp; done) | (simp; omega))]; go_cell)
  have b6_4 : w4.cell? ⟨w.heap.size + 1, 6, none⟩ = some (.bool q3) := (by rw [b4.cell (by first | omega | (simp; done) | (simp; omega))]; go_cell)
  have b7_4 : w4.cell? ⟨w.heap.size + 1, 7, none⟩ = some (.int .i64 i3) := (by rw [b4.cell (by first | omega | (simp; done) | (simp; omega))]; go_cell)
  have b8_4 : w4.cell? ⟨w.heap.size + 1, 8, none⟩ = some (.int .i64 i4) := (by rw [b4.cell (by first | omega | (simp; done) | (simp; omega))]; go_cell)
  have b9_4 : w4.cell? ⟨w.heap.size + 1, 9, none⟩ = some (.int .i64 i5) := (by rw [b4.cell (by first | omega | (simp; done) | (simp; omega))]; go_cell)
  have b10_4 : w4.cell? ⟨w.heap.size + 1, 10, none⟩ = some (.int .i64 i6) := (by rw [b4.cell (by first | omega | (simp; done) | (simp; omega))]; go_cell)
  have b11_4 : w4.cell? ⟨w.heap.size + 1, 11, none⟩ = some (.int .i64 i7) := (by rw [b4.cell (by first | omega | (simp; done) | (simp; omega))]; go_cell)
  have b12_4 : w4.cell? ⟨w.heap.size + 1, 12, none⟩ = some (.slice bo0 L0.length bc0) := (by rw [b4.cell (by first | omega | (simp; done) | (simp; omega))]; go_cell)
  have b13_4 : w4.cell? ⟨w.heap.size + 1, 13, none⟩ = some (.slice bo1 L1.length bc1) := (by rw [b4.cell (by first | omega | (simp; done) | (simp; omega))]; go_cell)
  have bl_4 : w.heap.size + 1 < w4.heap.size := (by have := b4.size; first | omega | (revert this; simp; done) | (revert this; simp; omega))
  clear a0_3 a1_3 a2_3 a3_3 a4_3 a5_3 a6_3 a7_3 a8_3 a9_3 a10_3 a11_3 a12_3 a13_3 al_3 b0_3 b1_3 b2_3 b3_3 b4_3 b5_3 b6_3 b7_3 b8_3 b9_3 b10_3 b11_3 b12_3 b13_3 bl_3
  clear b4 d4
  go_wp2
  go_ret
  exact ⟨by simp, c4⟩

set_option maxRecDepth 100000 in
set_option maxHeartbeats 4000000 in
theorem szTier_rd (i0 i1 i2 : Int) (q0 q1 q2 q3 : Bool) (i3 i4 i5 i6 i7 : Int) (va0 va1 : Value) (L0 L1 : List KD) (left : Int) (w : World) (ha : RSCache w va0 va1 L0 L1) (h0 : 0 ≤ left) (h1 : left ≤ 1048576) :
    Calls Tryz.prog 8 #[.agg #[.int .i64 i0, .int .i64 i1, .int .i64 i2, .bool q0, .bool q1, .bool q2, .bool q3, .int .i64 i3, .int .i64 i4, .int .i64 i5, .int .i64 i6, .int .i64 i7, va0, va1], .int .i64 left] w fun e w' => SzD [L0, L1] left e ∧ Below w.heap.size w w' := by
  have HA := hid ha
  obtain ⟨ao0, ao1, ac0, ac1, rfl, rfl⟩ := ha.open
  clear ha
  go_enter Tryz.func8, Tryz.ntmps8
  go_wp2_with fail
  generalize hW1 : (w.alloc (.cells #[.int .i64 i0, .int .i64 i1, .int .i64 i2, .bool q0, .bool q1, .bool q2, .bool q3, .int .i64 i3, .int .i64 i4, .int .i64 i5, .int .i64 i6, .int .i64 i7, .slice ao0 L0.length ac0, .slice ao1 L1.length ac1] 30)) = w1
  have a0_1 : w1.cell? ⟨w.heap.size, 0, none⟩ = some (.int .i64 i0) := by subst hW1; go_cell
  have a1_1 : w1.cell? ⟨w.heap.size, 1, none⟩ = some (.int .i64 i1) := by subst hW1; go_cell
  have a2_1 : w1.cell? ⟨w.heap.size, 2, none⟩ = some (.int .i64 i2) := by subst hW1; go_cell
  have a3_1 : w1.cell? ⟨w.heap.size, 3, none⟩ = some (.bool q0) := by subst hW1; go_cell
  have a4_1 : w1.cell? ⟨w.heap.size, 4, none⟩ = some (.bool q1) := by subst hW1; go_cell
  have a5_1 : w1.cell? ⟨w.heap.size, 5, none⟩ = some (.bool q2) := by subst hW1; go_cell
  have a6_1 : w1.cell? ⟨w.heap.size, 6, none⟩ = some (.bool q3) := by subst hW1; go_cell
  have a7_1 : w1.cell? ⟨w.heap.size, 7, none⟩ = some (.int .i64 i3) := by subst hW1; go_cell
  have a8_1 : w1.cell? ⟨w.heap.size, 8, none⟩ = some (.int .i64 i4) := by subst hW1; go_cell
  have a9_1 : w1.cell? ⟨w.heap.size, 9, none⟩ = some (.int .i64 i5) := by subst hW1; go_cell
  have a10_1 : w1.cell? ⟨w.heap.size, 10, none⟩ = some (.int .i64 i6) := by subst hW1; go_cell
  have a11_1 : w1.cell? ⟨w.heap.size, 11, none⟩ = some (.int .i64 i7) := by subst hW1; go_cell
  have a12_1 : w1.cell? ⟨w.heap.size, 12, none⟩ = some (.slice ao0 L0.length ac0) := by subst hW1; go_cell
  have a13_1 : w1.cell? ⟨w.heap.size, 13, none⟩ = some (.slice ao1 L1.length ac1) := by subst hW1; go_cell
  have al_1 : w.heap.size < w1.heap.size := by subst hW1; first | (simp; done) | (simp; omega)
  have c1 : Below w.heap.size w w1 := by subst hW1; go_grown
  have s1 : w1.heap.size = w.heap.size + 1 := by subst hW1; simp
  clear hW1
  have qa0_1 := cell_regrown a0_1
  have qa1_1 := cell_regrown a1_1
  have qa2_1 := cell_regrown a2_1
  have qa3_1 := cell_regrown a3_1
  have qa4_1 := cell_regrown a4_1
  have qa5_1 := cell_regrown a5_1
  have qa6_1 := cell_regrown a6_1
  have qa7_1 := cell_regrown a7_1
  have qa8_1 := cell_regrown a8_1
  have qa9_1 := cell_regrown a9_1
  have qa10_1 := cell_regrown a10_1
  have qa11_1 := cell_regrown a11_1
  have qa12_1 := cell_regrown a12_1
  have qa13_1 := cell_regrown a13_1
  refine (szCache_rd _ _ L0 L1 left _ (HA.out.later c1) h0 h1).mono ?_
  rintro e w2 ⟨hs, b2⟩
  have d2 : Below w1.heap.size w1 w2 := (Below.trans (by go_grown) (b2.mono (by first | omega | (simp; done) | (simp; omega))))
  have c2 : Below w.heap.size w w2 := c1.trans (d2.mono c1.size)
  have a0_2 : w2.cell? ⟨w.heap.size, 0, none⟩ = some (.int .i64 i0) := (by rw [b2.cell (by first | omega | (simp; done) | (simp; omega))]; go_cell)
  have a1_2 : w2.cell? ⟨w.heap.size, 1, none⟩ = some (.int .i64 i1) := (by rw [b2.cell (by first | omega | (simp; done) | (simp; omega))]; go_cell)
  have a2_2 : w2.cell? ⟨w.heap.size, 2, none⟩ = some (.int .i64 i2) := (by rw [b2.cell (by first | omega | (simp; done) | (simp; omega))]; go_cell)
  have a3_2 : w2.cell? ⟨w.heap.size, 3, none⟩ = some (.bool q0) := (by rw [b2.cell (by first | omega | (simp; done) | (simp; omega))]; go_cell)
  have a4_2 : w2.cell? ⟨w.heap.size, 4, none⟩ = some (.bool q1) := (by rw [b2.cell (by first | omega | (simp; done) | (simp; omega))]; go_cell)
  have a5_2 : w2.cell? ⟨w.heap.size, 5, none⟩ = some (.bool q2) := (by rw [b2.cell (by first | omega | (simp; done) | (simp; omega))]; go_cell)
  have a6_2 : w2.cell? ⟨w.heap.size, 6, none⟩ = some (.bool q3) := (by rw [b2.cell (by first | omega | (simp; done) | (simp; omega))]; go_cell)
  have a7_2 : w2.cell? ⟨w.heap.size, 7, none⟩ = some (.int .i64 i3) := (by rw [b2.cell (by first | omega | (simp; done) | (simp; omega))]; go_cell)
  have a8_2 : w2.cell? ⟨w.heap.size, 8, none⟩ = some (.int .i64 i4) := (by rw [b2.cell (by first | omega | (simp; done) | (simp; omega))]; go_cell)
  have a9_2 : w2.cell? ⟨w.heap.size, 9, none⟩ = some (.int .i64 i5) := (by rw [b2.cell (by first | omega | (simp; done) | (simp; omega))]; go_cell)
  have a10_2 : w2.cell? ⟨w.heap.size, 10, none⟩ = some (.int .i64 i6) := (by rw [b2.cell (by first | omega | (simp; done) | (simp; omega))]; go_cell)
  have a11_2 : w2.cell? ⟨w.heap.size, 11, none⟩ = some (.int .i64 i7) := (by rw [b2.cell (by first | omega | (simp; done) | (simp; omega))]; go_cell)
  have a12_2 : w2.cell? ⟨w.heap.size, 12, none⟩ = some (.slice ao0 L0.length ac0) := (by rw [b2.cell (by first | omega | (simp; done) | (simp; omega))]; go_cell)
  have a13_2 : w2.cell? ⟨w.heap.size, 13, none⟩ = some (.slice ao1 L1.length ac1) := (by rw [b2.cell (by first | omega | (simp; done) | (simp; omega))]; go_cell)
  have al_2 : w.heap.size < w2.heap.size := (by have := b2.size; first | omega | (revert this; simp; done) | (revert this; simp; omega))
  clear a0_1 a1_1 a2_1 a3_1 a4_1 a5_1 a6_1 a7_1 a8_1 a9_1 a10_1 a11_1 a12_1 a13_1 al_1
  clear b2 d2
  rcases hs with ⟨r, rfl, hr0, hr1, hA⟩ | rfl
  · have HLA := hid hA
    have hr2 : ¬ (r < 0) := by omega
    have HR1 := hid hr1
    clear hA hr1
    go_wp2
    go_ret
    exact ⟨Or.inl ⟨r, by simp, hr0, HR1.out, HLA.out⟩, c2⟩
  · go_wp2
    go_ret
    exact ⟨Or.inr (by simp), c2⟩

theorem frozen_agree {w w' : World} {p : Addr} (hb : w'.heap[p.block]? = w.heap[p.block]?) (h : w.frozen? p = false) : w'.frozen? p = false := by
  simp only [World.frozen?] at h ⊢; rw [hb]; exact h
/-- Two Booleans, the first k of them. -/
def upB (a b : Bool) (k : Nat) : Bool × Bool := (if 0 < k then a else false, if 1 < k then b else false)
set_option maxRecDepth 100000 in
set_option maxHeartbeats 2000000 in
theorem toBoolA2_any (a b : Bool) (w : World) :
    Calls Tryz.prog 35 #[.agg #[.bool a, .bool b]] w fun e w' => e = .returned (.agg #[.bool a, .bool b]) ∧ Below w.heap.size w w' := by
  go_enter Tryz.func35, Tryz.ntmps35
  go_wp2_with fail
  generalize hW1 : (((w.alloc (.cells #[.bool a, .bool b] 22)).alloc (.cells #[.bool false, .bool false] 22)).alloc (.cells #[.bool false, .bool false] 22)) = w1
  have a0_1 : w1.cell? ⟨w.heap.size, 0, none⟩ = some (.bool a) := by subst hW1; go_cell
  have a1_1 : w1.cell? ⟨w.heap.size, 1, none⟩ = some (.bool b) := by subst hW1; go_cell
  have al_1 : w.heap.size < w1.heap.size := by subst hW1; first | (simp; done) | (simp; omega)
  have r0_1 : w1.cell? ⟨w.heap.size + 1, 0, none⟩ = some (.bool false) := by subst hW1; go_cell
  have rf0_1 : w1.frozen? ⟨w.heap.size + 1, 0, none⟩ = false := by subst hW1; (first | go_cell | (simp [World.frozen?, World.alloc]; done) | rfl)
  have r1_1 : w1.cell? ⟨w.heap.size + 1, 1, none⟩ = some (.bool false) := by subst hW1; go_cell
  have rf1_1 : w1.frozen? ⟨w.heap.size + 1, 1, none⟩ = false := by subst hW1; (first | go_cell | (simp [World.frozen?, World.alloc]; done) | rfl)
  have rl_1 : w.heap.size + 1 < w1.heap.size := by subst hW1; first | (simp; done) | (simp; omega)
  have o0_1 : w1.cell? ⟨w.heap.size + 1 + 1, 0, none⟩ = some (.bool false) := by subst hW1; go_cell
  have of0_1 : w1.frozen? ⟨w.heap.size + 1 + 1, 0, none⟩ = false := by subst hW1; (first | go_cell | (simp [World.frozen?, World.alloc]; done) | rfl)
  have o1_1 : w1.cell? ⟨w.heap.size + 1 + 1, 1, none⟩ = some (.bool false) := by subst hW1; go_cell
  have of1_1 : w1.frozen? ⟨w.heap.size + 1 + 1, 1, none⟩ = false := by subst hW1; (first | go_cell | (simp [World.frozen?, World.alloc]; done) | rfl)
  have ol_1 : w.heap.size + 1 + 1 < w1.heap.size := by subst hW1; first | (simp; done) | (simp; omega)
  have c1 : Below w.heap.size w w1 := by subst hW1; go_grown
  have s1 : w1.heap.size = w.heap.size + 3 := by subst hW1; simp
  clear hW1
  have qa0_1 := cell_regrown a0_1
  have qa1_1 := cell_regrown a1_1
  have qr0_1 := cell_regrown r0_1
  have qr1_1 := cell_regrown r1_1
  have qo0_1 := cell_regrown o0_1
  have qo1_1 := cell_regrown o1_1
  go_loopw [4] (fun i wr => ∃ k : Nat, k ≤ 2 ∧ i = .int .i64 k ∧ Hid (wr.cell? ⟨w.heap.size + 1 + 1, 0, none⟩ = some (.bool (upB a b k).1) ∧ wr.cell? ⟨w.heap.size + 1 + 1, 1, none⟩ = some (.bool (upB a b k).2) ∧ wr.frozen? ⟨w.heap.size + 1 + 1, 0, none⟩ = false ∧ wr.frozen? ⟨w.heap.size + 1 + 1, 1, none⟩ = false) ∧ Hid (Only (fun g => g = w.heap.size + 1 + 1) w1 wr)) (fun i _ => 2 - (intOf i).toNat)
  case atStart => exact ⟨0, Nat.zero_le _, rfl, hid ⟨o0_1, o1_1, of0_1, of1_1⟩, hid (Only.refl _ _)⟩
  case round =>
    obtain ⟨k, hk, rfl, ho, hon⟩ := hrel
    have ho0 := ho.out.1
    have ho1 := ho.out.2.1
    have of0 := ho.out.2.2.1
    have of1 := ho.out.2.2.2
    have a0_2 := (World.cell?_of_block (a := ⟨w.heap.size, 0, none⟩) (hon.out.block w.heap.size al_1 (by omega))).trans a0_1
    have a1_2 := (World.cell?_of_block (a := ⟨w.heap.size, 1, none⟩) (hon.out.block w.heap.size al_1 (by omega))).trans a1_1
    clear ho
    obtain rfl | rfl | rfl : k = 0 ∨ k = 1 ∨ k = 2 := by omega
    · simp only [upB] at ho0 ho1
      go_wp2_with fail
      go_roundw
      case rel => exact ⟨1, by omega, by go_num, hid ⟨by simp only [upB]; go_cell, by simp only [upB]; go_cell, by rw [World.frozen?_setCell]; exact of0, by rw [World.frozen?_setCell]; exact of1⟩, hid (hon.out.trans (Only.set (F := fun g => g = w.heap.size + 1 + 1) wr (p := ⟨w.heap.size + 1 + 1, 0, none⟩) rfl _))⟩
      case measure => simp [intOf]
    · simp only [upB] at ho0 ho1
      go_wp2_with fail
      go_roundw
      case rel => exact ⟨2, by omega, by go_num, hid ⟨by simp only [upB]; go_cell, by simp only [upB]; go_cell, by rw [World.frozen?_setCell]; exact of0, by rw [World.frozen?_setCell]; exact of1⟩, hid (hon.out.trans (Only.set (F := fun g => g = w.heap.size + 1 + 1) wr (p := ⟨w.heap.size + 1 + 1, 1, none⟩) rfl _))⟩
      case measure => simp [intOf]
    · simp only [upB] at ho0 ho1
      have r0_2 := (World.cell?_of_block (a := ⟨w.heap.size + 1, 0, none⟩) (hon.out.block (w.heap.size + 1) rl_1 (by omega))).trans r0_1
      have r1_2 := (World.cell?_of_block (a := ⟨w.heap.size + 1, 1, none⟩) (hon.out.block (w.heap.size + 1) rl_1 (by omega))).trans r1_1
      have rf0 : wr.frozen? ⟨w.heap.size + 1, 0, none⟩ = false := frozen_agree (hon.out.block (w.heap.size + 1) rl_1 (by omega)) rf0_1
      have rf1 : wr.frozen? ⟨w.heap.size + 1, 1, none⟩ = false := frozen_agree (hon.out.block (w.heap.size + 1) rl_1 (by omega)) rf1_1
      have hz := hon.out.size
      have C2 : Below w.heap.size w wr := c1.trans (hon.out.below (fun g hg => by omega) c1.size)
      go_wp2
      have e0 : ((wr.setCell ⟨w.heap.size + 1, 0, none⟩ (.bool a)).setCell ⟨w.heap.size + 1, 1, none⟩ (.bool b)).cell? ⟨w.heap.size + 1, 0, none⟩ = some (.bool a) := by go_cell
      have e1 : ((wr.setCell ⟨w.heap.size + 1, 0, none⟩ (.bool a)).setCell ⟨w.heap.size + 1, 1, none⟩ (.bool b)).cell? ⟨w.heap.size + 1, 1, none⟩ = some (.bool b) := by go_cell
      refine bodyPost_ret (v := .agg #[.bool a, .bool b]) (by simp [results, Tryz.results35, go_sem, e0, e1]) rfl ⟨rfl, ?_⟩
      exact (C2.setCell (p := ⟨w.heap.size + 1, 0, none⟩) (by show w.heap.size ≤ w.heap.size + 1; omega) _).setCell (p := ⟨w.heap.size + 1, 1, none⟩) (by show w.heap.size ≤ w.heap.size + 1; omega) _
/-- The two lists of a cache, owned from block B on, apart from each other. -/
def Own2 (B : Nat) (w : World) (v0 v1 : Value) (L0 L1 : List KD) : Prop :=
  ∃ B1, OwnM 84 4 3 true w (Span B B1) v0 L0 ∧ OwnM 3 1 1 false w (Span B1 w.heap.size) v1 L1 ∧ B ≤ B1 ∧ B1 ≤ w.heap.size
theorem Own2.rd {B : Nat} {w : World} {v0 v1 : Value} {L0 L1 : List KD} (h : Own2 B w v0 v1 L0 L1) : RSCache w v0 v1 L0 L1 := by
  obtain ⟨B1, h0, h1, _, _⟩ := h
  exact ⟨h0.rd (by decide) (by decide), h1.rd (by decide) (by decide)⟩
theorem Own2.set {B : Nat} {w : World} {v0 v1 : Value} {L0 L1 : List KD} (h : Own2 B w v0 v1 L0 L1) {p : Addr} (hp : p.block < B) (u : Value) : Own2 B (w.setCell p u) v0 v1 L0 L1 := by
  obtain ⟨B1, h0, h1, e0, e1⟩ := h
  exact ⟨B1, h0.set (fun q => by have := q.1; omega) u, by have := h1.set (p := p) (fun q => by have := q.1; omega) u; simpa using this, e0, by simpa using e1⟩
theorem Own2.wide {B B' : Nat} {w : World} {v0 v1 : Value} {L0 L1 : List KD} (h : Own2 B w v0 v1 L0 L1) (hb : B' ≤ B) : Own2 B' w v0 v1 L0 L1 := by
  obtain ⟨B1, h0, h1, e0, e1⟩ := h
  exact ⟨B1, h0.mono (fun b q _ => ⟨Nat.le_trans hb q.1, q.2⟩), h1, Nat.le_trans hb e0, e1⟩
theorem toCache_two (a0 a1 : Value) (L0 L1 : List KD) (w : World) (h : RSCache w a0 a1 L0 L1) (hl : ∀ L ∈ [L0, L1], L.length + bulkM L ≤ 1048576) :
    Calls Tryz.prog 36 #[.agg #[a0, a1]] w fun e w' => (∃ (xo0 xo1 : Option Addr) (xc0 xc1 : Nat), e = .returned (.agg #[.slice xo0 L0.length xc0, .slice xo1 L1.length xc1]) ∧ Own2 w.heap.size w' (.slice xo0 L0.length xc0) (.slice xo1 L1.length xc1) L0 L1) ∧ Below w.heap.size w w' :=
  (toCache_own a0 a1 L0 L1 w h.h0 h.h1 (Nat.le_trans (Nat.le_add_right _ _) (hl L0 (by simp))) (Nat.le_trans (Nat.le_add_right _ _) (hl L1 (by simp))) (fun i hi => Nat.le_trans (bulkM_get L0 i hi) (Nat.le_trans (Nat.le_add_left _ _) (hl L0 (by simp))))).mono fun e w' ⟨he, hb⟩ => by
    obtain ⟨v0, v1, B1, he, q0, q1, e0, e1⟩ := he
    have hO : Own2 w.heap.size w' v0 v1 L0 L1 := ⟨B1, q0, q1, e0, e1⟩
    obtain ⟨o0, o1, c0, c1, rfl, rfl⟩ := hO.rd.open
    exact ⟨⟨_, _, _, _, he, hO⟩, hb⟩
set_option maxRecDepth 100000 in
set_option maxHeartbeats 8000000 in
theorem toTier_rd (i0 i1 i2 : Int) (q0 q1 q2 q3 : Bool) (i3 i4 i5 i6 i7 : Int) (va0 va1 : Value) (L0 L1 : List KD) (w : World) (ha : RSCache w va0 va1 L0 L1) (hl : ∀ L ∈ [L0, L1], L.length + bulkM L ≤ 1048576) :
    Calls Tryz.prog 10 #[.agg #[.int .i64 i0, .int .i64 i1, .int .i64 i2, .bool q0, .bool q1, .bool q2, .bool q3, .int .i64 i3, .int .i64 i4, .int .i64 i5, .int .i64 i6, .int .i64 i7, va0, va1]] w fun e w' => (∃ (xo0 xo1 : Option Addr) (xc0 xc1 : Nat), e = .returned (.agg #[.int .i64 i0, .int .i64 i1, .int .i64 i2, .bool q0, .bool q1, .bool q2, .bool q3, .int .i64 i3, .int .i64 i4, .int .i64 i5, .int .i64 i6, .int .i64 i7, .slice xo0 L0.length xc0, .slice xo1 L1.length xc1]) ∧ RSCache w' (.slice xo0 L0.length xc0) (.slice xo1 L1.length xc1) L0 L1 ∧ Own2 w.heap.size w' (.slice xo0 L0.length xc0) (.slice xo1 L1.length xc1) L0 L1) ∧ Below w.heap.size w w' := by
  have HA := hid ha
  have HL := hid hl
  clear hl
  obtain ⟨ao0, ao1, ac0, ac1, rfl, rfl⟩ := ha.open
  clear ha
  go_enter Tryz.func10, Tryz.ntmps10
  go_wp2_with fail
  generalize hW1 : (((w.alloc (.cells #[.int .i64 i0, .int .i64 i1, .int .i64 i2, .bool q0, .bool q1, .bool q2, .bool q3, .int .i64 i3, .int .i64 i4, .int .i64 i5, .int .i64 i6, .int .i64 i7, .slice ao0 L0.length ac0, .slice ao1 L1.length ac1] 30)).alloc (.cells #[.int .i64 0, .int .i64 0, .int .i64 0, .bool false, .bool false, .bool false, .bool false, .int .i64 0, .int .i64 0, .int .i64 0, .int .i64 0, .int .i64 0, .slice none 0 0, .slice none 0 0] 38)).alloc (.cells #[.int .i64 i0, .int .i64 i1, .int .i64 i2, .bool false, .bool false, .bool false, .bool false, .int .i64 0, .int .i64 0, .int .i64 0, .int .i64 0, .int .i64 0, .slice none 0 0, .slice none 0 0] 38)) = w1
  have a0_1 : w1.cell? ⟨w.heap.size, 0, none⟩ = some (.int .i64 i0) := by subst hW1; go_cell
  have a1_1 : w1.cell? ⟨w.heap.size, 1, none⟩ = some (.int .i64 i1) := by subst hW1; go_cell
  have a2_1 : w1.cell? ⟨w.heap.size, 2, none⟩ = some (.int .i64 i2) := by subst hW1; go_cell
  have a3_1 : w1.cell? ⟨w.heap.size, 3, none⟩ = some (.bool q0) := by subst hW1; go_cell
  have a4_1 : w1.cell? ⟨w.heap.size, 4, none⟩ = some (.bool q1) := by subst hW1; go_cell
  have a5_1 : w1.cell? ⟨w.heap.size, 5, none⟩ = some (.bool q2) := by subst hW1; go_cell
  have a6_1 : w1.cell? ⟨w.heap.size, 6, none⟩ = some (.bool q3) := by subst hW1; go_cell
  have a7_1 : w1.cell? ⟨w.heap.size, 7, none⟩ = some (.int .i64 i3) := by subst hW1; go_cell
  have a8_1 : w1.cell? ⟨w.heap.size, 8, none⟩ = some (.int .i64 i4) := by subst hW1; go_cell
  have a9_1 : w1.cell? ⟨w.heap.size, 9, none⟩ = some (.int .i64 i5) := by subst hW1; go_cell
  have a10_1 : w1.cell? ⟨w.heap.size, 10, none⟩ = some (.int .i64 i6) := by subst hW1; go_cell
  have a11_1 : w1.cell? ⟨w.heap.size, 11, none⟩ = some (.int .i64 i7) := by subst hW1; go_cell
  have a12_1 : w1.cell? ⟨w.heap.size, 12, none⟩ = some (.slice ao0 L0.length ac0) := by subst hW1; go_cell
  have a13_1 : w1.cell? ⟨w.heap.size, 13, none⟩ = some (.slice ao1 L1.length ac1) := by subst hW1; go_cell
  have r0_1 : w1.cell? ⟨w.heap.size + 1, 0, none⟩ = some (.int .i64 0) := by subst hW1; go_cell
  have rf0_1 : w1.frozen? ⟨w.heap.size + 1, 0, none⟩ = false := by subst hW1; (first | go_cell | (simp [World.frozen?, World.alloc]; done) | rfl)
  have r1_1 : w1.cell? ⟨w.heap.size + 1, 1, none⟩ = some (.int .i64 0) := by subst hW1; go_cell
  have rf1_1 : w1.frozen? ⟨w.heap.size + 1, 1, none⟩ = false := by subst hW1; (first | go_cell | (simp [World.frozen?, World.alloc]; done) | rfl)
  have r2_1 : w1.cell? ⟨w.heap.size + 1, 2, none⟩ = some (.int .i64 0) := by subst hW1; go_cell
  have rf2_1 : w1.frozen? ⟨w.heap.size + 1, 2, none⟩ = false := by subst hW1; (first | go_cell | (simp [World.frozen?, World.alloc]; done) | rfl)
  have r3_1 : w1.cell? ⟨w.heap.size + 1, 3, none⟩ = some (.bool false) := by subst hW1; go_cell
  have rf3_1 : w1.frozen? ⟨w.heap.size + 1, 3, none⟩ = false := by subst hW1; (first | go_cell | (simp [World.frozen?, World.alloc]; done) | rfl)
  have r4_1 : w1.cell? ⟨w.heap.size + 1, 4, none⟩ = some (.bool false) := by subst hW1; go_cell
  have rf4_1 : w1.frozen? ⟨w.heap.size + 1, 4, none⟩ = false := by subst hW1; (first | go_cell | (simp [World.frozen?, World.alloc]; done) | rfl)
  have r5_1 : w1.cell? ⟨w.heap.size + 1, 5, none⟩ = some (.bool false) := by subst hW1; go_cell
  have rf5_1 : w1.frozen? ⟨w.heap.size + 1, 5, none⟩ = false := by subst hW1; (first | go_cell | (simp [World.frozen?, World.alloc]; done) | rfl)
  have r6_1 : w1.cell? ⟨w.heap.size + 1, 6, none⟩ = some (.bool false) := by subst hW1; go_cell
  have rf6_1 : w1.frozen? ⟨w.heap.size + 1, 6, none⟩ = false := by subst hW1; (first | go_cell | (simp [World.frozen?, World.alloc]; done) | rfl)
  have r7_1 : w1.cell? ⟨w.heap.size + 1, 7, none⟩ = some (.int .i64 0) := by subst hW1; go_cell
  have rf7_1 : w1.frozen? ⟨w.heap.size + 1, 7, none⟩ = false := by subst hW1; (first | go_cell | (simp [World.frozen?, World.alloc]; done) | rfl)
  have r8_1 : w1.cell? ⟨w.heap.size + 1, 8, none⟩ = some (.int .i64 0) := by subst hW1; go_cell
  have rf8_1 : w1.frozen? ⟨w.heap.size + 1, 8, none⟩ = false := by subst hW1; (first | go_cell | (simp [World.frozen?, World.alloc]; done) | rfl)
  have r9_1 : w1.cell? ⟨w.heap.size + 1, 9, none⟩ = some (.int .i64 0) := by subst hW1; go_cell
  have rf9_1 : w1.frozen? ⟨w.heap.size + 1, 9, none⟩ = false := by subst hW1; (first | go_cell | (simp [World.frozen?, World.alloc]; done) | rfl)
  have r10_1 : w1.cell? ⟨w.heap.size + 1, 10, none⟩ = some (.int .i64 0) := by subst hW1; go_cell
  have rf10_1 : w1.frozen? ⟨w.heap.size + 1, 10, none⟩ = false := by subst hW1; (first | go_cell | (simp [World.frozen?, World.alloc]; done) | rfl)
  have r11_1 : w1.cell? ⟨w.heap.size + 1, 11, none⟩ = some (.int .i64 0) := by subst hW1; go_cell
  have rf11_1 : w1.frozen? ⟨w.heap.size + 1, 11, none⟩ = false := by subst hW1; (first | go_cell | (simp [World.frozen?, World.alloc]; done) | rfl)
  have r12_1 : w1.cell? ⟨w.heap.size + 1, 12, none⟩ = some (.slice none 0 0) := by subst hW1; go_cell
  have rf12_1 : w1.frozen? ⟨w.heap.size + 1, 12, none⟩ = false := by subst hW1; (first | go_cell | (simp [World.frozen?, World.alloc]; done) | rfl)
  have r13_1 : w1.cell? ⟨w.heap.size + 1, 13, none⟩ = some (.slice none 0 0) := by subst hW1; go_cell
  have rf13_1 : w1.frozen? ⟨w.heap.size + 1, 13, none⟩ = false := by subst hW1; (first | go_cell | (simp [World.frozen?, World.alloc]; done) | rfl)
  have o0_1 : w1.cell? ⟨w.heap.size + 1 + 1, 0, none⟩ = some (.int .i64 i0) := by subst hW1; go_cell
  have of0_1 : w1.frozen? ⟨w.heap.size + 1 + 1, 0, none⟩ = false := by subst hW1; (first | go_cell | (simp [World.frozen?, World.alloc]; done) | rfl)
  have o1_1 : w1.cell? ⟨w.heap.size + 1 + 1, 1, none⟩ = some (.int .i64 i1) := by subst hW1; go_cell
  have of1_1 : w1.frozen? ⟨w.heap.size + 1 + 1, 1, none⟩ = false := by subst hW1; (first | go_cell | (simp [World.frozen?, World.alloc]; done) | rfl)
  have o2_1 : w1.cell? ⟨w.heap.size + 1 + 1, 2, none⟩ = some (.int .i64 i2) := by subst hW1; go_cell
  have of2_1 : w1.frozen? ⟨w.heap.size + 1 + 1, 2, none⟩ = false := by subst hW1; (first | go_cell | (simp [World.frozen?, World.alloc]; done) | rfl)
  have o3_1 : w1.cell? ⟨w.heap.size + 1 + 1, 3, none⟩ = some (.bool false) := by subst hW1; go_cell
  have of3_1 : w1.frozen? ⟨w.heap.size + 1 + 1, 3, none⟩ = false := by subst hW1; (first | go_cell | (simp [World.frozen?, World.alloc]; done) | rfl)
  have o4_1 : w1.cell? ⟨w.heap.size + 1 + 1, 4, none⟩ = some (.bool false) := by subst hW1; go_cell
  have of4_1 : w1.frozen? ⟨w.heap.size + 1 + 1, 4, none⟩ = false := by subst hW1; (first | go_cell | (simp [World.frozen?, World.alloc]; done) | rfl)
  have o5_1 : w1.cell? ⟨w.heap.size + 1 + 1, 5, none⟩ = some (.bool false) := by subst hW1; go_cell
  have of5_1 : w1.frozen? ⟨w.heap.size + 1 + 1, 5, none⟩ = false := by subst hW1; (first | go_cell | (simp [World.frozen?, World.alloc]; done) | rfl)
  have o6_1 : w1.cell? ⟨w.heap.size + 1 + 1, 6, none⟩ = some (.bool false) := by subst hW1; go_cell
  have of6_1 : w1.frozen? ⟨w.heap.size + 1 + 1, 6, none⟩ = false := by subst hW1; (first | go_cell | (simp [World.frozen?, World.alloc]; done) | rfl)
  have o7_1 : w1.cell? ⟨w.heap.size + 1 + 1, 7, none⟩ = some (.int .i64 0) := by subst hW1; go_cell
  have of7_1 : w1.frozen? ⟨w.heap.size + 1 + 1, 7, none⟩ = false := by subst hW1; (first | go_cell | (simp [World.frozen?, World.alloc]; done) | rfl)
  have o8_1 : w1.cell? ⟨w.heap.size + 1 + 1, 8, none⟩ = some (.int .i64 0) := by subst hW1; go_cell
  have of8_1 : w1.frozen? ⟨w.heap.size + 1 + 1, 8, none⟩ = false := by subst hW1; (first | go_cell | (simp [World.frozen?, World.alloc]; done) | rfl)
  have o9_1 : w1.cell? ⟨w.heap.size + 1 + 1, 9, none⟩ = some (.int .i64 0) := by subst hW1; go_cell
  have of9_1 : w1.frozen? ⟨w.heap.size + 1 + 1, 9, none⟩ = false := by subst hW1; (first | go_cell | (simp [World.frozen?, World.alloc]; done) | rfl)
  have o10_1 : w1.cell? ⟨w.heap.size + 1 + 1, 10, none⟩ = some (.int .i64 0) := by subst hW1; go_cell
  have of10_1 : w1.frozen? ⟨w.heap.size + 1 + 1, 10, none⟩ = false := by subst hW1; (first | go_cell | (simp [World.frozen?, World.alloc]; done) | rfl)
  have o11_1 : w1.cell? ⟨w.heap.size + 1 + 1, 11, none⟩ = some (.int .i64 0) := by subst hW1; go_cell
  have of11_1 : w1.frozen? ⟨w.heap.size + 1 + 1, 11, none⟩ = false := by subst hW1; (first | go_cell | (simp [World.frozen?, World.alloc]; done) | rfl)
  have o12_1 : w1.cell? ⟨w.heap.size + 1 + 1, 12, none⟩ = some (.slice none 0 0) := by subst hW1; go_cell
  have of12_1 : w1.frozen? ⟨w.heap.size + 1 + 1, 12, none⟩ = false := by subst hW1; (first | go_cell | (simp [World.frozen?, World.alloc]; done) | rfl)
  have o13_1 : w1.cell? ⟨w.heap.size + 1 + 1, 13, none⟩ = some (.slice none 0 0) := by subst hW1; go_cell
  have of13_1 : w1.frozen? ⟨w.heap.size + 1 + 1, 13, none⟩ = false := by subst hW1; (first | go_cell | (simp [World.frozen?, World.alloc]; done) | rfl)
  have c1 : Below w.heap.size w w1 := by subst hW1; go_grown
  have s1 : w1.heap.size = w.heap.size + 3 := by subst hW1; simp
  clear hW1
  have al_1 : w.heap.size < w1.heap.size := by omega
  have rl_1 : w.heap.size + 1 < w1.heap.size := by omega
  have ol_1 : w.heap.size + 1 + 1 < w1.heap.size := by omega
  clear s1
  have hz1 : w.heap.size + 3 ≤ w1.heap.size := by omega
  refine (toBoolA2_any q0 q1 _).mono ?_
  rintro e w2 ⟨rfl, b2⟩
  have hz2 : w1.heap.size ≤ w2.heap.size := b2.size
  have d2 : Below w1.heap.size w1 w2 := (Below.trans (by go_grown) (b2.mono (by first | omega | (simp; done) | (simp; omega))))
  have c2 : Below w.heap.size w w2 := c1.trans (d2.mono c1.size)
  have a0_2 : w2.cell? ⟨w.heap.size, 0, none⟩ = some (.int .i64 i0) := (by rw [b2.cell (by first | omega | (simp; done) | (simp; omega))]; go_cell)
  have a1_2 : w2.cell? ⟨w.heap.size, 1, none⟩ = some (.int .i64 i1) := (by rw [b2.cell (by first | omega | (simp; done) | (simp; omega))]; go_cell)
  have a2_2 : w2.cell? ⟨w.heap.size, 2, none⟩ = some (.int .i64 i2) := (by rw [b2.cell (by first | omega | (simp; done) | (simp; omega))]; go_cell)
  have a3_2 : w2.cell? ⟨w.heap.size, 3, none⟩ = some (.bool q0) := (by rw [b2.cell (by first | omega | (simp; done) | (simp; omega))]; go_cell)
  have a4_2 : w2.cell? ⟨w.heap.size, 4, none⟩ = some (.bool q1) := (by rw [b2.cell (by first | omega | (simp; done) | (simp; omega))]; go_cell)
  have a5_2 : w2.cell? ⟨w.heap.size, 5, none⟩ = some (.bool q2) := (by rw [b2.cell (by first | omega | (simp; done) | (simp; omega))]; go_cell)
  have a6_2 : w2.cell? ⟨w.heap.size, 6, none⟩ = some (.bool q3) := (by rw [b2.cell (by first | omega | (simp; done) | (simp; omega))]; go_cell)
  have a7_2 : w2.cell? ⟨w.heap.size, 7, none⟩ = some (.int .i64 i3) := (by rw [b2.cell (by first | omega | (simp; done) | (simp; omega))]; go_cell)
  have a8_2 : w2.cell? ⟨w.heap.size, 8, none⟩ = some (.int .i64 i4) := (by rw [b2.cell (by first | omega | (simp; done) | (simp; omega))]; go_cell)
  have a9_2 : w2.cell? ⟨w.heap.size, 9, none⟩ = some (.int .i64 i5) := (by rw [b2.cell (by first | omega | (simp; done) | (simp; omega))]; go_cell)
  have a10_2 : w2.cell? ⟨w.heap.size, 10, none⟩ = some (.int .i64 i6) := (by rw [b2.cell (by first | omega | (simp; done) | (simp; omega))]; go_cell)
  have a11_2 : w2.cell? ⟨w.heap.size, 11, none⟩ = some (.int .i64 i7) := (by rw [b2.cell (by first | omega | (simp; done) | (simp; omega))]; go_cell)
  have a12_2 : w2.cell? ⟨w.heap.size, 12, none⟩ = some (.slice ao0 L0.length ac0) := (by rw [b2.cell (by first | omega | (simp; done) | (simp; omega))]; go_cell)
  have a13_2 : w2.cell? ⟨w.heap.size, 13, none⟩ = some (.slice ao1 L1.length ac1) := (by rw [b2.cell (by first | omega | (simp; done) | (simp; omega))]; go_cell)
  have al_2 : w.heap.size < w2.heap.size := (by have := b2.size; first | omega | (revert this; simp; done) | (revert this; simp; omega))
  have r0_2 : w2.cell? ⟨w.heap.size + 1, 0, none⟩ = some (.int .i64 0) := (by rw [b2.cell (by first | omega | (simp; done) | (simp; omega))]; go_cell)
  have rf0_2 : w2.frozen? ⟨w.heap.size + 1, 0, none⟩ = false := (by rw [b2.frozen (by first | omega | (simp; done) | (simp; omega))]; (first | go_cell | (simp [World.frozen?, World.alloc]; done) | rfl))
  have r1_2 : w2.cell? ⟨w.heap.size + 1, 1, none⟩ = some (.int .i64 0) := (by rw [b2.cell (by first | omega | (simp; done) | (simp; omega))]; go_cell)
  have rf1_2 : w2.frozen? ⟨w.heap.size + 1, 1, none⟩ = false := (by rw [b2.frozen (by first | omega | (simp; done) | (simp; omega))]; (first | go_cell | (simp [World.frozen?, World.alloc]; done) | rfl))
  have r2_2 : w2.cell? ⟨w.heap.size + 1, 2, none⟩ = some (.int .i64 0) := (by rw [b2.cell (by first | omega | (simp; done) | (simp; omega))]; go_cell)
  have rf2_2 : w2.frozen? ⟨w.heap.size + 1, 2, none⟩ = false := (by rw [b2.frozen (by first | omega | (simp; done) | (simp; omega))]; (first | go_cell | (simp [World.frozen?, World.alloc]; done) | rfl))
  have r3_2 : w2.cell? ⟨w.heap.size + 1, 3, none⟩ = some (.bool false) := (by rw [b2.cell (by first | omega | (simp; done) | (simp; omega))]; go_cell)
  have rf3_2 : w2.frozen? ⟨w.heap.size + 1, 3, none⟩ = false := (by rw [b2.frozen (by first | omega | (simp; done) | (simp; omega))]; (first | go_cell | (simp [World.frozen?, World.alloc]; done) | rfl))
  have r4_2 : w2.cell? ⟨w.heap.size + 1, 4, none⟩ = some (.bool false) := (by rw [b2.cell (by first | omega | (simp; done) | (simp; omega))]; go_cell)
  have rf4_2 : w2.frozen? ⟨w.heap.size + 1, 4, none⟩ = false := (by rw [b2.frozen (by first | omega | (simp; done) | (simp; omega))]; (first | go_cell | (simp [World.frozen?, World.alloc]; done) | rfl))
  have r5_2 : w2.cell? ⟨w.heap.size + 1, 5, none⟩ = some (.bool false) := (by rw [b2.cell (by first | omega | (simp; done) | (simp; omega))]; go_cell)
  have rf5_2 : w2.frozen? ⟨w.heap.size + 1, 5, none⟩ = false := (by rw [b2.frozen (by first | omega | (simp; done) | (simp; omega))]; (first | go_cell | (simp [World.frozen?, World.alloc]; done) | rfl))
  have r6_2 : w2.cell? ⟨w.heap.size + 1, 6, none⟩ = some (.bool false) := (by rw [b2.cell (by first | omega | (simp; done) | (simp; omega))]; go_cell)
  have rf6_2 : w2.frozen? ⟨w.heap.size + 1, 6, none⟩ = false := (by rw [b2.frozen (by first | omega | (simp; done) | (simp; omega))]; (first | go_cell | (simp [World.frozen?, World.alloc]; done) | rfl))
  have r7_2 : w2.cell? ⟨w.heap.size + 1, 7, none⟩ = some (.int .i64 0) := (by rw [b2.cell (by first | omega | (simp; done) | (simp; omega))]; go_cell)
  have rf7_2 : w2.frozen? ⟨w.heap.size + 1, 7, none⟩ = false := (by rw [b2.frozen (by first | omega | (simp; done) | (simp; omega))]; (first | go_cell | (simp [World.frozen?, World.alloc]; done) | rfl))
  have r8_2 : w2.cell? ⟨w.heap.size + 1, 8, none⟩ = some (.int .i64 0) := (by rw [b2.cell (by first | omega | (simp; done) | (simp; omega))]; go_cell)
  have rf8_2 : w2.frozen? ⟨w.heap.size + 1, 8, none⟩ = false := (by rw [b2.frozen (by first | omega | (simp; done) | (simp; omega))]; (first | go_cell | (simp [World.frozen?, World.alloc]; done) | rfl))
  have r9_2 : w2.cell? ⟨w.heap.size + 1, 9, none⟩ = some (.int .i64 0) := (by rw [b2.cell (by first | omega | (simp; done) | (simp; omega))]; go_cell)
  have rf9_2 : w2.frozen? ⟨w.heap.size + 1, 9, none⟩ = false := (by rw [b2.frozen (by first | omega | (simp; done) | (simp; omega))]; (first | go_cell | (simp [World.frozen?, World.alloc]; done) | rfl))
  have r10_2 : w2.cell? ⟨w.heap.size + 1, 10, none⟩ = some (.int .i64 0) := (by rw [b2.cell (by first | omega | (simp; done) | (simp; omega))]; go_cell)
  have rf10_2 : w2.frozen? ⟨w.heap.size + 1, 10, none⟩ = false := (by rw [b2.frozen (by first | omega | (simp; done) | (simp; omega))]; (first | go_cell | (simp [World.frozen?, World.alloc]; done) | rfl))
  have r11_2 : w2.cell? ⟨w.heap.size + 1, 11, none⟩ = some (.int .i64 0) := (by rw [b2.cell (by first | omega | (simp; done) | (simp; omega))]; go_cell)
  have rf11_2 : w2.frozen? ⟨w.heap.size + 1, 11, none⟩ = false := (by rw [b2.frozen (by first | omega | (simp; done) | (simp; omega))]; (first | go_cell | (simp [World.frozen?, World.alloc]; done) | rfl))
  have r12_2 : w2.cell? ⟨w.heap.size + 1, 12, none⟩ = some (.slice none 0 0) := (by rw [b2.cell (by first | omega | (simp; done) | (simp; omega))]; go_cell)
  have rf12_2 : w2.frozen? ⟨w.heap.size + 1, 12, none⟩ = false := (by rw [b2.frozen (by first | omega | (simp; done) | (simp; omega))]; (first | go_cell | (simp [World.frozen?, World.alloc]; done) | rfl))
  have r13_2 : w2.cell? ⟨w.heap.size + 1, 13, none⟩ = some (.slice none 0 0) := (by rw [b2.cell (by first | omega | (simp; done) | (simp; omega))]; go_cell)
  have rf13_2 : w2.frozen? ⟨w.heap.size + 1, 13, none⟩ = false := (by rw [b2.frozen (by first | omega | (simp; done) | (simp; omega))]; (first | go_cell | (simp [World.frozen?, World.alloc]; done) | rfl))
  have rl_2 : w.heap.size + 1 < w2.heap.size := (by have := b2.size; first | omega | (revert this; simp; done) | (revert this; simp; omega))
  have o0_2 : w2.cell? ⟨w.heap.size + 1 + 1, 0, none⟩ = some (.int .i64 i0) := (by rw [b2.cell (by first | omega | (simp; done) | (simp; omega))]; go_cell)
  have of0_2 : w2.frozen? ⟨w.heap.size + 1 + 1, 0, none⟩ = false := (by rw [b2.frozen (by first | omega | (simp; done) | (simp; omega))]; (first | go_cell | (simp [World.frozen?, World.alloc]; done) | rfl))
  have o1_2 : w2.cell? ⟨w.heap.size + 1 + 1, 1, none⟩ = some (.int .i64 i1) := (by rw [b2.cell (by first | omega | (simp; done) | (simp; omega))]; go_cell)
  have of1_2 : w2.frozen? ⟨w.heap.size + 1 + 1, 1, none⟩ = false := (by rw [b2.frozen (by first | omega | (simp; done) | (simp; omega))]; (first | go_cell | (simp [World.frozen?, World.alloc]; done) | rfl))
  have o2_2 : w2.cell? ⟨w.heap.size + 1 + 1, 2, none⟩ = some (.int .i64 i2) := (by rw [b2.cell (by first | omega | (simp; done) | (simp; omega))]; go_cell)
  have of2_2 : w2.frozen? ⟨w.heap.size + 1 + 1, 2, none⟩ = false := (by rw [b2.frozen (by first | omega | (simp; done) | (simp; omega))]; (first | go_cell | (simp [World.frozen?, World.alloc]; done) | rfl))
  have o3_2 : w2.cell? ⟨w.heap.size + 1 + 1, 3, none⟩ = some (.bool false) := (by rw [b2.cell (by first | omega | (simp; done) | (simp; omega))]; go_cell)
  have of3_2 : w2.frozen? ⟨w.heap.size + 1 + 1, 3, none⟩ = false := (by rw [b2.frozen (by first | omega | (simp; done) | (simp; omega))]; (first | go_cell | (simp [World.frozen?, World.alloc]; done) | rfl))
  have o4_2 : w2.cell? ⟨w.heap.size + 1 + 1, 4, none⟩ = some (.bool false) := (by rw [b2.cell (by first | omega | (simp; done) | (simp; omega))]; go_cell)
  have of4_2 : w2.frozen? ⟨w.heap.size + 1 + 1, 4, none⟩ = false := (by rw [b2.frozen (by first | omega | (simp; done) | (simp; omega))]; (first | go_cell | (simp [World.frozen?, World.alloc]; done) | rfl))
  have o5_2 : w2.cell? ⟨w.heap.size + 1 + 1, 5, none⟩ = some (.bool false) := (by rw [b2.cell (by first | omega | (simp; done) | (simp; omega))]; go_cell)
  have of5_2 : w2.frozen? ⟨w.heap.size + 1 + 1, 5, none⟩ = false := (by rw [b2.frozen (by first | omega | (simp; done) | (simp; omega))]; (first | go_cell | (simp [World.frozen?, World.alloc]; done) | rfl))
  have o6_2 : w2.cell? ⟨w.heap.size + 1 + 1, 6, none⟩ = some (.bool false) := (by rw [b2.cell (by first | omega | (simp; done) | (simp; omega))]; go_cell)
  have of6_2 : w2.frozen? ⟨w.heap.size + 1 + 1, 6, none⟩ = false := (by rw [b2.frozen (by first | omega | (simp; done) | (simp; omega))]; (first | go_cell | (simp [World.frozen?, World.alloc]; done) | rfl))
  have o7_2 : w2.cell? ⟨w.heap.size + 1 + 1, 7, none⟩ = some (.int .i64 0) := (by rw [b2.cell (by first | omega | (simp; done) | (simp; omega))]; go_cell)
  have of7_2 : w2.frozen? ⟨w.heap.size + 1 + 1, 7, none⟩ = false := (by rw [b2.frozen (by first | omega | (simp; done) | (simp; omega))]; (first | go_cell | (simp [World.frozen?, World.alloc]; done) | rfl))
  have o8_2 : w2.cell? ⟨w.heap.size + 1 + 1, 8, none⟩ = some (.int .i64 0) := (by rw [b2.cell (by first | omega | (simp; done) | (simp; omega))]; go_cell)
  have of8_2 : w2.frozen? ⟨w.heap.size + 1 + 1, 8, none⟩ = false := (by rw [b2.frozen (by first | omega | (simp; done) | (simp; omega))]; (first | go_cell | (simp [World.frozen?, World.alloc]; done) | rfl))
  have o9_2 : w2.cell? ⟨w.heap.size + 1 + 1, 9, none⟩ = some (.int .i64 0) := (by rw [b2.cell (by first | omega | (simp; done) | (simp; omega))]; go_cell)
  have of9_2 : w2.frozen? ⟨w.heap.size + 1 + 1, 9, none⟩ = false := (by rw [b2.frozen (by first | omega | (simp; done) | (simp; omega))]; (first | go_cell | (simp [World.frozen?, World.alloc]; done) | rfl))
  have o10_2 : w2.cell? ⟨w.heap.size + 1 + 1, 10, none⟩ = some (.int .i64 0) := (by rw [b2.cell (by first | omega | (simp; done) | (simp; omega))]; go_cell)
  have of10_2 : w2.frozen? ⟨w.heap.size + 1 + 1, 10, none⟩ = false := (by rw [b2.frozen (by first | omega | (simp; done) | (simp; omega))]; (first | go_cell | (simp [World.frozen?, World.alloc]; done) | rfl))
  have o11_2 : w2.cell? ⟨w.heap.size + 1 + 1, 11, none⟩ = some (.int .i64 0) := (by rw [b2.cell (by first | omega | (simp; done) | (simp; omega))]; go_cell)
  have of11_2 : w2.frozen? ⟨w.heap.size + 1 + 1, 11, none⟩ = false := (by rw [b2.frozen (by first | omega | (simp; done) | (simp; omega))]; (first | go_cell | (simp [World.frozen?, World.alloc]; done) | rfl))
  have o12_2 : w2.cell? ⟨w.heap.size + 1 + 1, 12, none⟩ = some (.slice none 0 0) := (by rw [b2.cell (by first | omega | (simp; done) | (simp; omega))]; go_cell)
  have of12_2 : w2.frozen? ⟨w.heap.size + 1 + 1, 12, none⟩ = false := (by rw [b2.frozen (by first | omega | (simp; done) | (simp; omega))]; (first | go_cell | (simp [World.frozen?, World.alloc]; done) | rfl))
  have o13_2 : w2.cell? ⟨w.heap.size + 1 + 1, 13, none⟩ = some (.slice none 0 0) := (by rw [b2.cell (by first | omega | (simp; done) | (simp; omega))]; go_cell)
  have of13_2 : w2.frozen? ⟨w.heap.size + 1 + 1, 13, none⟩ = false := (by rw [b2.frozen (by first | omega | (simp; done) | (simp; omega))]; (first | go_cell | (simp [World.frozen?, World.alloc]; done) | rfl))
  have ol_2 : w.heap.size + 1 + 1 < w2.heap.size := (by have := b2.size; first | omega | (revert this; simp; done) | (revert this; simp; omega))
  clear a0_1 a1_1 a2_1 a3_1 a4_1 a5_1 a6_1 a7_1 a8_1 a9_1 a10_1 a11_1 a12_1 a13_1 al_1 r0_1 rf0_1 r1_1 rf1_1 r2_1 rf2_1 r3_1 rf3_1 r4_1 rf4_1 r5_1 rf5_1 r6_1 rf6_1 r7_1 rf7_1 r8_1 rf8_1 r9_1 rf9_1 r10_1 rf10_1 r11_1 rf11_1 r12_1 rf12_1 r13_1 rf13_1 rl_1 o0_1 of0_1 o1_1 of1_1 o2_1 of2_1 o3_1 of3_1 o4_1 of4_1 o5_1 of5_1 o6_1 of6_1 o7_1 of7_1 o8_1 of8_1 o9_1 of9_1 o10_1 of10_1 o11_1 of11_1 o12_1 of12_1 o13_1 of13_1 ol_1
  clear b2 d2
  go_wp2_with fail
  have c3' := (((((c2.setCell (p := ⟨w.heap.size + 1 + 1, 3, none⟩) (by show w.heap.size ≤ w.heap.size + 1 + 1; omega) (.bool q0)).setCell (p := ⟨w.heap.size + 1 + 1, 4, none⟩) (by show w.heap.size ≤ w.heap.size + 1 + 1; omega) (.bool q1)).setCell (p := ⟨w.heap.size + 1 + 1, 5, none⟩) (by show w.heap.size ≤ w.heap.size + 1 + 1; omega) (.bool q2)).setCell (p := ⟨w.heap.size + 1 + 1, 6, none⟩) (by show w.heap.size ≤ w.heap.size + 1 + 1; omega) (.bool q3)).setCell (p := ⟨w.heap.size + 1 + 1, 7, none⟩) (by show w.heap.size ≤ w.heap.size + 1 + 1; omega) (.int .i64 i3))
  generalize hW3 : (((((w2.setCell ⟨w.heap.size + 1 + 1, 3, none⟩ (.bool q0)).setCell ⟨w.heap.size + 1 + 1, 4, none⟩ (.bool q1)).setCell ⟨w.heap.size + 1 + 1, 5, none⟩ (.bool q2)).setCell ⟨w.heap.size + 1 + 1, 6, none⟩ (.bool q3)).setCell ⟨w.heap.size + 1 + 1, 7, none⟩ (.int .i64 i3)) = w3 at c3' ⊢
  have a0_3 : w3.cell? ⟨w.heap.size, 0, none⟩ = some (.int .i64 i0) := by subst hW3; go_cell
  have a1_3 : w3.cell? ⟨w.heap.size, 1, none⟩ = some (.int .i64 i1) := by subst hW3; go_cell
  have a2_3 : w3.cell? ⟨w.heap.size, 2, none⟩ = some (.int .i64 i2) := by subst hW3; go_cell
  have a3_3 : w3.cell? ⟨w.heap.size, 3, none⟩ = some (.bool q0) := by subst hW3; go_cell
  have a4_3 : w3.cell? ⟨w.heap.size, 4, none⟩ = some (.bool q1) := by subst hW3; go_cell
  have a5_3 : w3.cell? ⟨w.heap.size, 5, none⟩ = some (.bool q2) := by subst hW3; go_cell
  have a6_3 : w3.cell? ⟨w.heap.size, 6, none⟩ = some (.bool q3) := by subst hW3; go_cell
  have a7_3 : w3.cell? ⟨w.heap.size, 7, none⟩ = some (.int .i64 i3) := by subst hW3; go_cell
  have a8_3 : w3.cell? ⟨w.heap.size, 8, none⟩ = some (.int .i64 i4) := by subst hW3; go_cell
  have a9_3 : w3.cell? ⟨w.heap.size, 9, none⟩ = some (.int .i64 i5) := by subst hW3; go_cell
  have a10_3 : w3.cell? ⟨w.heap.size, 10, none⟩ = some (.int .i64 i6) := by subst hW3; go_cell
  have a11_3 : w3.cell? ⟨w.heap.size, 11, none⟩ = some (.int .i64 i7) := by subst hW3; go_cell
  have a12_3 : w3.cell? ⟨w.heap.size, 12, none⟩ = some (.slice ao0 L0.length ac0) := by subst hW3; go_cell
  have a13_3 : w3.cell? ⟨w.heap.size, 13, none⟩ = some (.slice ao1 L1.length ac1) := by subst hW3; go_cell
  have r0_3 : w3.cell? ⟨w.heap.size + 1, 0, none⟩ = some (.int .i64 0) := by subst hW3; go_cell
  have rf0_3 : w3.frozen? ⟨w.heap.size + 1, 0, none⟩ = false := by subst hW3; (first | go_cell | (simp [World.frozen?, World.alloc]; done) | rfl)
  have r1_3 : w3.cell? ⟨w.heap.size + 1, 1, none⟩ = some (.int .i64 0) := by subst hW3; go_cell
  have rf1_3 : w3.frozen? ⟨w.heap.size + 1, 1, none⟩ = false := by subst hW3; (first | go_cell | (simp [World.frozen?, World.alloc]; done) | rfl)
  have r2_3 : w3.cell? ⟨w.heap.size + 1, 2, none⟩ = some (.int .i64 0) := by subst hW3; go_cell
  have rf2_3 : w3.frozen? ⟨w.heap.size + 1, 2, none⟩ = false := by subst hW3; (first | go_cell | (simp [World.frozen?, World.alloc]; done) | rfl)
  have r3_3 : w3.cell? ⟨w.heap.size + 1, 3, none⟩ = some (.bool false) := by subst hW3; go_cell
  have rf3_3 : w3.frozen? ⟨w.heap.size + 1, 3, none⟩ = false := by subst hW3; (first | go_cell | (simp [World.frozen?, World.alloc]; done) | rfl)
  have r4_3 : w3.cell? ⟨w.heap.size + 1, 4, none⟩ = some (.bool false) := by subst hW3; go_cell
  have rf4_3 : w3.frozen? ⟨w.heap.size + 1, 4, none⟩ = false := by subst hW3; (first | go_cell | (simp [World.frozen?, World.alloc]; done) | rfl)
  have r5_3 : w3.cell? ⟨w.heap.size + 1, 5, none⟩ = some (.bool false) := by subst hW3; go_cell
  have rf5_3 : w3.frozen? ⟨w.heap.size + 1, 5, none⟩ = false := by subst hW3; (first | go_cell | (simp [World.frozen?, World.alloc]; done) | rfl)
  have r6_3 : w3.cell? ⟨w.heap.size + 1, 6, none⟩ = some (.bool false) := by subst hW3; go_cell
  have rf6_3 : w3.frozen? ⟨w.heap.size + 1, 6, none⟩ = false := by subst hW3; (first | go_cell | (simp [World.frozen?, World.alloc]; done) | rfl)
  have r7_3 : w3.cell? ⟨w.heap.size + 1, 7, none⟩ = some (.int .i64 0) := by subst hW3; go_cell
  have rf7_3 : w3.frozen? ⟨w.heap.size + 1, 7, none⟩ = false := by subst hW3; (first | go_cell | (simp [World.frozen?, World.alloc]; done) | rfl)
  have r8_3 : w3.cell? ⟨w.heap.size + 1, 8, none⟩ = some (.int .i64 0) := by subst hW3; go_cell
  have rf8_3 : w3.frozen? ⟨w.heap.size + 1, 8, none⟩ = false := by subst hW3; (first | go_cell | (simp [World.frozen?, World.alloc]; done) | rfl)
  have r9_3 : w3.cell? ⟨w.heap.size + 1, 9, none⟩ = some (.int .i64 0) := by subst hW3; go_cell
  have rf9_3 : w3.frozen? ⟨w.heap.size + 1, 9, none⟩ = false := by subst hW3; (first | go_cell | (simp [World.frozen?, World.alloc]; done) | rfl)
  have r10_3 : w3.cell? ⟨w.heap.size + 1, 10, none⟩ = some (.int .i64 0) := by subst hW3; go_cell
  have rf10_3 : w3.frozen? ⟨w.heap.size + 1, 10, none⟩ = false := by subst hW3; (first | go_cell | (simp [World.frozen?, World.alloc]; done) | rfl)
  have r11_3 : w3.cell? ⟨w.heap.size + 1, 11, none⟩ = some (.int .i64 0) := by subst hW3; go_cell
  have rf11_3 : w3.frozen? ⟨w.heap.size + 1, 11, none⟩ = false := by subst hW3; (first | go_cell | (simp [World.frozen?, World.alloc]; done) | rfl)
  have r12_3 : w3.cell? ⟨w.heap.size + 1, 12, none⟩ = some (.slice none 0 0) := by subst hW3; go_cell
  have rf12_3 : w3.frozen? ⟨w.heap.size + 1, 12, none⟩ = false := by subst hW3; (first | go_cell | (simp [World.frozen?, World.alloc]; done) | rfl)
  have r13_3 : w3.cell? ⟨w.heap.size + 1, 13, none⟩ = some (.slice none 0 0) := by subst hW3; go_cell
  have rf13_3 : w3.frozen? ⟨w.heap.size + 1, 13, none⟩ = false := by subst hW3; (first | go_cell | (simp [World.frozen?, World.alloc]; done) | rfl)
  have o0_3 : w3.cell? ⟨w.heap.size + 1 + 1, 0, none⟩ = some (.int .i64 i0) := by subst hW3; go_cell
  have of0_3 : w3.frozen? ⟨w.heap.size + 1 + 1, 0, none⟩ = false := by subst hW3; (first | go_cell | (simp [World.frozen?, World.alloc]; done) | rfl)
  have o1_3 : w3.cell? ⟨w.heap.size + 1 + 1, 1, none⟩ = some (.int .i64 i1) := by subst hW3; go_cell
  have of1_3 : w3.frozen? ⟨w.heap.size + 1 + 1, 1, none⟩ = false := by subst hW3; (first | go_cell | (simp [World.frozen?, World.alloc]; done) | rfl)
  have o2_3 : w3.cell? ⟨w.heap.size + 1 + 1, 2, none⟩ = some (.int .i64 i2) := by subst hW3; go_cell
  have of2_3 : w3.frozen? ⟨w.heap.size + 1 + 1, 2, none⟩ = false := by subst hW3; (first | go_cell | (simp [World.frozen?, World.alloc]; done) | rfl)
  have o3_3 : w3.cell? ⟨w.heap.size + 1 + 1, 3, none⟩ = some (.bool q0) := by subst hW3; go_cell
  have of3_3 : w3.frozen? ⟨w.heap.size + 1 + 1, 3, none⟩ = false := by subst hW3; (first | go_cell | (simp [World.frozen?, World.alloc]; done) | rfl)
  have o4_3 : w3.cell? ⟨w.heap.size + 1 + 1, 4, none⟩ = some (.bool q1) := by subst hW3; go_cell
  have of4_3 : w3.frozen? ⟨w.heap.size + 1 + 1, 4, none⟩ = false := by subst hW3; (first | go_cell | (simp [World.frozen?, World.alloc]; done) | rfl)
  have o5_3 : w3.cell? ⟨w.heap.size + 1 + 1, 5, none⟩ = some (.bool q2) := by subst hW3; go_cell
  have of5_3 : w3.frozen? ⟨w.heap.size + 1 + 1, 5, none⟩ = false := by subst hW3; (first | go_cell | (simp [World.frozen?, World.alloc]; done) | rfl)
  have o6_3 : w3.cell? ⟨w.heap.size + 1 + 1, 6, none⟩ = some (.bool q3) := by subst hW3; go_cell
  have of6_3 : w3.frozen? ⟨w.heap.size + 1 + 1, 6, none⟩ = false := by subst hW3; (first | go_cell | (simp [World.frozen?, World.alloc]; done) | rfl)
  have o7_3 : w3.cell? ⟨w.heap.size + 1 + 1, 7, none⟩ = some (.int .i64 i3) := by subst hW3; go_cell
  have of7_3 : w3.frozen? ⟨w.heap.size + 1 + 1, 7, none⟩ = false := by subst hW3; (first | go_cell | (simp [World.frozen?, World.alloc]; done) | rfl)
  have o8_3 : w3.cell? ⟨w.heap.size + 1 + 1, 8, none⟩ = some (.int .i64 0) := by subst hW3; go_cell
  have of8_3 : w3.frozen? ⟨w.heap.size + 1 + 1, 8, none⟩ = false := by subst hW3; (first | go_cell | (simp [World.frozen?, World.alloc]; done) | rfl)
  have o9_3 : w3.cell? ⟨w.heap.size + 1 + 1, 9, none⟩ = some (.int .i64 0) := by subst hW3; go_cell
  have of9_3 : w3.frozen? ⟨w.heap.size + 1 + 1, 9, none⟩ = false := by subst hW3; (first | go_cell | (simp [World.frozen?, World.alloc]; done) | rfl)
  have o10_3 : w3.cell? ⟨w.heap.size + 1 + 1, 10, none⟩ = some (.int .i64 0) := by subst hW3; go_cell
  have of10_3 : w3.frozen? ⟨w.heap.size + 1 + 1, 10, none⟩ = false := by subst hW3; (first | go_cell | (simp [World.frozen?, World.alloc]; done) | rfl)
  have o11_3 : w3.cell? ⟨w.heap.size + 1 + 1, 11, none⟩ = some (.int .i64 0) := by subst hW3; go_cell
  have of11_3 : w3.frozen? ⟨w.heap.size + 1 + 1, 11, none⟩ = false := by subst hW3; (first | go_cell | (simp [World.frozen?, World.alloc]; done) | rfl)
  have o12_3 : w3.cell? ⟨w.heap.size + 1 + 1, 12, none⟩ = some (.slice none 0 0) := by subst hW3; go_cell
  have of12_3 : w3.frozen? ⟨w.heap.size + 1 + 1, 12, none⟩ = false := by subst hW3; (first | go_cell | (simp [World.frozen?, World.alloc]; done) | rfl)
  have o13_3 : w3.cell? ⟨w.heap.size + 1 + 1, 13, none⟩ = some (.slice none 0 0) := by subst hW3; go_cell
  have of13_3 : w3.frozen? ⟨w.heap.size + 1 + 1, 13, none⟩ = false := by subst hW3; (first | go_cell | (simp [World.frozen?, World.alloc]; done) | rfl)
  have c3 := c3'
  have s3 : w3.heap.size = w2.heap.size := by subst hW3; simp
  clear a0_2 a1_2 a2_2 a3_2 a4_2 a5_2 a6_2 a7_2 a8_2 a9_2 a10_2 a11_2 a12_2 a13_2 r0_2 r1_2 r2_2 r3_2 r4_2 r5_2 r6_2 r7_2 r8_2 r9_2 r10_2 r11_2 r12_2 r13_2 rf0_2 rf1_2 rf2_2 rf3_2 rf4_2 rf5_2 rf6_2 rf7_2 rf8_2 rf9_2 rf10_2 rf11_2 rf12_2 rf13_2 o0_2 o1_2 o2_2 o3_2 o4_2 o5_2 o6_2 o7_2 o8_2 o9_2 o10_2 o11_2 o12_2 o13_2 of0_2 of1_2 of2_2 of3_2 of4_2 of5_2 of6_2 of7_2 of8_2 of9_2 of10_2 of11_2 of12_2 of13_2 hW3 c3'
  have al_3 : w.heap.size < w3.heap.size := by omega
  have rl_3 : w.heap.size + 1 < w3.heap.size := by omega
  have ol_3 : w.heap.size + 1 + 1 < w3.heap.size := by omega
  refine (toOp_all i4 i5 i6 i7 _).mono ?_
  rintro e w4 ⟨rfl, b4⟩
  have hz4 : w3.heap.size ≤ w4.heap.size := b4.size
  have d4 : Below w3.heap.size w3 w4 := (Below.trans (by go_grown) (b4.mono (by first | omega | (simp; done) | (simp; omega))))
  have c4 : Below w.heap.size w w4 := c3.trans (d4.mono c3.size)
  have a0_4 : w4.cell? ⟨w.heap.size, 0, none⟩ = some (.int .i64 i0) := (by rw [b4.cell (by first | omega | (simp; done) | (simp; omega))]; go_cell)
  have a1_4 : w4.cell? ⟨w.heap.size, 1, none⟩ = some (.int .i64 i1) := (by rw [b4.cell (by first | omega | (simp; done) | (simp; omega))]; go_cell)
  have a2_4 : w4.cell? ⟨w.heap.size, 2, none⟩ = some (.int .i64 i2) := (by rw [b4.cell (by first | omega | (simp; done) | (simp; omega))]; go_cell)
  have a3_4 : w4.cell? ⟨w.heap.size, 3, none⟩ = some (.bool q0) := (by rw [b4.cell (by first | omega | (simp; done) | (simp; omega))]; go_cell)
  have a4_4 : w4.cell? ⟨w.heap.size, 4, none⟩ = some (.bool q1) := (by rw [b4.cell (by first | omega | (simp; done) | (simp; omega))]; go_cell)
  have a5_4 : w4.cell? ⟨w.heap.size, 5, none⟩ = some (.bool q2) := (by rw [b4.cell (by first | omega | (simp; done) | (simp; omega))]; go_cell)
  have a6_4 : w4.cell? ⟨w.heap.size, 6, none⟩ = some (.bool q3) := (by rw [b4.cell (by first | omega | (simp; done) | (simp; omega))]; go_cell)
  have a7_4 : w4.cell? ⟨w.heap.size, 7, none⟩ = some (.int .i64 i3) := (by rw [b4.cell (by first | omega | (simp; done) | (simp; omega))]; go_cell)
  have a8_4 : w4.cell? ⟨w.heap.size, 8, none⟩ = some (.int .i64 i4) := (by rw [b4.cell (by first | omega | (simp; done) | (simp; omega))]; go_cell)
  have a9_4 : w4.cell? ⟨w.heap.size, 9, none⟩ = some (.int .i64 i5) := (by rw [b4.cell (by first | omega | (simp; done) | (simp; omega))]; go_cell)
  have a10_4 : w4.cell? ⟨w.heap.size, 10, none⟩ = some (.int .i64 i6) := (by rw [b4.cell (by first | omega | (simp; done) | (simp; omega))]; go_cell)
  have a11_4 : w4.cell? ⟨w.heap.size, 11, none⟩ = some (.int .i64 i7) := (by rw [b4.cell (by first | omega | (simp; done) | (simp; omega))]; go_cell)
  have a12_4 : w4.cell? ⟨w.heap.size, 12, none⟩ = some (.slice ao0 L0.length ac0) := (by rw [b4.cell (by first | omega | (simp; done) | (simp; omega))]; go_cell)
  have a13_4 : w4.cell? ⟨w.heap.size, 13, none⟩ = some (.slice ao1 L1.length ac1) := (by rw [b4.cell (by first | omega | (simp; done) | (simp; omega))]; go_cell)
  have al_4 : w.heap.size < w4.heap.size := (by have := b4.size; first | omega | (revert this; simp; done) | (revert this; simp; omega))
  have r0_4 : w4.cell? ⟨w.heap.size + 1, 0, none⟩ = some (.int .i64 0) := (by rw [b4.cell (by first | omega | (simp; done) | (simp; omega))]; go_cell)
  have rf0_4 : w4.frozen? ⟨w.heap.size + 1, 0, none⟩ = false := (by rw [b4.frozen (by first | omega | (simp; done) | (simp; omega))]; (first | go_cell | (simp [World.frozen?, World.alloc]; done) | rfl))
  have r1_4 : w4.cell? ⟨w.heap.size + 1, 1, none⟩ = some (.int .i64 0) := (by rw [b4.cell (by first | omega | (simp; done) | (simp; omega))]; go_cell)
  have rf1_4 : w4.frozen? ⟨w.heap.size + 1, 1, none⟩ = false := (by rw [b4.frozen (by first | omega | (simp; done) | (simp; omega))]; (first | go_cell | (simp [World.frozen?, World.alloc]; done) | rfl))
  have r2_4 : w4.cell? ⟨w.heap.size + 1, 2, none⟩ = some (.int .i64 0) := (by rw [b4.cell (by first | omega | (simp; done) | (simp; omega))]; go_cell)
  have rf2_4 : w4.frozen? ⟨w.heap.size + 1, 2, none⟩ = false := (by rw [b4.frozen (by first | omega | (simp; done) | (simp; omega))]; (first | go_cell | (simp [World.frozen?, World.alloc]; done) | rfl))
  have r3_4 : w4.cell? ⟨w.heap.size + 1, 3, none⟩ = some (.bool false) := (by rw [b4.cell (by first | omega | (simp; done) | (simp; omega))]; go_cell)
  have rf3_4 : w4.frozen? ⟨w.heap.size + 1, 3, none⟩ = false := (by rw [b4.frozen (by first | omega | (simp; done) | (simp; omega))]; (first | go_cell | (simp [World.frozen?, World.alloc]; done) | rfl))
  have r4_4 : w4.cell? ⟨w.heap.size + 1, 4, none⟩ = some (.bool false) := (by rw [b4.cell (by first | omega | (simp; done) | (simp; omega))]; go_cell)
  have rf4_4 : w4.frozen? ⟨w.heap.size + 1, 4, none⟩ = false := (by rw [b4.frozen (by first | omega | (simp; done) | (simp; omega))]; (first | go_cell | (simp [World.frozen?, World.alloc]; done) | rfl))
  have r5_4 : w4.cell? ⟨w.heap.size + 1, 5, none⟩ = some (.bool false) := (by rw [b4.cell (by first | omega | (simp; done) | (simp; omega))]; go_cell)
  have rf5_4 : w4.frozen? ⟨w.heap.size + 1, 5, none⟩ = false := (by rw [b4.frozen (by first | omega | (simp; done) | (simp; omega))]; (first | go_cell | (simp [World.frozen?, World.alloc]; done) | rfl))
  have r6_4 : w4.cell? ⟨w.heap.size + 1, 6, none⟩ = some (.bool false) := (by rw [b4.cell (by first | omega | (simp; done) | (simp; omega))]; go_cell)
  have rf6_4 : w4.frozen? ⟨w.heap.size + 1, 6, none⟩ = false := (by rw [b4.frozen (by first | omega | (simp; done) | (simp; omega))]; (first | go_cell | (simp [World.frozen?, World.alloc]; done) | rfl))
  have r7_4 : w4.cell? ⟨w.heap.size + 1, 7, none⟩ = some (.int .i64 0) := (by rw [b4.cell (by first | omega | (simp; done) | (simp; omega))]; go_cell)
  have rf7_4 : w4.frozen? ⟨w.heap.size + 1, 7, none⟩ = false := (by rw [b4.frozen (by first | omega | (simp; done) | (simp; omega))]; (first | go_cell | (simp [World.frozen?, World.alloc]; done) | rfl))
  have r8_4 : w4.cell? ⟨w.heap.size + 1, 8, none⟩ = some (.int .i64 0) := (by rw [b4.cell (by first | omega | (simp; done) | (simp; omega))]; go_cell)
  have rf8_4 : w4.frozen? ⟨w.heap.size + 1, 8, none⟩ = false := (by rw [b4.frozen (by first | omega | (simp; done) | (simp; omega))]; (first | go_cell | (simp [World.frozen?, World.alloc]; done) | rfl))
  have r9_4 : w4.cell? ⟨w.heap.size + 1, 9, none⟩ = some (.int .i64 0) := (by rw [b4.cell (by first | omega | (simp; done) | (simp; omega))]; go_cell)
  have rf9_4 : w4.frozen? ⟨w.heap.size + 1, 9, none⟩ = false := (by rw [b4.frozen (by first | omega | (simp; done) | (simp; omega))]; (first | go_cell | (simp [World.frozen?, World.alloc]; done) | rfl))
  have r10_4 : w4.cell? ⟨w.heap.size + 1, 10, none⟩ = some (.int .i64 0) := (by rw [b4.cell (by first | omega | (simp; done) | (simp; omega))]; go_cell)
  have rf10_4 : w4.frozen? ⟨w.heap.size + 1, 10, none⟩ = false := (by rw [b4.frozen (by first | omega | (simp; done) | (simp; omega))]; (first | go_cell | (simp [World.frozen?, World.alloc]; done) | rfl))
  have r11_4 : w4.cell? ⟨w.heap.size + 1, 11, none⟩ = some (.int .i64 0) := (by rw [b4.cell (by first | omega | (simp; done) | (simp; omega))]; go_cell)
  have rf11_4 : w4.frozen? ⟨w.heap.size + 1, 11, none⟩ = false := (by rw [b4.frozen (by first | omega | (simp; done) | (simp; omega))]; (first | go_cell | (simp [World.frozen?, World.alloc]; done) | rfl))
  have r12_4 : w4.cell? ⟨w.heap.size + 1, 12, none⟩ = some (.slice none 0 0) := (by rw [b4.cell (by first | omega | (simp; done) | (simp; omega))]; go_cell)
  have rf12_4 : w4.frozen? ⟨w.heap.size + 1, 12, none⟩ = false := (by rw [b4.frozen (by first | omega | (simp; done) | (simp; omega))]; (first | go_cell | (simp [World.frozen?, World.alloc]; done) | rfl))
  have r13_4 : w4.cell? ⟨w.heap.size + 1, 13, none⟩ = some (.slice none 0 0) := (by rw [b4.cell (by first | omega | (simp; done) | (simp; omega))]; go_cell)
  have rf13_4 : w4.frozen? ⟨w.heap.size + 1, 13, none⟩ = false := (by rw [b4.frozen (by first | omega | (simp; done) | (simp; omega))]; (first | go_cell | (simp [World.frozen?, World.alloc]; done) | rfl))
  have rl_4 : w.heap.size + 1 < w4.heap.size := (by have := b4.size; first | omega | (revert this; simp; done) | (revert this; simp; omega))
  have o0_4 : w4.cell? ⟨w.heap.size + 1 + 1, 0, none⟩ = some (.int .i64 i0) := (by rw [b4.cell (by first | omega | (simp; done) | (simp; omega))]; go_cell)
  have of0_4 : w4.frozen? ⟨w.heap.size + 1 + 1, 0, none⟩ = false := (by rw [b4.frozen (by first | omega | (simp; done) | (simp; omega))]; (first | go_cell | (simp [World.frozen?, World.alloc]; done) | rfl))
  have o1_4 : w4.cell? ⟨w.heap.size + 1 + 1, 1, none⟩ = some (.int .i64 i1) := (by rw [b4.cell (by first | omega | (simp; done) | (simp; omega))]; go_cell)
  have of1_4 : w4.frozen? ⟨w.heap.size + 1 + 1, 1, none⟩ = false := (by rw [b4.frozen (by first | omega | (simp; done) | (simp; omega))]; (first | go_cell | (simp [World.frozen?, World.alloc]; done) | rfl))
  have o2_4 : w4.cell? ⟨w.heap.size + 1 + 1, 2, none⟩ = some (.int .i64 i2) := (by rw [b4.cell (by first | omega | (simp; done) | (simp; omega))]; go_cell)
  have of2_4 : w4.frozen? ⟨w.heap.size + 1 + 1, 2, none⟩ = false := (by rw [b4.frozen (by first | omega | (simp; done) | (simp; omega))]; (first | go_cell | (simp [World.frozen?, World.alloc]; done) | rfl))
  have o3_4 : w4.cell? ⟨w.heap.size + 1 + 1, 3, none⟩ = some (.bool q0) := (by rw [b4.cell (by first | omega | (simp; done) | (simp; omega))]; go_cell)
  have of3_4 : w4.frozen? ⟨w.heap.size + 1 + 1, 3, none⟩ = false := (by rw [b4.frozen (by first | omega | (simp; done) | (simp; omega))]; (first | go_cell | (simp [World.frozen?, World.alloc]; done) | rfl))
  have o4_4 : w4.cell? ⟨w.heap.size + 1 + 1, 4, none⟩ = some (.bool q1) := (by rw [b4.cell (by first | omega | (simp; done) | (simp; omega))]; go_cell)
  have of4_4 : w4.frozen? ⟨w.heap.size + 1 + 1, 4, none⟩ = false := (by rw [b4.frozen (by first | omega | (simp; done) | (simp; omega))]; (first | go_cell | (simp [World.frozen?, World.alloc]; done) | rfl))
  have o5_4 : w4.cell? ⟨w.heap.size + 1 + 1, 5, none⟩ = some (.bool q2) := (by rw [b4.cell (by first | omega | (simp; done) | (simp; omega))]; go_cell)
  have of5_4 : w4.frozen? ⟨w.heap.size + 1 + 1, 5, none⟩ = false := (by rw [b4.frozen (by first | omega | (simp; done) | (simp; omega))]; (first | go_cell | (simp [World.frozen?, World.alloc]; done) | rfl))
  have o6_4 : w4.cell? ⟨w.heap.size + 1 + 1, 6, none⟩ = some (.bool q3) := (by rw [b4.cell (by first | omega | (simp; done) | (simp; omega))]; go_cell)
  have of6_4 : w4.frozen? ⟨w.heap.size + 1 + 1, 6, none⟩ = false := (by rw [b4.frozen (by first | omega | (simp; done) | (simp; omega))]; (first | go_cell | (simp [World.frozen?, World.alloc]; done) | rfl))
  have o7_4 : w4.cell? ⟨w.heap.size + 1 + 1, 7, none⟩ = some (.int .i64 i3) := (by rw [b4.cell (by first | omega | (simp; done) | (simp; omega))]; go_cell)
  have of7_4 : w4.frozen? ⟨w.heap.size + 1 + 1, 7, none⟩ = false := (by rw [b4.frozen (by first | omega | (simp; done) | (simp; omega))]; (first | go_cell | (simp [World.frozen?, World.alloc]; done) | rfl))
  have o8_4 : w4.cell? ⟨w.heap.size + 1 + 1, 8, none⟩ = some (.int .i64 0) := (by rw [b4.cell (by first | omega | (simp; done) | (simp; omega))]; go_cell)
  have of8_4 : w4.frozen? ⟨w.heap.size + 1 + 1, 8, none⟩ = false := (by rw [b4.frozen (by first | omega | (simp; done) | (simp; omega))]; (first | go_cell | (simp [World.frozen?, World.alloc]; done) | rfl))
  have o9_4 : w4.cell? ⟨w.heap.size + 1 + 1, 9, none⟩ = some (.int .i64 0) := (by rw [b4.cell (by first | omega | (simp; done) | (simp; omega))]; go_cell)
  have of9_4 : w4.frozen? ⟨w.heap.size + 1 + 1, 9, none⟩ = false := (by rw [b4.frozen (by first | omega | (simp; done) | (simp; omega))]; (first | go_cell | (simp [World.frozen?, World.alloc]; done) | rfl))
  have o10_4 : w4.cell? ⟨w.heap.size + 1 + 1, 10, none⟩ = some (.int .i64 0) := (by rw [b4.cell (by first | omega | (simp; done) | (simp; omega))]; go_cell)
  have of10_4 : w4.frozen? ⟨w.heap.size + 1 + 1, 10, none⟩ = false := (by rw [b4.frozen (by first | omega | (simp; done) | (simp; omega))]; (first | go_cell | (simp [World.frozen?, World.alloc]; done) | rfl))
  have o11_4 : w4.cell? ⟨w.heap.size + 1 + 1, 11, none⟩ = some (.int .i64 0) := (by rw [b4.cell (by first | omega | (simp; done) | (simp; omega))]; go_cell)
  have of11_4 : w4.frozen? ⟨w.heap.size + 1 + 1, 11, none⟩ = false := (by rw [b4.frozen (by first | omega | (simp; done) | (simp; omega))]; (first | go_cell | (simp [World.frozen?, World.alloc]; done) | rfl))
  have o12_4 : w4.cell? ⟨w.heap.size + 1 + 1, 12, none⟩ = some (.slice none 0 0) := (by rw [b4.cell (by first | omega | (simp; done) | (simp; omega))]; go_cell)
  have of12_4 : w4.frozen? ⟨w.heap.size + 1 + 1, 12, none⟩ = false := (by rw [b4.frozen (by first | omega | (simp; done) | (simp; omega))]; (first | go_cell | (simp [World.frozen?, World.alloc]; done) | rfl))
  have o13_4 : w4.cell? ⟨w.heap.size + 1 + 1, 13, none⟩ = some (.slice none 0 0) := (by rw [b4.cell (by first | omega | (simp; done) | (simp; omega))]; go_cell)
  have of13_4 : w4.frozen? ⟨w.heap.size + 1 + 1, 13, none⟩ = false := (by rw [b4.frozen (by first | omega | (simp; done) | (simp; omega))]; (first | go_cell | (simp [World.frozen?, World.alloc]; done) | rfl))
  have ol_4 : w.heap.size + 1 + 1 < w4.heap.size := (by have := b4.size; first | omega | (revert this; simp; done) | (revert this; simp; omega))
  clear a0_3 a1_3 a2_3 a3_3 a4_3 a5_3 a6_3 a7_3 a8_3 a9_3 a10_3 a11_3 a12_3 a13_3 al_3 r0_3 rf0_3 r1_3 rf1_3 r2_3 rf2_3 r3_3 rf3_3 r4_3 rf4_3 r5_3 rf5_3 r6_3 rf6_3 r7_3 rf7_3 r8_3 rf8_3 r9_3 rf9_3 r10_3 rf10_3 r11_3 rf11_3 r12_3 rf12_3 r13_3 rf13_3 rl_3 o0_3 of0_3 o1_3 of1_3 o2_3 of2_3 o3_3 of3_3 o4_3 of4_3 o5_3 of5_3 o6_3 of6_3 o7_3 of7_3 o8_3 of8_3 o9_3 of9_3 o10_3 of10_3 o11_3 of11_3 o12_3 of12_3 o13_3 of13_3 ol_3
  clear b4 d4
  go_wp2_with fail
  have c5' := ((((c4.setCell (p := ⟨w.heap.size + 1 + 1, 8, none⟩) (by show w.heap.size ≤ w.heap.size + 1 + 1; omega) (.int .i64 i4)).setCell (p := ⟨w.heap.size + 1 + 1, 9, none⟩) (by show w.heap.size ≤ w.heap.size + 1 + 1; omega) (.int .i64 i5)).setCell (p := ⟨w.heap.size + 1 + 1, 10, none⟩) (by show w.heap.size ≤ w.heap.size + 1 + 1; omega) (.int .i64 i6)).setCell (p := ⟨w.heap.size + 1 + 1, 11, none⟩) (by show w.heap.size ≤ w.heap.size + 1 + 1; omega) (.int .i64 i7))
  generalize hW5 : ((((w4.setCell ⟨w.heap.size + 1 + 1, 8, none⟩ (.int .i64 i4)).setCell ⟨w.heap.size + 1 + 1, 9, none⟩ (.int .i64 i5)).setCell ⟨w.heap.size + 1 + 1, 10, none⟩ (.int .i64 i6)).setCell ⟨w.heap.size + 1 + 1, 11, none⟩ (.int .i64 i7)) = w5 at c5' ⊢
  have a0_5 : w5.cell? ⟨w.heap.size, 0, none⟩ = some (.int .i64 i0) := by subst hW5; go_cell
  have a1_5 : w5.cell? ⟨w.heap.size, 1, none⟩ = some (.int .i64 i1) := by subst hW5; go_cell
  have a2_5 : w5.cell? ⟨w.heap.size, 2, none⟩ = some (.int .i64 i2) := by subst hW5; go_cell
  have a3_5 : w5.cell? ⟨w.heap.size, 3, none⟩ = some (.bool q0) := by subst hW5; go_cell
  have a4_5 : w5.cell? ⟨w.heap.size, 4, none⟩ = some (.bool q1) := by subst hW5; go_cell
  have a5_5 : w5.cell? ⟨w.heap.size, 5, none⟩ = some (.bool q2) := by subst hW5; go_cell
  have a6_5 : w5.cell? ⟨w.heap.size, 6, none⟩ = some (.bool q3) := by subst hW5; go_cell
  have a7_5 : w5.cell? ⟨w.heap.size, 7, none⟩ = some (.int .i64 i3) := by subst hW5; go_cell
  have a8_5 : w5.cell? ⟨w.heap.size, 8, none⟩ = some (.int .i64 i4) := by subst hW5; go_cell
  have a9_5 : w5.cell? ⟨w.heap.size, 9, none⟩ = some (.int .i64 i5) := by subst hW5; go_cell
  have a10_5 : w5.cell? ⟨w.heap.size, 10, none⟩ = some (.int .i64 i6) := by subst hW5; go_cell
  have a11_5 : w5.cell? ⟨w.heap.size, 11, none⟩ = some (.int .i64 i7) := by subst hW5; go_cell
  have a12_5 : w5.cell? ⟨w.heap.size, 12, none⟩ = some (.slice ao0 L0.length ac0) := by subst hW5; go_cell
  have a13_5 : w5.cell? ⟨w.heap.size, 13, none⟩ = some (.slice ao1 L1.length ac1) := by subst hW5; go_cell
  have r0_5 : w5.cell? ⟨w.heap.size + 1, 0, none⟩ = some (.int .i64 0) := by subst hW5; go_cell
  have rf0_5 : w5.frozen? ⟨w.heap.size + 1, 0, none⟩ = false := by subst hW5; (first | go_cell | (simp [World.frozen?, World.alloc]; done) | rfl)
  have r1_5 : w5.cell? ⟨w.heap.size + 1, 1, none⟩ = some (.int .i64 0) := by subst hW5; go_cell
  have rf1_5 : w5.frozen? ⟨w.heap.size + 1, 1, none⟩ = false := by subst hW5; (first | go_cell | (simp [World.frozen?, World.alloc]; done) | rfl)
  have r2_5 : w5.cell? ⟨w.heap.size + 1, 2, none⟩ = some (.int .i64 0) := by subst hW5; go_cell
  have rf2_5 : w5.frozen? ⟨w.heap.size + 1, 2, none⟩ = false := by subst hW5; (first | go_cell | (simp [World.frozen?, World.alloc]; done) | rfl)
  have r3_5 : w5.cell? ⟨w.heap.size + 1, 3, none⟩ = some (.bool false) := by subst hW5; go_cell
  have rf3_5 : w5.frozen? ⟨w.heap.size + 1, 3, none⟩ = false := by subst hW5; (first | go_cell | (simp [World.frozen?, World.alloc]; done) | rfl)
  have r4_5 : w5.cell? ⟨w.heap.size + 1, 4, none⟩ = some (.bool false) := by subst hW5; go_cell
  have rf4_5 : w5.frozen? ⟨w.heap.size + 1, 4, none⟩ = false := by subst hW5; (first | go_cell | (simp [World.frozen?, World.alloc]; done) | rfl)
  have r5_5 : w5.cell? ⟨w.heap.size + 1, 5, none⟩ = some (.bool false) := by subst hW5; go_cell
  have rf5_5 : w5.frozen? ⟨w.heap.size + 1, 5, none⟩ = false := by subst hW5; (first | go_cell | (simp [World.frozen?, World.alloc]; done) | rfl)
  have r6_5 : w5.cell? ⟨w.heap.size + 1, 6, none⟩ = some (.bool false) := by subst hW5; go_cell
  have rf6_5 : w5.frozen? ⟨w.heap.size + 1, 6, none⟩ = false := by subst hW5; (first | go_cell | (simp [World.frozen?, World.alloc]; done) | rfl)
  have r7_5 : w5.cell? ⟨w.heap.size + 1, 7, none⟩ = some (.int .i64 0) := by subst hW5; go_cell
  have rf7_5 : w5.frozen? ⟨w.heap.size + 1, 7, none⟩ = false := by subst hW5; (first | go_cell | (simp [World.frozen?, World.alloc]; done) | rfl)
  have r8_5 : w5.cell? ⟨w.heap.size + 1, 8, none⟩ = some (.int .i64 0) := by subst hW5; go_cell
  have rf8_5 : w5.frozen? ⟨w.heap.size + 1, 8, none⟩ = false := by subst hW5; (first | go_cell | (simp [World.frozen?, World.alloc]; done) | rfl)
  have r9_5 : w5.cell? ⟨w.heap.size + 1, 9, none⟩ = some (.int .i64 0) := by subst hW5; go_cell
  have rf9_5 : w5.frozen? ⟨w.heap.size + 1, 9, none⟩ = false := by subst hW5; (first | go_cell | (simp [World.frozen?, World.alloc]; done) | rfl)
  have r10_5 : w5.cell? ⟨w.heap.size + 1, 10, none⟩ = some (.int .i64 0) := by subst hW5; go_cell
  have rf10_5 : w5.frozen? ⟨w.heap.size + 1, 10, none⟩ = false := by subst hW5; (first | go_cell | (simp [World.frozen?, World.alloc]; done) | rfl)
  have r11_5 : w5.cell? ⟨w.heap.size + 1, 11, none⟩ = some (.int .i64 0) := by subst hW5; go_cell
  have rf11_5 : w5.frozen? ⟨w.heap.size + 1, 11, none⟩ = false := by subst hW5; (first | go_cell | (simp [World.frozen?, World.alloc]; done) | rfl)
  have r12_5 : w5.cell? ⟨w.heap.size + 1, 12, none⟩ = some (.slice none 0 0) := by subst hW5; go_cell
  have rf12_5 : w5.frozen? ⟨w.heap.size + 1, 12, none⟩ = false := by subst hW5; (first | go_cell | (simp [World.frozen?, World.alloc]; done) | rfl)
  have r13_5 : w5.cell? ⟨w.heap.size + 1, 13, none⟩ = some (.slice none 0 0) := by subst hW5; go_cell
  have rf13_5 : w5.frozen? ⟨w.heap.size + 1, 13, none⟩ = false := by subst hW5; (first | go_cell | (simp [World.frozen?, World.alloc]; done) | rfl)
  have o0_5 : w5.cell? ⟨w.heap.size + 1 + 1, 0, none⟩ = some (.int .i64 i0) := by subst hW5; go_cell
  have of0_5 : w5.frozen? ⟨w.heap.size + 1 + 1, 0, none⟩ = false := by subst hW5; (first | go_cell | (simp [World.frozen?, World.alloc]; done) | rfl)
  have o1_5 : w5.cell? ⟨w.heap.size + 1 + 1, 1, none⟩ = some (.int .i64 i1) := by subst hW5; go_cell
  have of1_5 : w5.frozen? ⟨w.heap.size + 1 + 1, 1, none⟩ = false := by subst hW5; (first | go_cell | (simp [World.frozen?, World.alloc]; done) | rfl)
  have o2_5 : w5.cell? ⟨w.heap.size + 1 + 1, 2, none⟩ = some (.int .i64 i2) := by subst hW5; go_cell
  have of2_5 : w5.frozen? ⟨w.heap.size + 1 + 1, 2, none⟩ = false := by subst hW5; (first | go_cell | (simp [World.frozen?, World.alloc]; done) | rfl)
  have o3_5 : w5.cell? ⟨w.heap.size + 1 + 1, 3, none⟩ = some (.bool q0) := by subst hW5; go_cell
  have of3_5 : w5.frozen? ⟨w.heap.size + 1 + 1, 3, none⟩ = false := by subst hW5; (first | go_cell | (simp [World.frozen?, World.alloc]; done) | rfl)
  have o4_5 : w5.cell? ⟨w.heap.size + 1 + 1, 4, none⟩ = some (.bool q1) := by subst hW5; go_cell
  have of4_5 : w5.frozen? ⟨w.heap.size + 1 + 1, 4, none⟩ = false := by subst hW5; (first | go_cell | (simp [World.frozen?, World.alloc]; done) | rfl)
  have o5_5 : w5.cell? ⟨w.heap.size + 1 + 1, 5, none⟩ = some (.bool q2) := by subst hW5; go_cell
  have of5_5 : w5.frozen? ⟨w.heap.size + 1 + 1, 5, none⟩ = false := by subst hW5; (first | go_cell | (simp [World.frozen?, World.alloc]; done) | rfl)
  have o6_5 : w5.cell? ⟨w.heap.size + 1 + 1, 6, none⟩ = some (.bool q3) := by subst hW5; go_cell
  have of6_5 : w5.frozen? ⟨w.heap.size + 1 + 1, 6, none⟩ = false := by subst hW5; (first | go_cell | (simp [World.frozen?, World.alloc]; done) | rfl)
  have o7_5 : w5.cell? ⟨w.heap.size + 1 + 1, 7, none⟩ = some (.int .i64 i3) := by subst hW5; go_cell
  have of7_5 : w5.frozen? ⟨w.heap.size + 1 + 1, 7, none⟩ = false := by subst hW5; (first | go_cell | (simp [World.frozen?, World.alloc]; done) | rfl)
  have o8_5 : w5.cell? ⟨w.heap.size + 1 + 1, 8, none⟩ = some (.int .i64 i4) := by subst hW5; go_cell
  have of8_5 : w5.frozen? ⟨w.heap.size + 1 + 1, 8, none⟩ = false := by subst hW5; (first | go_cell | (simp [World.frozen?, World.alloc]; done) | rfl)
  have o9_5 : w5.cell? ⟨w.heap.size + 1 + 1, 9, none⟩ = some (.int .i64 i5) := by subst hW5; go_cell
  have of9_5 : w5.frozen? ⟨w.heap.size + 1 + 1, 9, none⟩ = false := by subst hW5; (first | go_cell | (simp [World.frozen?, World.alloc]; done) | rfl)
  have o10_5 : w5.cell? ⟨w.heap.size + 1 + 1, 10, none⟩ = some (.int .i64 i6) := by subst hW5; go_cell
  have of10_5 : w5.frozen? ⟨w.heap.size + 1 + 1, 10, none⟩ = false := by subst hW5; (first | go_cell | (simp [World.frozen?, World.alloc]; done) | rfl)
  have o11_5 : w5.cell? ⟨w.heap.size + 1 + 1, 11, none⟩ = some (.int .i64 i7) := by subst hW5; go_cell
  have of11_5 : w5.frozen? ⟨w.heap.size + 1 + 1, 11, none⟩ = false := by subst hW5; (first | go_cell | (simp [World.frozen?, World.alloc]; done) | rfl)
  have o12_5 : w5.cell? ⟨w.heap.size + 1 + 1, 12, none⟩ = some (.slice none 0 0) := by subst hW5; go_cell
  have of12_5 : w5.frozen? ⟨w.heap.size + 1 + 1, 12, none⟩ = false := by subst hW5; (first | go_cell | (simp [World.frozen?, World.alloc]; done) | rfl)
  have o13_5 : w5.cell? ⟨w.heap.size + 1 + 1, 13, none⟩ = some (.slice none 0 0) := by subst hW5; go_cell
  have of13_5 : w5.frozen? ⟨w.heap.size + 1 + 1, 13, none⟩ = false := by subst hW5; (first | go_cell | (simp [World.frozen?, World.alloc]; done) | rfl)
  have c5 := c5'
  have s5 : w5.heap.size = w4.heap.size := by subst hW5; simp
  clear a0_4 a1_4 a2_4 a3_4 a4_4 a5_4 a6_4 a7_4 a8_4 a9_4 a10_4 a11_4 a12_4 a13_4 r0_4 r1_4 r2_4 r3_4 r4_4 r5_4 r6_4 r7_4 r8_4 r9_4 r10_4 r11_4 r12_4 r13_4 rf0_4 rf1_4 rf2_4 rf3_4 rf4_4 rf5_4 rf6_4 rf7_4 rf8_4 rf9_4 rf10_4 rf11_4 rf12_4 rf13_4 o0_4 o1_4 o2_4 o3_4 o4_4 o5_4 o6_4 o7_4 o8_4 o9_4 o10_4 o11_4 o12_4 o13_4 of0_4 of1_4 of2_4 of3_4 of4_4 of5_4 of6_4 of7_4 of8_4 of9_4 of10_4 of11_4 of12_4 of13_4 hW5 c5'
  have al_5 : w.heap.size < w5.heap.size := by omega
  have rl_5 : w.heap.size + 1 < w5.heap.size := by omega
  have ol_5 : w.heap.size + 1 + 1 < w5.heap.size := by omega
  refine (toCache_two _ _ L0 L1 _ (HA.out.later c5) HL.out).mono ?_
  rintro e w6 ⟨⟨xo0, xo1, xc0, xc1, rfl, ho⟩, b6⟩
  have HO := hid ho
  clear ho
  have hz6 : w5.heap.size ≤ w6.heap.size := b6.size
  have d6 : Below w5.heap.size w5 w6 := (Below.trans (by go_grown) (b6.mono (by first | omega | (simp; done) | (simp; omega))))
  have c6 : Below w.heap.size w w6 := c5.trans (d6.mono c5.size)
  have a0_6 : w6.cell? ⟨w.heap.size, 0, none⟩ = some (.int .i64 i0) := (by rw [b6.cell (by first | omega | (simp; done) | (simp; omega))]; go_cell)
  have a1_6 : w6.cell? ⟨w.heap.size, 1, none⟩ = some (.int .i64 i1) := (by rw [b6.cell (by first | omega | (simp; done) | (simp; omega))]; go_cell)
  have a2_6 : w6.cell? ⟨w.heap.size, 2, none⟩ = some (.int .i64 i2) := (by rw [b6.cell (by first | omega | (simp; done) | (simp; omega))]; go_cell)
  have a3_6 : w6.cell? ⟨w.heap.size, 3, none⟩ = some (.bool q0) := (by rw [b6.cell (by first | omega | (simp; done) | (simp; omega))]; go_cell)
  have a4_6 : w6.cell? ⟨w.heap.size, 4, none⟩ = some (.bool q1) := (by rw [b6.cell (by first | omega | (simp; done) | (simp; omega))]; go_cell)
  have a5_6 : w6.cell? ⟨w.heap.size, 5, none⟩ = some (.bool q2) := (by rw [b6.cell (by first | omega | (simp; done) | (simp; omega))]; go_cell)
  have a6_6 : w6.cell? ⟨w.heap.size, 6, none⟩ = some (.bool q3) := (by rw [b6.cell (by first | omega | (simp; done) | (simp; omega))]; go_cell)
  have a7_6 : w6.cell? ⟨w.heap.size, 7, none⟩ = some (.int .i64 i3) := (by rw [b6.cell (by first | omega | (simp; done) | (simp; omega))]; go_cell)
  have a8_6 : w6.cell? ⟨w.heap.size, 8, none⟩ = some (.int .i64 i4) := (by rw [b6.cell (by first | omega | (simp; done) | (simp; omega))]; go_cell)
  have a9_6 : w6.cell? ⟨w.heap.size, 9, none⟩ = some (.int .i64 i5) := (by rw [b6.cell (by first | omega | (simp; done) | (simp; omega))]; go_cell)
  have a10_6 : w6.cell? ⟨w.heap.size, 10, none⟩ = some (.int .i64 i6) := (by rw [b6.cell (by first | omega | (simp; done) | (simp; omega))]; go_cell)
  have a11_6 : w6.cell? ⟨w.heap.size, 11, none⟩ = some (.int .i64 i7) := (by rw [b6.cell (by first | omega | (simp; done) | (simp; omega))]; go_cell)
  have a12_6 : w6.cell? ⟨w.heap.size, 12, none⟩ = some (.slice ao0 L0.length ac0) := (by rw [b6.cell (by first | omega | (simp; done) | (simp; omega))]; go_cell)
  have a13_6 : w6.cell? ⟨w.heap.size, 13, none⟩ = some (.slice ao1 L1.length ac1) := (by rw [b6.cell (by first | omega | (simp; done) | (simp; omega))]; go_cell)
  have al_6 : w.heap.size < w6.heap.size := (by have := b6.size; first | omega | (revert this; simp; done) | (revert this; simp; omega))
  have r0_6 : w6.cell? ⟨w.heap.size + 1, 0, none⟩ = some (.int .i64 0) := (by rw [b6.cell (by first | omega | (simp; done) | (simp; omega))]; go_cell)
  have rf0_6 : w6.frozen? ⟨w.heap.size + 1, 0, none⟩ = false := (by rw [b6.frozen (by first | omega | (simp; done) | (simp; omega))]; (first | go_cell | (simp [World.frozen?, World.alloc]; done) | rfl))
  have r1_6 : w6.cell? ⟨w.heap.size + 1, 1, none⟩ = some (.int .i64 0) := (by rw [b6.cell (by first | omega | (simp; done) | (simp; omega))]; go_cell)
  have rf1_6 : w6.frozen? ⟨w.heap.size + 1, 1, none⟩ = false := (by rw [b6.frozen (by first | omega | (simp; done) | (simp; omega))]; (first | go_cell | (simp [World.frozen?, World.alloc]; done) | rfl))
  have r2_6 : w6.cell? ⟨w.heap.size + 1, 2, none⟩ = some (.int .i64 0) := (by rw [b6.cell (by first | omega | (simp; done) | (simp; omega))]; go_cell)
  have rf2_6 : w6.frozen? ⟨w.heap.size + 1, 2, none⟩ = false := (by rw [b6.frozen (by first | omega | (simp; done) | (simp; omega))]; (first | go_cell | (simp [World.frozen?, World.alloc]; done) | rfl))
  have r3_6 : w6.cell? ⟨w.heap.size + 1, 3, none⟩ = some (.bool false) := (by rw [b6.cell (by first | omega | (simp; done) | (simp; omega))]; go_cell)
  have rf3_6 : w6.frozen? ⟨w.heap.size + 1, 3, none⟩ = false := (by rw [b6.frozen (by first | omega | (simp; done) | (simp; omega))]; (first | go_cell | (simp [World.frozen?, World.alloc]; done) | rfl))
  have r4_6 : w6.cell? ⟨w.heap.size + 1, 4, none⟩ = some (.bool false) := (by rw [b6.cell (by first | omega | (simp; done) | (simp; omega))]; go_cell)
  have rf4_6 : w6.frozen? ⟨w.heap.size + 1, 4, none⟩ = false := (by rw [b6.frozen (by first | omega | (simp; done) | (simp; omega))]; (first | go_cell | (simp [World.frozen?, World.alloc]; done) | rfl))
  have r5_6 : w6.cell? ⟨w.heap.size + 1, 5, none⟩ = some (.bool false) := (by rw [b6.cell (by first | omega | (simp; done) | (simp; omega))]; go_cell)
  have rf5_6 : w6.frozen? ⟨w.heap.size + 1, 5, none⟩ = false := (by rw [b6.frozen (by first | omega | (simp; done) | (simp; omega))]; (first | go_cell | (simp [World.frozen?, World.alloc]; done) | rfl))
  have r6_6 : w6.cell? ⟨w.heap.size + 1, 6, none⟩ = some (.bool false) := (by rw [b6.cell (by first | omega | (simp; done) | (simp; omega))]; go_cell)
  have rf6_6 : w6.frozen? ⟨w.heap.size + 1, 6, none⟩ = false := (by rw [b6.frozen (by first | omega | (simp; done) | (simp; omega))]; (first | go_cell | (simp [World.frozen?, World.alloc]; done) | rfl))
  have r7_6 : w6.cell? ⟨w.heap.size + 1, 7, none⟩ = some (.int .i64 0) := (by rw [b6.cell (by first | omega | (simp; done) | (simp; omega))]; go_cell)
  have rf7_6 : w6.frozen? ⟨w.heap.size + 1, 7, none⟩ = false := (by rw [b6.frozen (by first | omega | (simp; done) | (simp; omega))]; (first | go_cell | (simp [World.frozen?, World.alloc]; done) | rfl))
  have r8_6 : w6.cell? ⟨w.heap.size + 1, 8, none⟩ = some (.int .i64 0) := (by rw [b6.cell (by first | omega | (simp; done) | (simp; omega))]; go_cell)
  have rf8_6 : w6.frozen? ⟨w.heap.size + 1, 8, none⟩ = false := (by rw [b6.frozen (by first | omega | (simp; done) | (simp; omega))]; (first | go_cell | (simp [World.frozen?, World.alloc]; done) | rfl))
  have r9_6 : w6.cell? ⟨w.heap.size + 1, 9, none⟩ = some (.int .i64 0) := (by rw [b6.cell (by first | omega | (simp; done) | (simp; omega))]; go_cell)
  have rf9_6 : w6.frozen? ⟨w.heap.size + 1, 9, none⟩ = false := (by rw [b6.frozen (by first | omega | (simp; done) | (simp; omega))]; (first | go_cell | (simp [World.frozen?, World.alloc]; done) | rfl))
  have r10_6 : w6.cell? ⟨w.heap.size + 1, 10, none⟩ = some (.int .i64 0) := (by rw [b6.cell (by first | omega | (simp; done) | (simp; omega))]; go_cell)
  have rf10_6 : w6.frozen? ⟨w.heap.size + 1, 10, none⟩ = false := (by rw [b6.frozen (by first | omega | (simp; done) | (simp; omega))]; (first | go_cell | (simp [World.frozen?, World.alloc]; done) | rfl))
  have r11_6 : w6.cell? ⟨w.heap.size + 1, 11, none⟩ = some (.int .i64 0) := (by rw [b6.cell (by first | omega | (simp; done) | (simp; omega))]; go_cell)
  have rf11_6 : w6.frozen? ⟨w.heap.size + 1, 11, none⟩ = false := (by rw [b6.frozen (by first | omega | (simp; done) | (simp; omega))]; (first | go_cell | (simp [World.frozen?, World.alloc]; done) | rfl))
  have r12_6 : w6.cell? ⟨w.heap.size + 1, 12, none⟩ = some (.slice none 0 0) := (by rw [b6.cell (by first | omega | (simp; done) | (simp; omega))]; go_cell)
  have rf12_6 : w6.frozen? ⟨w.heap.size + 1, 12, none⟩ = false := (by rw [b6.frozen (by first | omega | (simp; done) | (simp; omega))]; (first | go_cell | (simp [World.frozen?, World.alloc]; done) | rfl))
  have r13_6 : w6.cell? ⟨w.heap.size + 1, 13, none⟩ = some (.slice none 0 0) := (by rw [b6.cell (by first | omega | (simp; done) | (simp; omega))]; go_cell)
  have rf13_6 : w6.frozen? ⟨w.heap.size + 1, 13, none⟩ = false := (by rw [b6.frozen (by first | omega | (simp; done) | (simp; omega))]; (first | go_cell | (simp [World.frozen?, World.alloc]; done) | rfl))
  have rl_6 : w.heap.size + 1 < w6.heap.size := (by have := b6.size; first | omega | (revert this; simp; done) | (revert this; simp; omega))
  have o0_6 : w6.cell? ⟨w.heap.size + 1 + 1, 0, none⟩ = some (.int .i64 i0) := (by rw [b6.cell (by first | omega | (simp; done) | (simp; omega))]; go_cell)
  have of0_6 : w6.frozen? ⟨w.heap.size + 1 + 1, 0, none⟩ = false := (by rw [b6.frozen (by first | omega | (simp; done) | (simp; omega))]; (first | go_cell | (simp [World.frozen?, World.alloc]; done) | rfl))
  have o1_6 : w6.cell? ⟨w.heap.size + 1 + 1, 1, none⟩ = some (.int .i64 i1) := (by rw [b6.cell (by first | omega | (simp; done) | (simp; omega))]; go_cell)
  have of1_6 : w6.frozen? ⟨w.heap.size + 1 + 1, 1, none⟩ = false := (by rw [b6.frozen (by first | omega | (simp; done) | (simp; omega))]; (first | go_cell | (simp [World.frozen?, World.alloc]; done) | rfl))
  have o2_6 : w6.cell? ⟨w.heap.size + 1 + 1, 2, none⟩ = some (.int .i64 i2) := (by rw [b6.cell (by first | omega | (simp; done) | (simp; omega))]; go_cell)
  have of2_6 : w6.frozen? ⟨w.heap.size + 1 + 1, 2, none⟩ = false := (by rw [b6.frozen (by first | omega | (simp; done) | (simp; omega))]; (first | go_cell | (simp [World.frozen?, World.alloc]; done) | rfl))
  have o3_6 : w6.cell? ⟨w.heap.size + 1 + 1, 3, none⟩ = some (.bool q0) := (by rw [b6.cell (by first | omega | (simp; done) | (simp; omega))]; go_cell)
  have of3_6 : w6.frozen? ⟨w.heap.size + 1 + 1, 3, none⟩ = false := (by rw [b6.frozen (by first | omega | (simp; done) | (simp; omega))]; (first | go_cell | (simp [World.frozen?, World.alloc]; done) | rfl))
  have o4_6 : w6.cell? ⟨w.heap.size + 1 + 1, 4, none⟩ = some (.bool q1) := (by rw [b6.cell (by first | omega | (simp; done) | (simp; omega))]; go_cell)
  have of4_6 : w6.frozen? ⟨w.heap.size + 1 + 1, 4, none⟩ = false := (by rw [b6.frozen (by first | omega | (simp; done) | (simp; omega))]; (first | go_cell | (simp [World.frozen?, World.alloc]; done) | rfl))
  have o5_6 : w6.cell? ⟨w.heap.size + 1 + 1, 5, none⟩ = some (.bool q2) := (by rw [b6.cell (by first | omega | (simp; done) | (simp; omega))]; go_cell)
  have of5_6 : w6.frozen? ⟨w.heap.size + 1 + 1, 5, none⟩ = false := (by rw [b6.frozen (by first | omega | (simp; done) | (simp; omega))]; (first | go_cell | (simp [World.frozen?, World.alloc]; done) | rfl))
  have o6_6 : w6.cell? ⟨w.heap.size + 1 + 1, 6, none⟩ = some (.bool q3) := (by rw [b6.cell (by first | omega | (simp; done) | (simp; omega))]; go_cell)
  have of6_6 : w6.frozen? ⟨w.heap.size + 1 + 1, 6, none⟩ = false := (by rw [b6.frozen (by first | omega | (simp; done) | (simp; omega))]; (first | go_cell | (simp [World.frozen?, World.alloc]; done) | rfl))
  have o7_6 : w6.cell? ⟨w.heap.size + 1 + 1, 7, none⟩ = some (.int .i64 i3) := (by rw [b6.cell (by first | omega | (simp; done) | (simp; omega))]; go_cell)
  have of7_6 : w6.frozen? ⟨w.heap.size + 1 + 1, 7, none⟩ = false := (by rw [b6.frozen (by first | omega | (simp; done) | (simp; omega))]; (first | go_cell | (simp [World.frozen?, World.alloc]; done) | rfl))
  have o8_6 : w6.cell? ⟨w.heap.size + 1 + 1, 8, none⟩ = some (.int .i64 i4) := (by rw [b6.cell (by first | omega | (simp; done) | (simp; omega))]; go_cell)
  have of8_6 : w6.frozen? ⟨w.heap.size + 1 + 1, 8, none⟩ = false := (by rw [b6.frozen (by first | omega | (simp; done) | (simp; omega))]; (first | go_cell | (simp [World.frozen?, World.alloc]; done) | rfl))
  have o9_6 : w6.cell? ⟨w.heap.size + 1 + 1, 9, none⟩ = some (.int .i64 i5) := (by rw [b6.cell (by first | omega | (simp; done) | (simp; omega))]; go_cell)
  have of9_6 : w6.frozen? ⟨w.heap.size + 1 + 1, 9, none⟩ = false := (by rw [b6.frozen (by first | omega | (simp; done) | (simp; omega))]; (first | go_cell | (simp [World.frozen?, World.alloc]; done) | rfl))
  have o10_6 : w6.cell? ⟨w.heap.size + 1 + 1, 10, none⟩ = some (.int .i64 i6) := (by rw [b6.cell (by first | omega | (simp; done) | (simp; omega))]; go_cell)
  have of10_6 : w6.frozen? ⟨w.heap.size + 1 + 1, 10, none⟩ = false := (by rw [b6.frozen (by first | omega | (simp; done) | (simp; omega))]; (first | go_cell | (simp [World.frozen?, World.alloc]; done) | rfl))
  have o11_6 : w6.cell? ⟨w.heap.size + 1 + 1, 11, none⟩ = some (.int .i64 i7) := (by rw [b6.cell (by first | omega | (simp; done) | (simp; omega))]; go_cell)
  have of11_6 : w6.frozen? ⟨w.heap.size + 1 + 1, 11, none⟩ = false := (by rw [b6.frozen (by first | omega | (simp; done) | (simp; omega))]; (first | go_cell | (simp [World.frozen?, World.alloc]; done) | rfl))
  have o12_6 : w6.cell? ⟨w.heap.size + 1 + 1, 12, none⟩ = some (.slice none 0 0) := (by rw [b6.cell (by first | omega | (simp; done) | (simp; omega))]; go_cell)
  have of12_6 : w6.frozen? ⟨w.heap.size + 1 + 1, 12, none⟩ = false := (by rw [b6.frozen (by first | omega | (simp; done) | (simp; omega))]; (first | go_cell | (simp [World.frozen?, World.alloc]; done) | rfl))
  have o13_6 : w6.cell? ⟨w.heap.size + 1 + 1, 13, none⟩ = some (.slice none 0 0) := (by rw [b6.cell (by first | omega | (simp; done) | (simp; omega))]; go_cell)
  have of13_6 : w6.frozen? ⟨w.heap.size + 1 + 1, 13, none⟩ = false := (by rw [b6.frozen (by first | omega | (simp; done) | (simp; omega))]; (first | go_cell | (simp [World.frozen?, World.alloc]; done) | rfl))
  have ol_6 : w.heap.size + 1 + 1 < w6.heap.size := (by have := b6.size; first | omega | (revert this; simp; done) | (revert this; simp; omega))
  clear a0_5 a1_5 a2_5 a3_5 a4_5 a5_5 a6_5 a7_5 a8_5 a9_5 a10_5 a11_5 a12_5 a13_5 al_5 r0_5 rf0_5 r1_5 rf1_5 r2_5 rf2_5 r3_5 rf3_5 r4_5 rf4_5 r5_5 rf5_5 r6_5 rf6_5 r7_5 rf7_5 r8_5 rf8_5 r9_5 rf9_5 r10_5 rf10_5 r11_5 rf11_5 r12_5 rf12_5 r13_5 rf13_5 rl_5 o0_5 of0_5 o1_5 of1_5 o2_5 of2_5 o3_5 of3_5 o4_5 of4_5 o5_5 of5_5 o6_5 of6_5 o7_5 of7_5 o8_5 of8_5 o9_5 of9_5 o10_5 of10_5 o11_5 of11_5 o12_5 of12_5 o13_5 of13_5 ol_5
  clear b6 d6
  go_wp2
  have HF' := ((((((((((((((((HO.out.set (p := ⟨w.heap.size + 1 + 1, 12, none⟩) (by show w.heap.size + 1 + 1 < _; omega) (.slice xo0 L0.length xc0)).set (p := ⟨w.heap.size + 1 + 1, 13, none⟩) (by show w.heap.size + 1 + 1 < _; omega) (.slice xo1 L1.length xc1)).set (p := ⟨w.heap.size + 1, 0, none⟩) (by show w.heap.size + 1 < _; omega) (.int .i64 i0)).set (p := ⟨w.heap.size + 1, 1, none⟩) (by show w.heap.size + 1 < _; omega) (.int .i64 i1)).set (p := ⟨w.heap.size + 1, 2, none⟩) (by show w.heap.size + 1 < _; omega) (.int .i64 i2)).set (p := ⟨w.heap.size + 1, 3, none⟩) (by show w.heap.size + 1 < _; omega) (.bool q0)).set (p := ⟨w.heap.size + 1, 4, none⟩) (by show w.heap.size + 1 < _; omega) (.bool q1)).set (p := ⟨w.heap.size + 1, 5, none⟩) (by show w.heap.size + 1 < _; omega) (.bool q2)).set (p := ⟨w.heap.size + 1, 6, none⟩) (by show w.heap.size + 1 < _; omega) (.bool q3)).set (p := ⟨w.heap.size + 1, 7, none⟩) (by show w.heap.size + 1 < _; omega) (.int .i64 i3)).set (p := ⟨w.heap.size + 1, 8, none⟩) (by show w.heap.size + 1 < _; omega) (.int .i64 i4)).set (p := ⟨w.heap.size + 1, 9, none⟩) (by show w.heap.size + 1 < _; omega) (.int .i64 i5)).set (p := ⟨w.heap.size + 1, 10, none⟩) (by show w.heap.size + 1 < _; omega) (.int .i64 i6)).set (p := ⟨w.heap.size + 1, 11, none⟩) (by show w.heap.size + 1 < _; omega) (.int .i64 i7)).set (p := ⟨w.heap.size + 1, 12, none⟩) (by show w.heap.size + 1 < _; omega) (.slice xo0 L0.length xc0)).set (p := ⟨w.heap.size + 1, 13, none⟩) (by show w.heap.size + 1 < _; omega) (.slice xo1 L1.length xc1))
  have HB' := ((((((((((((((((c6.setCell (p := ⟨w.heap.size + 1 + 1, 12, none⟩) (by show w.heap.size ≤ w.heap.size + 1 + 1; omega) (.slice xo0 L0.length xc0)).setCell (p := ⟨w.heap.size + 1 + 1, 13, none⟩) (by show w.heap.size ≤ w.heap.size + 1 + 1; omega) (.slice xo1 L1.length xc1)).setCell (p := ⟨w.heap.size + 1, 0, none⟩) (by show w.heap.size ≤ w.heap.size + 1; omega) (.int .i64 i0)).setCell (p := ⟨w.heap.size + 1, 1, none⟩) (by show w.heap.size ≤ w.heap.size + 1; omega) (.int .i64 i1)).setCell (p := ⟨w.heap.size + 1, 2, none⟩) (by show w.heap.size ≤ w.heap.size + 1; omega) (.int .i64 i2)).setCell (p := ⟨w.heap.size + 1, 3, none⟩) (by show w.heap.size ≤ w.heap.size + 1; omega) (.bool q0)).setCell (p := ⟨w.heap.size + 1, 4, none⟩) (by show w.heap.size ≤ w.heap.size + 1; omega) (.bool q1)).setCell (p := ⟨w.heap.size + 1, 5, none⟩) (by show w.heap.size ≤ w.heap.size + 1; omega) (.bool q2)).setCell (p := ⟨w.heap.size + 1, 6, none⟩) (by show w.heap.size ≤ w.heap.size + 1; omega) (.bool q3)).setCell (p := ⟨w.heap.size + 1, 7, none⟩) (by show w.heap.size ≤ w.heap.size + 1; omega) (.int .i64 i3)).setCell (p := ⟨w.heap.size + 1, 8, none⟩) (by show w.heap.size ≤ w.heap.size + 1; omega) (.int .i64 i4)).setCell (p := ⟨w.heap.size + 1, 9, none⟩) (by show w.heap.size ≤ w.heap.size + 1; omega) (.int .i64 i5)).setCell (p := ⟨w.heap.size + 1, 10, none⟩) (by show w.heap.size ≤ w.heap.size + 1; omega) (.int .i64 i6)).setCell (p := ⟨w.heap.size + 1, 11, none⟩) (by show w.heap.size ≤ w.heap.size + 1; omega) (.int .i64 i7)).setCell (p := ⟨w.heap.size + 1, 12, none⟩) (by show w.heap.size ≤ w.heap.size + 1; omega) (.slice xo0 L0.length xc0)).setCell (p := ⟨w.heap.size + 1, 13, none⟩) (by show w.heap.size ≤ w.heap.size + 1; omega) (.slice xo1 L1.length xc1))
  generalize hW7 : ((((((((((((((((w6.setCell ⟨w.heap.size + 1 + 1, 12, none⟩ (.slice xo0 L0.length xc0)).setCell ⟨w.heap.size + 1 + 1, 13, none⟩ (.slice xo1 L1.length xc1)).setCell ⟨w.heap.size + 1, 0, none⟩ (.int .i64 i0)).setCell ⟨w.heap.size + 1, 1, none⟩ (.int .i64 i1)).setCell ⟨w.heap.size + 1, 2, none⟩ (.int .i64 i2)).setCell ⟨w.heap.size + 1, 3, none⟩ (.bool q0)).setCell ⟨w.heap.size + 1, 4, none⟩ (.bool q1)).setCell ⟨w.heap.size + 1, 5, none⟩ (.bool q2)).setCell ⟨w.heap.size + 1, 6, none⟩ (.bool q3)).setCell ⟨w.heap.size + 1, 7, none⟩ (.int .i64 i3)).setCell ⟨w.heap.size + 1, 8, none⟩ (.int .i64 i4)).setCell ⟨w.heap.size + 1, 9, none⟩ (.int .i64 i5)).setCell ⟨w.heap.size + 1, 10, none⟩ (.int .i64 i6)).setCell ⟨w.heap.size + 1, 11, none⟩ (.int .i64 i7)).setCell ⟨w.heap.size + 1, 12, none⟩ (.slice xo0 L0.length xc0)).setCell ⟨w.heap.size + 1, 13, none⟩ (.slice xo1 L1.length xc1)) = w7 at HF' HB' ⊢
  have e0 : w7.cell? ⟨w.heap.size + 1, 0, none⟩ = some (.int .i64 i0) := by subst hW7; go_cell
  have e1 : w7.cell? ⟨w.heap.size + 1, 1, none⟩ = some (.int .i64 i1) := by subst hW7; go_cell
  have e2 : w7.cell? ⟨w.heap.size + 1, 2, none⟩ = some (.int .i64 i2) := by subst hW7; go_cell
  have e3 : w7.cell? ⟨w.heap.size + 1, 3, none⟩ = some (.bool q0) := by subst hW7; go_cell
  have e4 : w7.cell? ⟨w.heap.size + 1, 4, none⟩ = some (.bool q1) := by subst hW7; go_cell
  have e5 : w7.cell? ⟨w.heap.size + 1, 5, none⟩ = some (.bool q2) := by subst hW7; go_cell
  have e6 : w7.cell? ⟨w.heap.size + 1, 6, none⟩ = some (.bool q3) := by subst hW7; go_cell
  have e7 : w7.cell? ⟨w.heap.size + 1, 7, none⟩ = some (.int .i64 i3) := by subst hW7; go_cell
  have e8 : w7.cell? ⟨w.heap.size + 1, 8, none⟩ = some (.int .i64 i4) := by subst hW7; go_cell
  have e9 : w7.cell? ⟨w.heap.size + 1, 9, none⟩ = some (.int .i64 i5) := by subst hW7; go_cell
  have e10 : w7.cell? ⟨w.heap.size + 1, 10, none⟩ = some (.int .i64 i6) := by subst hW7; go_cell
  have e11 : w7.cell? ⟨w.heap.size + 1, 11, none⟩ = some (.int .i64 i7) := by subst hW7; go_cell
  have e12 : w7.cell? ⟨w.heap.size + 1, 12, none⟩ = some (.slice xo0 L0.length xc0) := by subst hW7; go_cell
  have e13 : w7.cell? ⟨w.heap.size + 1, 13, none⟩ = some (.slice xo1 L1.length xc1) := by subst hW7; go_cell
  clear hW7
  exact bodyPost_ret (v := .agg #[.int .i64 i0, .int .i64 i1, .int .i64 i2, .bool q0, .bool q1, .bool q2, .bool q3, .int .i64 i3, .int .i64 i4, .int .i64 i5, .int .i64 i6, .int .i64 i7, .slice xo0 L0.length xc0, .slice xo1 L1.length xc1]) (by simp [results, Tryz.results10, go_sem, e0, e1, e2, e3, e4, e5, e6, e7, e8, e9, e10, e11, e12, e13]) rfl ⟨⟨xo0, xo1, xc0, xc1, rfl, HF'.rd, HF'.wide (by omega)⟩, HB'⟩
end Go.Proofs.YtddpoheoecafjaaGreat
