/- Both TierOk: contracts. Written by a program (gqc.py). -/
import Derived.Test.YtddpoheoecafjaaGreatQb
namespace Go.Proofs.YtddpoheoecafjaaGreat
open Go.RowKit
attribute [local go_sem ↓] Go.wp_at_zero Go.wp_at_succ

theorem reqRight_is {a b c : Int} {r : Bool} (h : reqR a b c = r) (w : World) : Calls Tryz.prog 37 #[.agg #[.int .i64 a, .int .i64 b, .int .i64 c]] w fun e w' => e = .returned (.bool r) ∧ Below w.heap.size w w' := h ▸ reqRight_any a b c w
theorem askR_is {q2 q3 : Bool} {i3 i4 i5 i6 i7 i2 : Int} {r : Bool} (h : askR q2 q3 i3 i4 i5 i6 i7 i2 = r) (w : World) : Calls Tryz.prog 38 #[.agg #[.bool q2, .bool q3, .int .i64 i3, .int .i64 i4, .int .i64 i5, .int .i64 i6, .int .i64 i7], .int .i64 i2] w fun e w' => e = .returned (.bool r) ∧ Below w.heap.size w w' := h ▸ askR_any q2 q3 i3 i4 i5 i6 i7 i2 w
theorem implCOk_is {v0 v1 : Value} {I F : List KD} {r : Bool} (h : okC I F = r) (w : World) (hR : RSCache w v0 v1 I F) : Calls Tryz.prog 40 #[.agg #[v0, v1]] w fun e w' => e = .returned (.bool r) ∧ Below w.heap.size w w' := h ▸ implCOk_any v0 v1 I F w hR.h0 hR.h1
theorem specCOk_is {v0 v1 : Value} {I F : List KD} {r : Bool} (h : okC I F = r) (w : World) (hR : RSCache w v0 v1 I F) : Calls Tryz.prog 31 #[.agg #[v0, v1]] w fun e w' => e = .returned (.bool r) ∧ Below w.heap.size w w' := h ▸ specCOk_any v0 v1 I F w hR.h0 hR.h1
theorem okT_of {i0 i1 i2 : Int} {q2 q3 : Bool} {i3 i4 i5 i6 i7 : Int} {q0 q1 : Bool} {I F : List KD} (hr : reqR i0 i1 i2 = true) (h1 : decide (i1 ≤ 1000) = true) (h2 : decide (i2 ≤ 1000) = true) (ha : askR q2 q3 i3 i4 i5 i6 i7 i2 = true) {c : Bool} (hc : okC I F = c) :
    okT i0 i1 i2 q0 q1 q2 q3 i3 i4 i5 i6 i7 I F = c := by
  simp only [reqR, decide_eq_true_eq] at hr h1 h2
  have : decide (0 ≤ i0 ∧ i0 < 2 ∧ 0 ≤ i1 ∧ i1 ≤ 1000 ∧ 0 ≤ i2 ∧ i2 ≤ 1000) = true := by simp; omega
  rw [okT, this, ha, hc]; rfl
theorem okT_not {i0 i1 i2 : Int} {q2 q3 : Bool} {i3 i4 i5 i6 i7 : Int} {q0 q1 : Bool} {I F : List KD} (h : reqR i0 i1 i2 = false ∨ decide (i1 ≤ 1000) = false ∨ decide (i2 ≤ 1000) = false ∨ askR q2 q3 i3 i4 i5 i6 i7 i2 = false) :
    okT i0 i1 i2 q0 q1 q2 q3 i3 i4 i5 i6 i7 I F = false := by
  rcases h with h | h | h | h
  · have : decide (0 ≤ i0 ∧ i0 < 2 ∧ 0 ≤ i1 ∧ i1 ≤ 1000 ∧ 0 ≤ i2 ∧ i2 ≤ 1000) = false := by simp [reqR] at h ⊢; omega
    rw [okT, this]; rfl
  · have : decide (0 ≤ i0 ∧ i0 < 2 ∧ 0 ≤ i1 ∧ i1 ≤ 1000 ∧ 0 ≤ i2 ∧ i2 ≤ 1000) = false := by simp at h ⊢; omega
    rw [okT, this]; rfl
  · have : decide (0 ≤ i0 ∧ i0 < 2 ∧ 0 ≤ i1 ∧ i1 ≤ 1000 ∧ 0 ≤ i2 ∧ i2 ≤ 1000) = false := by simp at h ⊢; omega
    rw [okT, this]; rfl
  · rw [okT, h]; simp
set_option maxRecDepth 100000 in
set_option maxHeartbeats 2000000 in
theorem implTOk_0 (i0 i1 i2 : Int) (q0 q1 q2 q3 : Bool) (i3 i4 i5 i6 i7 : Int) (va0 va1 : Value) (I F : List KD) (w : World) (ha : RSCache w va0 va1 I F) (hr : reqR i0 i1 i2 = false) : Calls Tryz.prog 11 #[.agg #[.int .i64 i0, .int .i64 i1, .int .i64 i2, .bool q0, .bool q1, .bool q2, .bool q3, .int .i64 i3, .int .i64 i4, .int .i64 i5, .int .i64 i6, .int .i64 i7, va0, va1]] w fun e w' => e = .returned (.bool false) ∧ Below w.heap.size w w' := by
  have HR := hid hr
  clear hr
  have HA := hid ha
  obtain ⟨ao0, ao1, ac0, ac1, rfl, rfl⟩ := ha.open
  clear ha
  go_enter Tryz.func11, Tryz.ntmps11
  go_wp2_with fail
  generalize hW1 : (w.alloc (.cells #[.int .i64 i0, .int .i64 i1, .int .i64 i2, .bool q0, .bool q1, .bool q2, .bool q3, .int .i64 i3, .int .i64 i4, .int .i64 i5, .int .i64 i6, .int .i64 i7, .slice ao0 I.length ac0, .slice ao1 F.length ac1] 38)) = w1
  have a0_1 : w1.cell? ⟨w.heap.size, 0, none⟩ = some (.int .i64 i0) := by subst hW1; go_cell
  have a1_1 : w1.cell? ⟨w.heap.size, 1, none⟩ = some (.int .i64 i1) := by subst hW1; go_cell
  have a2_1 : w1.cell? ⟨w.heap.size, 2, none⟩ = some (.int .i64 i2) := by subst hW1; go_cell
  have a3_1 : w1.cell? ⟨w.heap.size, 3, none⟩ = some (.bool q0) := by subst hW1; go_cell
  have a4_1 : w1.cell? ⟨w.heap.size, 4, none⟩ = some (.bool q1) := by subst hW1; go_cell
  have a5_1 : w1.cell? ⟨w.heap.size, 5, none⟩ = some (.bool q2) := by subst hW1; go_cell
  have a6_1 : w1.cell? ⟨w.heap.size, 6, none⟩ = some (.bool q3) := by subst hW1; go_cell
  have a7_1 : w1.cell? ⟨w.heap.size, 7, none⟩ = some (.int .i64 i3) := by subst hW1; go_cell
  have a8_1 : w1.cell? ⟨w.heap.size, 8, none⟩ = some (.int .i64 i4) := by subst hW1; go_cell
  have a9_1 : w1.cell? ⟨w.heap.size, 9, none⟩ = some (.int .i64 i5) := by subst hW1; go_cell
  have a10_1 : w1.cell? ⟨w.heap.size, 10, none⟩ = some (.int .i64 i6) := by subst hW1; go_cell
  have a11_1 : w1.cell? ⟨w.heap.size, 11, none⟩ = some (.int .i64 i7) := by subst hW1; go_cell
  have a12_1 : w1.cell? ⟨w.heap.size, 12, none⟩ = some (.slice ao0 I.length ac0) := by subst hW1; go_cell
  have a13_1 : w1.cell? ⟨w.heap.size, 13, none⟩ = some (.slice ao1 F.length ac1) := by subst hW1; go_cell
  have al_1 : w.heap.size < w1.heap.size := by subst hW1; first | (simp; done) | (simp; omega)
  have c1 : Below w.heap.size w w1 := by subst hW1; go_grown
  have s1 : w1.heap.size = w.heap.size + 1 := by subst hW1; simp
  clear hW1
  have qa0_1 := cell_regrown a0_1
  have qa1_1 := cell_regrown a1_1
  have qa2_1 := cell_regrown a2_1
  have qa3_1 := cell_regrown a3_1
  have qa4_1 := cell_regrown a4_1
  have qa5_1 := cell_regrown a5_1
  have qa6_1 := cell_regrown a6_1
  have qa7_1 := cell_regrown a7_1
  have qa8_1 := cell_regrown a8_1
  have qa9_1 := cell_regrown a9_1
  have qa10_1 := cell_regrown a10_1
  have qa11_1 := cell_regrown a11_1
  have qa12_1 := cell_regrown a12_1
  have qa13_1 := cell_regrown a13_1
  have HA1 := hid (HA.out.later c1)
  have r0 := cell_regrown a0_1
  have r1 := cell_regrown a1_1
  have r2 := cell_regrown a2_1
  have r3 := cell_regrown a3_1
  have r4 := cell_regrown a4_1
  have r5 := cell_regrown a5_1
  have r6 := cell_regrown a6_1
  have r7 := cell_regrown a7_1
  have r8 := cell_regrown a8_1
  have r9 := cell_regrown a9_1
  have r10 := cell_regrown a10_1
  have r11 := cell_regrown a11_1
  have r12 := cell_regrown a12_1
  have r13 := cell_regrown a13_1
  refine wp_region_quiet_below (by kernel_rfl) (by kernel_rfl) ?_
  repeat (first | go_big_quiet_skip | (go_big_quiet_want; go_big_quiet_op; first | go_big_quiet_on | go_big_quiet_call (first | (go_at_call 37; exact Calls.regrown_of (reqRight_is HR.out _)))))
  refine wpQuiet_nil ?_
  rintro wq ⟨pq, hwq⟩
  have hq : Below w1.heap.size w1 wq := by rw [hwq]; exact below_regrown _ _ _
  clear hwq pq
  clear r0 r1 r2 r3 r4 r5 r6 r7 r8 r9 r10 r11 r12 r13
  have cq := c1.trans (hq.mono c1.size)
  go_wp2
  go_ret
  exact ⟨by simp, cq⟩
set_option maxRecDepth 100000 in
set_option maxHeartbeats 2000000 in
theorem implTOk_1 (i0 i1 i2 : Int) (q0 q1 q2 q3 : Bool) (i3 i4 i5 i6 i7 : Int) (va0 va1 : Value) (I F : List KD) (w : World) (ha : RSCache w va0 va1 I F) (hr : reqR i0 i1 i2 = true) (h1 : decide (i1 ≤ 1000) = false) : Calls Tryz.prog 11 #[.agg #[.int .i64 i0, .int .i64 i1, .int .i64 i2, .bool q0, .bool q1, .bool q2, .bool q3, .int .i64 i3, .int .i64 i4, .int .i64 i5, .int .i64 i6, .int .i64 i7, va0, va1]] w fun e w' => e = .returned (.bool false) ∧ Below w.heap.size w w' := by
  have HR := hid hr
  clear hr
  have HA := hid ha
  obtain ⟨ao0, ao1, ac0, ac1, rfl, rfl⟩ := ha.open
  clear ha
  go_enter Tryz.func11, Tryz.ntmps11
  go_wp2_with fail
  generalize hW1 : (w.alloc (.cells #[.int .i64 i0, .int .i64 i1, .int .i64 i2, .bool q0, .bool q1, .bool q2, .bool q3, .int .i64 i3, .int .i64 i4, .int .i64 i5, .int .i64 i6, .int .i64 i7, .slice ao0 I.length ac0, .slice ao1 F.length ac1] 38)) = w1
  have a0_1 : w1.cell? ⟨w.heap.size, 0, none⟩ = some (.int .i64 i0) := by subst hW1; go_cell
  have a1_1 : w1.cell? ⟨w.heap.size, 1, none⟩ = some (.int .i64 i1) := by subst hW1; go_cell
  have a2_1 : w1.cell? ⟨w.heap.size, 2, none⟩ = some (.int .i64 i2) := by subst hW1; go_cell
  have a3_1 : w1.cell? ⟨w.heap.size, 3, none⟩ = some (.bool q0) := by subst hW1; go_cell
  have a4_1 : w1.cell? ⟨w.heap.size, 4, none⟩ = some (.bool q1) := by subst hW1; go_cell
  have a5_1 : w1.cell? ⟨w.heap.size, 5, none⟩ = some (.bool q2) := by subst hW1; go_cell
  have a6_1 : w1.cell? ⟨w.heap.size, 6, none⟩ = some (.bool q3) := by subst hW1; go_cell
  have a7_1 : w1.cell? ⟨w.heap.size, 7, none⟩ = some (.int .i64 i3) := by subst hW1; go_cell
  have a8_1 : w1.cell? ⟨w.heap.size, 8, none⟩ = some (.int .i64 i4) := by subst hW1; go_cell
  have a9_1 : w1.cell? ⟨w.heap.size, 9, none⟩ = some (.int .i64 i5) := by subst hW1; go_cell
  have a10_1 : w1.cell? ⟨w.heap.size, 10, none⟩ = some (.int .i64 i6) := by subst hW1; go_cell
  have a11_1 : w1.cell? ⟨w.heap.size, 11, none⟩ = some (.int .i64 i7) := by subst hW1; go_cell
  have a12_1 : w1.cell? ⟨w.heap.size, 12, none⟩ = some (.slice ao0 I.length ac0) := by subst hW1; go_cell
  have a13_1 : w1.cell? ⟨w.heap.size, 13, none⟩ = some (.slice ao1 F.length ac1) := by subst hW1; go_cell
  have al_1 : w.heap.size < w1.heap.size := by subst hW1; first | (simp; done) | (simp; omega)
  have c1 : Below w.heap.size w w1 := by subst hW1; go_grown
  have s1 : w1.heap.size = w.heap.size + 1 := by subst hW1; simp
  clear hW1
  have qa0_1 := cell_regrown a0_1
  have qa1_1 := cell_regrown a1_1
  have qa2_1 := cell_regrown a2_1
  have qa3_1 := cell_regrown a3_1
  have qa4_1 := cell_regrown a4_1
  have qa5_1 := cell_regrown a5_1
  have qa6_1 := cell_regrown a6_1
  have qa7_1 := cell_regrown a7_1
  have qa8_1 := cell_regrown a8_1
  have qa9_1 := cell_regrown a9_1
  have qa10_1 := cell_regrown a10_1
  have qa11_1 := cell_regrown a11_1
  have qa12_1 := cell_regrown a12_1
  have qa13_1 := cell_regrown a13_1
  have HA1 := hid (HA.out.later c1)
  have r0 := cell_regrown a0_1
  have r1 := cell_regrown a1_1
  have r2 := cell_regrown a2_1
  have r3 := cell_regrown a3_1
  have r4 := cell_regrown a4_1
  have r5 := cell_regrown a5_1
  have r6 := cell_regrown a6_1
  have r7 := cell_regrown a7_1
  have r8 := cell_regrown a8_1
  have r9 := cell_regrown a9_1
  have r10 := cell_regrown a10_1
  have r11 := cell_regrown a11_1
  have r12 := cell_regrown a12_1
  have r13 := cell_regrown a13_1
  refine wp_region_quiet_below (by kernel_rfl) (by kernel_rfl) ?_
  repeat (first | go_big_quiet_skip | (go_big_quiet_want; go_big_quiet_op; first | go_big_quiet_on | go_big_quiet_call (first | (go_at_call 37; exact Calls.regrown_of (reqRight_is HR.out _)))))
  refine wpQuiet_nil ?_
  rintro wq ⟨pq, hwq⟩
  have hq : Below w1.heap.size w1 wq := by rw [hwq]; exact below_regrown _ _ _
  clear hwq pq
  clear r0 r1 r2 r3 r4 r5 r6 r7 r8 r9 r10 r11 r12 r13
  have cq := c1.trans (hq.mono c1.size)
  go_wp2
  go_ret
  exact ⟨by simp, cq⟩
set_option maxRecDepth 100000 in
set_option maxHeartbeats 2000000 in
theorem implTOk_2 (i0 i1 i2 : Int) (q0 q1 q2 q3 : Bool) (i3 i4 i5 i6 i7 : Int) (va0 va1 : Value) (I F : List KD) (w : World) (ha : RSCache w va0 va1 I F) (hr : reqR i0 i1 i2 = true) (h1 : decide (i1 ≤ 1000) = true) (h2 : decide (i2 ≤ 1000) = false) : Calls Tryz.prog 11 #[.agg #[.int .i64 i0, .int .i64 i1, .int .i64 i2, .bool q0, .bool q1, .bool q2, .bool q3, .int .i64 i3, .int .i64 i4, .int .i64 i5, .int .i64 i6, .int .i64 i7, va0, va1]] w fun e w' => e = .returned (.bool false) ∧ Below w.heap.size w w' := by
  have HR := hid hr
  clear hr
  have HA := hid ha
  obtain ⟨ao0, ao1, ac0, ac1, rfl, rfl⟩ := ha.open
  clear ha
  go_enter Tryz.func11, Tryz.ntmps11
  go_wp2_with fail
  generalize hW1 : (w.alloc (.cells #[.int .i64 i0, .int .i64 i1, .int .i64 i2, .bool q0, .bool q1, .bool q2, .bool q3, .int .i64 i3, .int .i64 i4, .int .i64 i5, .int .i64 i6, .int .i64 i7, .slice ao0 I.length ac0, .slice ao1 F.length ac1] 38)) = w1
  have a0_1 : w1.cell? ⟨w.heap.size, 0, none⟩ = some (.int .i64 i0) := by subst hW1; go_cell
  have a1_1 : w1.cell? ⟨w.heap.size, 1, none⟩ = some (.int .i64 i1) := by subst hW1; go_cell
  have a2_1 : w1.cell? ⟨w.heap.size, 2, none⟩ = some (.int .i64 i2) := by subst hW1; go_cell
  have a3_1 : w1.cell? ⟨w.heap.size, 3, none⟩ = some (.bool q0) := by subst hW1; go_cell
  have a4_1 : w1.cell? ⟨w.heap.size, 4, none⟩ = some (.bool q1) := by subst hW1; go_cell
  have a5_1 : w1.cell? ⟨w.heap.size, 5, none⟩ = some (.bool q2) := by subst hW1; go_cell
  have a6_1 : w1.cell? ⟨w.heap.size, 6, none⟩ = some (.bool q3) := by subst hW1; go_cell
  have a7_1 : w1.cell? ⟨w.heap.size, 7, none⟩ = some (.int .i64 i3) := by subst hW1; go_cell
  have a8_1 : w1.cell? ⟨w.heap.size, 8, none⟩ = some (.int .i64 i4) := by subst hW1; go_cell
  have a9_1 : w1.cell? ⟨w.heap.size, 9, none⟩ = some (.int .i64 i5) := by subst hW1; go_cell
  have a10_1 : w1.cell? ⟨w.heap.size, 10, none⟩ = some (.int .i64 i6) := by subst hW1; go_cell
  have a11_1 : w1.cell? ⟨w.heap.size, 11, none⟩ = some (.int .i64 i7) := by subst hW1; go_cell
  have a12_1 : w1.cell? ⟨w.heap.size, 12, none⟩ = some (.slice ao0 I.length ac0) := by subst hW1; go_cell
  have a13_1 : w1.cell? ⟨w.heap.size, 13, none⟩ = some (.slice ao1 F.length ac1) := by subst hW1; go_cell
  have al_1 : w.heap.size < w1.heap.size := by subst hW1; first | (simp; done) | (simp; omega)
  have c1 : Below w.heap.size w w1 := by subst hW1; go_grown
  have s1 : w1.heap.size = w.heap.size + 1 := by subst hW1; simp
  clear hW1
  have qa0_1 := cell_regrown a0_1
  have qa1_1 := cell_regrown a1_1
  have qa2_1 := cell_regrown a2_1
  have qa3_1 := cell_regrown a3_1
  have qa4_1 := cell_regrown a4_1
  have qa5_1 := cell_regrown a5_1
  have qa6_1 := cell_regrown a6_1
  have qa7_1 := cell_regrown a7_1
  have qa8_1 := cell_regrown a8_1
  have qa9_1 := cell_regrown a9_1
  have qa10_1 := cell_regrown a10_1
  have qa11_1 := cell_regrown a11_1
  have qa12_1 := cell_regrown a12_1
  have qa13_1 := cell_regrown a13_1
  have HA1 := hid (HA.out.later c1)
  have r0 := cell_regrown a0_1
  have r1 := cell_regrown a1_1
  have r2 := cell_regrown a2_1
  have r3 := cell_regrown a3_1
  have r4 := cell_regrown a4_1
  have r5 := cell_regrown a5_1
  have r6 := cell_regrown a6_1
  have r7 := cell_regrown a7_1
  have r8 := cell_regrown a8_1
  have r9 := cell_regrown a9_1
  have r10 := cell_regrown a10_1
  have r11 := cell_regrown a11_1
  have r12 := cell_regrown a12_1
  have r13 := cell_regrown a13_1
  refine wp_region_quiet_below (by kernel_rfl) (by kernel_rfl) ?_
  repeat (first | go_big_quiet_skip | (go_big_quiet_want; go_big_quiet_op; first | go_big_quiet_on | go_big_quiet_call (first | (go_at_call 37; exact Calls.regrown_of (reqRight_is HR.out _)))))
  refine wpQuiet_nil ?_
  rintro wq ⟨pq, hwq⟩
  have hq : Below w1.heap.size w1 wq := by rw [hwq]; exact below_regrown _ _ _
  clear hwq pq
  clear r0 r1 r2 r3 r4 r5 r6 r7 r8 r9 r10 r11 r12 r13
  have cq := c1.trans (hq.mono c1.size)
  go_wp2
  go_ret
  exact ⟨by simp, cq⟩
set_option maxRecDepth 100000 in
set_option maxHeartbeats 2000000 in
theorem implTOk_3 (i0 i1 i2 : Int) (q0 q1 q2 q3 : Bool) (i3 i4 i5 i6 i7 : Int) (va0 va1 : Value) (I F : List KD) (w : World) (ha : RSCache w va0 va1 I F) (hr : reqR i0 i1 i2 = true) (h1 : decide (i1 ≤ 1000) = true) (h2 : decide (i2 ≤ 1000) = true) (hk : askR q2 q3 i3 i4 i5 i6 i7 i2 = false) : Calls Tryz.prog 11 #[.agg #[.int .i64 i0, .int .i64 i1, .int .i64 i2, .bool q0, .bool q1, .bool q2, .bool q3, .int .i64 i3, .int .i64 i4, .int .i64 i5, .int .i64 i6, .int .i64 i7, va0, va1]] w fun e w' => e = .returned (.bool false) ∧ Below w.heap.size w w' := by
  have HR := hid hr
  have HK := hid hk
  clear hr hk
  have HA := hid ha
  obtain ⟨ao0, ao1, ac0, ac1, rfl, rfl⟩ := ha.open
  clear ha
  go_enter Tryz.func11, Tryz.ntmps11
  go_wp2_with fail
  generalize hW1 : (w.alloc (.cells #[.int .i64 i0, .int .i64 i1, .int .i64 i2, .bool q0, .bool q1, .bool q2, .bool q3, .int .i64 i3, .int .i64 i4, .int .i64 i5, .int .i64 i6, .int .i64 i7, .slice ao0 I.length ac0, .slice ao1 F.length ac1] 38)) = w1
  have a0_1 : w1.cell? ⟨w.heap.size, 0, none⟩ = some (.int .i64 i0) := by subst hW1; go_cell
  have a1_1 : w1.cell? ⟨w.heap.size, 1, none⟩ = some (.int .i64 i1) := by subst hW1; go_cell
  have a2_1 : w1.cell? ⟨w.heap.size, 2, none⟩ = some (.int .i64 i2) := by subst hW1; go_cell
  have a3_1 : w1.cell? ⟨w.heap.size, 3, none⟩ = some (.bool q0) := by subst hW1; go_cell
  have a4_1 : w1.cell? ⟨w.heap.size, 4, none⟩ = some (.bool q1) := by subst hW1; go_cell
  have a5_1 : w1.cell? ⟨w.heap.size, 5, none⟩ = some (.bool q2) := by subst hW1; go_cell
  have a6_1 : w1.cell? ⟨w.heap.size, 6, none⟩ = some (.bool q3) := by subst hW1; go_cell
  have a7_1 : w1.cell? ⟨w.heap.size, 7, none⟩ = some (.int .i64 i3) := by subst hW1; go_cell
  have a8_1 : w1.cell? ⟨w.heap.size, 8, none⟩ = some (.int .i64 i4) := by subst hW1; go_cell
  have a9_1 : w1.cell? ⟨w.heap.size, 9, none⟩ = some (.int .i64 i5) := by subst hW1; go_cell
  have a10_1 : w1.cell? ⟨w.heap.size, 10, none⟩ = some (.int .i64 i6) := by subst hW1; go_cell
  have a11_1 : w1.cell? ⟨w.heap.size, 11, none⟩ = some (.int .i64 i7) := by subst hW1; go_cell
  have a12_1 : w1.cell? ⟨w.heap.size, 12, none⟩ = some (.slice ao0 I.length ac0) := by subst hW1; go_cell
  have a13_1 : w1.cell? ⟨w.heap.size, 13, none⟩ = some (.slice ao1 F.length ac1) := by subst hW1; go_cell
  have al_1 : w.heap.size < w1.heap.size := by subst hW1; first | (simp; done) | (simp; omega)
  have c1 : Below w.heap.size w w1 := by subst hW1; go_grown
  have s1 : w1.heap.size = w.heap.size + 1 := by subst hW1; simp
  clear hW1
  have qa0_1 := cell_regrown a0_1
  have qa1_1 := cell_regrown a1_1
  have qa2_1 := cell_regrown a2_1
  have qa3_1 := cell_regrown a3_1
  have qa4_1 := cell_regrown a4_1
  have qa5_1 := cell_regrown a5_1
  have qa6_1 := cell_regrown a6_1
  have qa7_1 := cell_regrown a7_1
  have qa8_1 := cell_regrown a8_1
  have qa9_1 := cell_regrown a9_1
  have qa10_1 := cell_regrown a10_1
  have qa11_1 := cell_regrown a11_1
  have qa12_1 := cell_regrown a12_1
  have qa13_1 := cell_regrown a13_1
  have HA1 := hid (HA.out.later c1)
  have r0 := cell_regrown a0_1
  have r1 := cell_regrown a1_1
  have r2 := cell_regrown a2_1
  have r3 := cell_regrown a3_1
  have r4 := cell_regrown a4_1
  have r5 := cell_regrown a5_1
  have r6 := cell_regrown a6_1
  have r7 := cell_regrown a7_1
  have r8 := cell_regrown a8_1
  have r9 := cell_regrown a9_1
  have r10 := cell_regrown a10_1
  have r11 := cell_regrown a11_1
  have r12 := cell_regrown a12_1
  have r13 := cell_regrown a13_1
  refine wp_region_quiet_below (by kernel_rfl) (by kernel_rfl) ?_
  repeat (first | go_big_quiet_skip | (go_big_quiet_want; go_big_quiet_op; first | go_big_quiet_on | go_big_quiet_call (first | (go_at_call 37; exact Calls.regrown_of (reqRight_is HR.out _)) | (go_at_call 39; exact Calls.regrown_of (askedOf_any i0 i1 i2 q0 q1 q2 q3 i3 i4 i5 i6 i7 _ _ _)) | (go_at_call 38; exact Calls.regrown_of (askR_is HK.out _)))))
  refine wpQuiet_nil ?_
  rintro wq ⟨pq, hwq⟩
  have hq : Below w1.heap.size w1 wq := by rw [hwq]; exact below_regrown _ _ _
  clear hwq pq
  clear r0 r1 r2 r3 r4 r5 r6 r7 r8 r9 r10 r11 r12 r13
  have cq := c1.trans (hq.mono c1.size)
  go_wp2
  go_ret
  exact ⟨by simp, cq⟩
set_option maxRecDepth 100000 in
set_option maxHeartbeats 2000000 in
theorem implTOk_4 (i0 i1 i2 : Int) (q0 q1 q2 q3 : Bool) (i3 i4 i5 i6 i7 : Int) (va0 va1 : Value) (I F : List KD) (w : World) (ha : RSCache w va0 va1 I F) (hr : reqR i0 i1 i2 = true) (h1 : decide (i1 ≤ 1000) = true) (h2 : decide (i2 ≤ 1000) = true) (hk : askR q2 q3 i3 i4 i5 i6 i7 i2 = true) (c : Bool) (hc : okC I F = c) : Calls Tryz.prog 11 #[.agg #[.int .i64 i0, .int .i64 i1, .int .i64 i2, .bool q0, .bool q1, .bool q2, .bool q3, .int .i64 i3, .int .i64 i4, .int .i64 i5, .int .i64 i6, .int .i64 i7, va0, va1]] w fun e w' => e = .returned (.bool c) ∧ Below w.heap.size w w' := by
  have HR := hid hr
  have HK := hid hk
  have HC := hid hc
  clear hr hk hc
  have HA := hid ha
  obtain ⟨ao0, ao1, ac0, ac1, rfl, rfl⟩ := ha.open
  clear ha
  go_enter Tryz.func11, Tryz.ntmps11
  go_wp2_with fail
  generalize hW1 : (w.alloc (.cells #[.int .i64 i0, .int .i64 i1, .int .i64 i2, .bool q0, .bool q1, .bool q2, .bool q3, .int .i64 i3, .int .i64 i4, .int .i64 i5, .int .i64 i6, .int .i64 i7, .slice ao0 I.length ac0, .slice ao1 F.length ac1] 38)) = w1
  have a0_1 : w1.cell? ⟨w.heap.size, 0, none⟩ = some (.int .i64 i0) := by subst hW1; go_cell
  have a1_1 : w1.cell? ⟨w.heap.size, 1, none⟩ = some (.int .i64 i1) := by subst hW1; go_cell
  have a2_1 : w1.cell? ⟨w.heap.size, 2, none⟩ = some (.int .i64 i2) := by subst hW1; go_cell
  have a3_1 : w1.cell? ⟨w.heap.size, 3, none⟩ = some (.bool q0) := by subst hW1; go_cell
  have a4_1 : w1.cell? ⟨w.heap.size, 4, none⟩ = some (.bool q1) := by subst hW1; go_cell
  have a5_1 : w1.cell? ⟨w.heap.size, 5, none⟩ = some (.bool q2) := by subst hW1; go_cell
  have a6_1 : w1.cell? ⟨w.heap.size, 6, none⟩ = some (.bool q3) := by subst hW1; go_cell
  have a7_1 : w1.cell? ⟨w.heap.size, 7, none⟩ = some (.int .i64 i3) := by subst hW1; go_cell
  have a8_1 : w1.cell? ⟨w.heap.size, 8, none⟩ = some (.int .i64 i4) := by subst hW1; go_cell
  have a9_1 : w1.cell? ⟨w.heap.size, 9, none⟩ = some (.int .i64 i5) := by subst hW1; go_cell
  have a10_1 : w1.cell? ⟨w.heap.size, 10, none⟩ = some (.int .i64 i6) := by subst hW1; go_cell
  have a11_1 : w1.cell? ⟨w.heap.size, 11, none⟩ = some (.int .i64 i7) := by subst hW1; go_cell
  have a12_1 : w1.cell? ⟨w.heap.size, 12, none⟩ = some (.slice ao0 I.length ac0) := by subst hW1; go_cell
  have a13_1 : w1.cell? ⟨w.heap.size, 13, none⟩ = some (.slice ao1 F.length ac1) := by subst hW1; go_cell
  have al_1 : w.heap.size < w1.heap.size := by subst hW1; first | (simp; done) | (simp; omega)
  have c1 : Below w.heap.size w w1 := by subst hW1; go_grown
  have s1 : w1.heap.size = w.heap.size + 1 := by subst hW1; simp
  clear hW1
  have qa0_1 := cell_regrown a0_1
  have qa1_1 := cell_regrown a1_1
  have qa2_1 := cell_regrown a2_1
  have qa3_1 := cell_regrown a3_1
  have qa4_1 := cell_regrown a4_1
  have qa5_1 := cell_regrown a5_1
  have qa6_1 := cell_regrown a6_1
  have qa7_1 := cell_regrown a7_1
  have qa8_1 := cell_regrown a8_1
  have qa9_1 := cell_regrown a9_1
  have qa10_1 := cell_regrown a10_1
  have qa11_1 := cell_regrown a11_1
  have qa12_1 := cell_regrown a12_1
  have qa13_1 := cell_regrown a13_1
  have HA1 := hid (HA.out.later c1)
  have r0 := cell_regrown a0_1
  have r1 := cell_regrown a1_1
  have r2 := cell_regrown a2_1
  have r3 := cell_regrown a3_1
  have r4 := cell_regrown a4_1
  have r5 := cell_regrown a5_1
  have r6 := cell_regrown a6_1
  have r7 := cell_regrown a7_1
  have r8 := cell_regrown a8_1
  have r9 := cell_regrown a9_1
  have r10 := cell_regrown a10_1
  have r11 := cell_regrown a11_1
  have r12 := cell_regrown a12_1
  have r13 := cell_regrown a13_1
  refine wp_region_quiet_below (by kernel_rfl) (by kernel_rfl) ?_
  repeat (first | go_big_quiet_skip | (go_big_quiet_want; go_big_quiet_op; first | go_big_quiet_on | go_big_quiet_call (first | (go_at_call 37; exact Calls.regrown_of (reqRight_is HR.out _)) | (go_at_call 39; exact Calls.regrown_of (askedOf_any i0 i1 i2 q0 q1 q2 q3 i3 i4 i5 i6 i7 _ _ _)) | (go_at_call 38; exact Calls.regrown_of (askR_is HK.out _)) | (go_at_call 40; exact Calls.regrown_of (implCOk_is HC.out _ (HA1.out.later (below_regrown _ _ _)))))))
  refine wpQuiet_nil ?_
  rintro wq ⟨pq, hwq⟩
  have hq : Below w1.heap.size w1 wq := by rw [hwq]; exact below_regrown _ _ _
  clear hwq pq
  clear r0 r1 r2 r3 r4 r5 r6 r7 r8 r9 r10 r11 r12 r13
  have cq := c1.trans (hq.mono c1.size)
  go_wp2
  go_ret
  exact ⟨by simp, cq⟩
theorem implTOk_any (i0 i1 i2 : Int) (q0 q1 q2 q3 : Bool) (i3 i4 i5 i6 i7 : Int) (va0 va1 : Value) (I F : List KD) (w : World) (ha : RSCache w va0 va1 I F) : Calls Tryz.prog 11 #[.agg #[.int .i64 i0, .int .i64 i1, .int .i64 i2, .bool q0, .bool q1, .bool q2, .bool q3, .int .i64 i3, .int .i64 i4, .int .i64 i5, .int .i64 i6, .int .i64 i7, va0, va1]] w fun e w' => e = .returned (.bool (okT i0 i1 i2 q0 q1 q2 q3 i3 i4 i5 i6 i7 I F)) ∧ Below w.heap.size w w' := by
  cases hr : reqR i0 i1 i2 with
  | false => rw [okT_not (Or.inl hr)]; exact implTOk_0 i0 i1 i2 q0 q1 q2 q3 i3 i4 i5 i6 i7 va0 va1 I F w ha hr
  | true =>
    cases h1 : decide (i1 ≤ 1000) with
    | false => rw [okT_not (Or.inr (Or.inl h1))]; exact implTOk_1 i0 i1 i2 q0 q1 q2 q3 i3 i4 i5 i6 i7 va0 va1 I F w ha hr h1
    | true =>
      cases h2 : decide (i2 ≤ 1000) with
      | false => rw [okT_not (Or.inr (Or.inr (Or.inl h2)))]; exact implTOk_2 i0 i1 i2 q0 q1 q2 q3 i3 i4 i5 i6 i7 va0 va1 I F w ha hr h1 h2
      | true =>
        cases hk : askR q2 q3 i3 i4 i5 i6 i7 i2 with
        | false => rw [okT_not (Or.inr (Or.inr (Or.inr hk)))]; exact implTOk_3 i0 i1 i2 q0 q1 q2 q3 i3 i4 i5 i6 i7 va0 va1 I F w ha hr h1 h2 hk
        | true => rw [okT_of hr h1 h2 hk rfl]; exact implTOk_4 i0 i1 i2 q0 q1 q2 q3 i3 i4 i5 i6 i7 va0 va1 I F w ha hr h1 h2 hk _ rfl
theorem l6None_is {a b c d : Int} {r : Bool} (h : zO a b c d = r) (w : World) : Calls Tryz.prog 32 #[.agg #[.int .i64 a, .int .i64 b, .int .i64 c, .int .i64 d]] w fun e w' => e = .returned (.bool r) ∧ Below w.heap.size w w' := h ▸ l6None_any a b c d w
theorem specOpOk_is {a b c d : Int} {r : Bool} (h : opOk a b c d = r) (w : World) : Calls Tryz.prog 34 #[.agg #[.int .i64 a, .int .i64 b, .int .i64 c, .int .i64 d]] w fun e w' => e = .returned (.bool r) ∧ Below w.heap.size w w' := h ▸ specOpOk_any a b c d w
theorem kind_ge {k : Int} : decide (kindOf k ≥ 0) = keyIn k := by
  by_cases h : 0 ≤ k ∧ k < 24
  · rw [kindOf_in h.1 h.2, keyIn_yes h.1 h.2]; simp; omega
  · rw [kindOf_out h, keyIn_no h]; rfl
set_option maxRecDepth 100000 in
set_option maxHeartbeats 4000000 in
theorem specTOk_any (i0 i1 i2 : Int) (q0 q1 q2 q3 : Bool) (i3 i4 i5 i6 i7 : Int) (va0 va1 : Value) (I F : List KD) (w : World) (ha : RSCache w va0 va1 I F) : Calls Tryz.prog 9 #[.agg #[.int .i64 i0, .int .i64 i1, .int .i64 i2, .bool q0, .bool q1, .bool q2, .bool q3, .int .i64 i3, .int .i64 i4, .int .i64 i5, .int .i64 i6, .int .i64 i7, va0, va1]] w fun e w' => e = .returned (.bool (okT i0 i1 i2 q0 q1 q2 q3 i3 i4 i5 i6 i7 I F)) ∧ Below w.heap.size w w' := by
  have HA := hid ha
  obtain ⟨ao0, ao1, ac0, ac1, rfl, rfl⟩ := ha.open
  clear ha
  by_cases hp : 0 ≤ i0 ∧ i0 < 2 ∧ 0 ≤ i1 ∧ i1 ≤ 1000 ∧ 0 ≤ i2 ∧ i2 ≤ 1000
  · have HP := hid (decide_eq_true hp)
    obtain ⟨p0, p1, p2, p3, p4, p5⟩ := hp
    have n0 : ¬ i0 < 0 := by omega
    have n1 : ¬ i0 ≥ 2 := by omega
    have n2 : ¬ i1 < 0 := by omega
    have n3 : ¬ i1 > 1000 := by omega
    have n4 : ¬ i2 < 0 := by omega
    have n5 : ¬ i2 > 1000 := by omega
    clear p0 p1 p2 p3 p5
    go_enter Tryz.func9, Tryz.ntmps9
    go_wp2_with fail
    generalize hW1 : (w.alloc (.cells #[.int .i64 i0, .int .i64 i1, .int .i64 i2, .bool q0, .bool q1, .bool q2, .bool q3, .int .i64 i3, .int .i64 i4, .int .i64 i5, .int .i64 i6, .int .i64 i7, .slice ao0 I.length ac0, .slice ao1 F.length ac1] 38)) = w1
    have a0_1 : w1.cell? ⟨w.heap.size, 0, none⟩ = some (.int .i64 i0) := by subst hW1; go_cell
    have a1_1 : w1.cell? ⟨w.heap.size, 1, none⟩ = some (.int .i64 i1) := by subst hW1; go_cell
    have a2_1 : w1.cell? ⟨w.heap.size, 2, none⟩ = some (.int .i64 i2) := by subst hW1; go_cell
    have a3_1 : w1.cell? ⟨w.heap.size, 3, none⟩ = some (.bool q0) := by subst hW1; go_cell
    have a4_1 : w1.cell? ⟨w.heap.size, 4, none⟩ = some (.bool q1) := by subst hW1; go_cell
    have a5_1 : w1.cell? ⟨w.heap.size, 5, none⟩ = some (.bool q2) := by subst hW1; go_cell
    have a6_1 : w1.cell? ⟨w.heap.size, 6, none⟩ = some (.bool q3) := by subst hW1; go_cell
    have a7_1 : w1.cell? ⟨w.heap.size, 7, none⟩ = some (.int .i64 i3) := by subst hW1; go_cell
    have a8_1 : w1.cell? ⟨w.heap.size, 8, none⟩ = some (.int .i64 i4) := by subst hW1; go_cell
    have a9_1 : w1.cell? ⟨w.heap.size, 9, none⟩ = some (.int .i64 i5) := by subst hW1; go_cell
    have a10_1 : w1.cell? ⟨w.heap.size, 10, none⟩ = some (.int .i64 i6) := by subst hW1; go_cell
    have a11_1 : w1.cell? ⟨w.heap.size, 11, none⟩ = some (.int .i64 i7) := by subst hW1; go_cell
    have a12_1 : w1.cell? ⟨w.heap.size, 12, none⟩ = some (.slice ao0 I.length ac0) := by subst hW1; go_cell
    have a13_1 : w1.cell? ⟨w.heap.size, 13, none⟩ = some (.slice ao1 F.length ac1) := by subst hW1; go_cell
    have al_1 : w.heap.size < w1.heap.size := by subst hW1; first | (simp; done) | (simp; omega)
    have c1 : Below w.heap.size w w1 := by subst hW1; go_grown
    have s1 : w1.heap.size = w.heap.size + 1 := by subst hW1; simp
    clear hW1
    have qa0_1 := cell_regrown a0_1
    have qa1_1 := cell_regrown a1_1
    have qa2_1 := cell_regrown a2_1
    have qa3_1 := cell_regrown a3_1
    have qa4_1 := cell_regrown a4_1
    have qa5_1 := cell_regrown a5_1
    have qa6_1 := cell_regrown a6_1
    have qa7_1 := cell_regrown a7_1
    have qa8_1 := cell_regrown a8_1
    have qa9_1 := cell_regrown a9_1
    have qa10_1 := cell_regrown a10_1
    have qa11_1 := cell_regrown a11_1
    have qa12_1 := cell_regrown a12_1
    have qa13_1 := cell_regrown a13_1
    cases hc : okC I F with
    | false =>
      have HC := hid hc
      clear hc
      refine (specCOk_is HC.out _ (HA.out.later c1)).mono ?_
      rintro e w2 ⟨rfl, b2⟩
      have c2 := c1.trans (b2.mono c1.size)
      clear b2
      go_wp2
      go_ret
      exact ⟨by simp [okT, HC.out], c2⟩
    | true =>
      have HC := hid hc
      clear hc
      refine (specCOk_is HC.out _ (HA.out.later c1)).mono ?_
      rintro e w2 ⟨rfl, b2⟩
      have d2 : Below w1.heap.size w1 w2 := (Below.trans (by go_grown) (b2.mono (by first | omega | (simp; done) | (simp; omega))))
      have c2 : Below w.heap.size w w2 := c1.trans (d2.mono c1.size)
      have a0_2 : w2.cell? ⟨w.heap.size, 0, none⟩ = some (.int .i64 i0) := (by rw [b2.cell (by first | omega | (simp; done) | (simp; omega))]; go_cell)
      have a1_2 : w2.cell? ⟨w.heap.size, 1, none⟩ = some (.int .i64 i1) := (by rw [b2.cell (by first | omega | (simp; done) | (simp; omega))]; go_cell)
      have a2_2 : w2.cell? ⟨w.heap.size, 2, none⟩ = some (.int .i64 i2) := (by rw [b2.cell (by first | omega | (simp; done) | (simp; omega))]; go_cell)
      have a3_2 : w2.cell? ⟨w.heap.size, 3, none⟩ = some (.bool q0) := (by rw [b2.cell (by first | omega | (simp; done) | (simp; omega))]; go_cell)
      have a4_2 : w2.cell? ⟨w.heap.size, 4, none⟩ = some (.bool q1) := (by rw [b2.cell (by first | omega | (simp; done) | (simp; omega))]; go_cell)
      have a5_2 : w2.cell? ⟨w.heap.size, 5, none⟩ = some (.bool q2) := (by rw [b2.cell (by first | omega | (simp; done) | (simp; omega))]; go_cell)
      have a6_2 : w2.cell? ⟨w.heap.size, 6, none⟩ = some (.bool q3) := (by rw [b2.cell (by first | omega | (simp; done) | (simp; omega))]; go_cell)
      have a7_2 : w2.cell? ⟨w.heap.size, 7, none⟩ = some (.int .i64 i3) := (by rw [b2.cell (by first | omega | (simp; done) | (simp; omega))]; go_cell)
      have a8_2 : w2.cell? ⟨w.heap.size, 8, none⟩ = some (.int .i64 i4) := (by rw [b2.cell (by first | omega | (simp; done) | (simp; omega))]; go_cell)
      have a9_2 : w2.cell? ⟨w.heap.size, 9, none⟩ = some (.int .i64 i5) := (by rw [b2.cell (by first | omega | (simp; done) | (simp; omega))]; go_cell)
      have a10_2 : w2.cell? ⟨w.heap.size, 10, none⟩ = some (.int .i64 i6) := (by rw [b2.cell (by first | omega | (simp; done) | (simp; omega))]; go_cell)
      have a11_2 : w2.cell? ⟨w.heap.size, 11, none⟩ = some (.int .i64 i7) := (by rw [b2.cell (by first | omega | (simp; done) | (simp; omega))]; go_cell)
      have a12_2 : w2.cell? ⟨w.heap.size, 12, none⟩ = some (.slice ao0 I.length ac0) := (by rw [b2.cell (by first | omega | (simp; done) | (simp; omega))]; go_cell)
      have a13_2 : w2.cell? ⟨w.heap.size, 13, none⟩ = some (.slice ao1 F.length ac1) := (by rw [b2.cell (by first | omega | (simp; done) | (simp; omega))]; go_cell)
      have al_2 : w.heap.size < w2.heap.size := (by have := b2.size; first | omega | (revert this; simp; done) | (revert this; simp; omega))
      clear a0_1 a1_1 a2_1 a3_1 a4_1 a5_1 a6_1 a7_1 a8_1 a9_1 a10_1 a11_1 a12_1 a13_1 al_1
      clear b2 d2
      cases q2 with
      | false =>
        cases q3 with
        | true =>
          go_wp2
          go_ret
          exact ⟨by simp [okT, askR], c2⟩
        | false =>
          by_cases h3 : i3 = 0
          · subst h3
            go_wp2_with fail
            cases hz : zO i4 i5 i6 i7 with
            | false =>
              have HZ := hid hz
              clear hz
              refine (l6None_is HZ.out _).mono ?_
              rintro e w3 ⟨rfl, b3⟩
              have c3 := c2.trans (b3.mono c2.size)
              clear b3
              go_wp2
              go_ret
              exact ⟨by simp [okT, askR, HZ.out], c3⟩
            | true =>
              have HZ := hid hz
              clear hz
              refine (l6None_is HZ.out _).mono ?_
              rintro e w3 ⟨rfl, b3⟩
              have c3 := c2.trans (b3.mono c2.size)
              clear b3
              go_wp2
              go_ret
              exact ⟨by simp [okT, askR, HZ.out, HC.out, HP.out], c3⟩
          · have h3' : (i3 == 0) = false := by simpa using h3
            go_wp2
            go_ret
            exact ⟨by simp [okT, askR, h3], c2⟩
      | true =>
        cases q3 with
        | true =>
          go_wp2_with fail
          refine (specKind_any _ _).mono ?_
          rintro e w3 ⟨rfl, hw3⟩
          obtain rfl := hw3.symm
          clear hw3
          have hkd : decide (kindOf i3 ≥ 0) = keyIn i3 := kind_ge
          generalize kindOf i3 = kk at hkd ⊢
          cases hk : keyIn i3 with
          | false =>
            rw [hk] at hkd
            have HK := hid hk
            clear hk
            go_wp2
            go_ret
            exact ⟨by simp [okT, askR, HK.out], c2⟩
          | true =>
            rw [hk] at hkd
            have HK := hid hk
            clear hk
            go_wp2_with fail
            cases hz : zO i4 i5 i6 i7 with
            | false =>
              have HZ := hid hz
              clear hz
              refine (l6None_is HZ.out _).mono ?_
              rintro e w4 ⟨rfl, b4⟩
              have d4 : Below w2.heap.size w2 w4 := (Below.trans (by go_grown) (b4.mono (by first | omega | (simp; done) | (simp; omega))))
              have c4 : Below w.heap.size w w4 := c2.trans (d4.mono c2.size)
              have a0_4 : w4.cell? ⟨w.heap.size, 0, none⟩ = some (.int .i64 i0) := (by rw [b4.cell (by first | omega | (simp; done) | (simp; omega))]; go_cell)
              have a1_4 : w4.cell? ⟨w.heap.size, 1, none⟩ = some (.int .i64 i1) := (by rw [b4.cell (by first | omega | (simp; done) | (simp; omega))]; go_cell)
              have a2_4 : w4.cell? ⟨w.heap.size, 2, none⟩ = some (.int .i64 i2) := (by rw [b4.cell (by first | omega | (simp; done) | (simp; omega))]; go_cell)
              have a3_4 : w4.cell? ⟨w.heap.size, 3, none⟩ = some (.bool q0) := (by rw [b4.cell (by first | omega | (simp; done) | (simp; omega))]; go_cell)
              have a4_4 : w4.cell? ⟨w.heap.size, 4, none⟩ = some (.bool q1) := (by rw [b4.cell (by first | omega | (simp; done) | (simp; omega))]; go_cell)
              have a5_4 : w4.cell? ⟨w.heap.size, 5, none⟩ = some (.bool true) := (by rw [b4.cell (by first | omega | (simp; done) | (simp; omega))]; go_cell)
              have a6_4 : w4.cell? ⟨w.heap.size, 6, none⟩ = some (.bool true) := (by rw [b4.cell (by first | omega | (simp; done) | (simp; omega))]; go_cell)
              have a7_4 : w4.cell? ⟨w.heap.size, 7, none⟩ = some (.int .i64 i3) := (by rw [b4.cell (by first | omega | (simp; done) | (simp; omega))]; go_cell)
              have a8_4 : w4.cell? ⟨w.heap.size, 8, none⟩ = some (.int .i64 i4) := (by rw [b4.cell (by first | omega | (simp; done) | (simp; omega))]; go_cell)
              have a9_4 : w4.cell? ⟨w.heap.size, 9, none⟩ = some (.int .i64 i5) := (by rw [b4.cell (by first | omega | (simp; done) | (simp; omega))]; go_cell)
              have a10_4 : w4.cell? ⟨w.heap.size, 10, none⟩ = some (.int .i64 i6) := (by rw [b4.cell (by first | omega | (simp; done) | (simp; omega))]; go_cell)
              have a11_4 : w4.cell? ⟨w.heap.size, 11, none⟩ = some (.int .i64 i7) := (by rw [b4.cell (by first | omega | (simp; done) | (simp; omega))]; go_cell)
              have a12_4 : w4.cell? ⟨w.heap.size, 12, none⟩ = some (.slice ao0 I.length ac0) := (by rw [b4.cell (by first | omega | (simp; done) | (simp; omega))]; go_cell)
              have a13_4 : w4.cell? ⟨w.heap.size, 13, none⟩ = some (.slice ao1 F.length ac1) := (by rw [b4.cell (by first | omega | (simp; done) | (simp; omega))]; go_cell)
              have al_4 : w.heap.size < w4.heap.size := (by have := b4.size; first | omega | (revert this; simp; done) | (revert this; simp; omega))
              clear a0_2 a1_2 a2_2 a3_2 a4_2 a5_2 a6_2 a7_2 a8_2 a9_2 a10_2 a11_2 a12_2 a13_2 al_2
              clear b4 d4
              go_wp2
              go_ret
              exact ⟨by simp [okT, askR, HZ.out], c4⟩
            | true =>
              have HZ := hid hz
              clear hz
              refine (l6None_is HZ.out _).mono ?_
              rintro e w4 ⟨rfl, b4⟩
              have d4 : Below w2.heap.size w2 w4 := (Below.trans (by go_grown) (b4.mono (by first | omega | (simp; done) | (simp; omega))))
              have c4 : Below w.heap.size w w4 := c2.trans (d4.mono c2.size)
              have a0_4 : w4.cell? ⟨w.heap.size, 0, none⟩ = some (.int .i64 i0) := (by rw [b4.cell (by first | omega | (simp; done) | (simp; omega))]; go_cell)
              have a1_4 : w4.cell? ⟨w.heap.size, 1, none⟩ = some (.int .i64 i1) := (by rw [b4.cell (by first | omega | (simp; done) | (simp; omega))]; go_cell)
              have a2_4 : w4.cell? ⟨w.heap.size, 2, none⟩ = some (.int .i64 i2) := (by rw [b4.cell (by first | omega | (simp; done) | (simp; omega))]; go_cell)
              have a3_4 : w4.cell? ⟨w.heap.size, 3, none⟩ = some (.bool q0) := (by rw [b4.cell (by first | omega | (simp; done) | (simp; omega))]; go_cell)
              have a4_4 : w4.cell? ⟨w.heap.size, 4, none⟩ = some (.bool q1) := (by rw [b4.cell (by first | omega | (simp; done) | (simp; omega))]; go_cell)
              have a5_4 : w4.cell? ⟨w.heap.size, 5, none⟩ = some (.bool true) := (by rw [b4.cell (by first | omega | (simp; done) | (simp; omega))]; go_cell)
              have a6_4 : w4.cell? ⟨w.heap.size, 6, none⟩ = some (.bool true) := (by rw [b4.cell (by first | omega | (simp; done) | (simp; omega))]; go_cell)
              have a7_4 : w4.cell? ⟨w.heap.size, 7, none⟩ = some (.int .i64 i3) := (by rw [b4.cell (by first | omega | (simp; done) | (simp; omega))]; go_cell)
              have a8_4 : w4.cell? ⟨w.heap.size, 8, none⟩ = some (.int .i64 i4) := (by rw [b4.cell (by first | omega | (simp; done) | (simp; omega))]; go_cell)
              have a9_4 : w4.cell? ⟨w.heap.size, 9, none⟩ = some (.int .i64 i5) := (by rw [b4.cell (by first | omega | (simp; done) | (simp; omega))]; go_cell)
              have a10_4 : w4.cell? ⟨w.heap.size, 10, none⟩ = some (.int .i64 i6) := (by rw [b4.cell (by first | omega | (simp; done) | (simp; omega))]; go_cell)
              have a11_4 : w4.cell? ⟨w.heap.size, 11, none⟩ = some (.int .i64 i7) := (by rw [b4.cell (by first | omega | (simp; done) | (simp; omega))]; go_cell)
              have a12_4 : w4.cell? ⟨w.heap.size, 12, none⟩ = some (.slice ao0 I.length ac0) := (by rw [b4.cell (by first | omega | (simp; done) | (simp; omega))]; go_cell)
              have a13_4 : w4.cell? ⟨w.heap.size, 13, none⟩ = some (.slice ao1 F.length ac1) := (by rw [b4.cell (by first | omega | (simp; done) | (simp; omega))]; go_cell)
              have al_4 : w.heap.size < w4.heap.size := (by have := b4.size; first | omega | (revert this; simp; done) | (revert this; simp; omega))
              clear a0_2 a1_2 a2_2 a3_2 a4_2 a5_2 a6_2 a7_2 a8_2 a9_2 a10_2 a11_2 a12_2 a13_2 al_2
              clear b4 d4
              go_wp2
              all_goals
                go_ret
                exact ⟨by simp_all [okT, askR, HZ.out, HC.out, HK.out], c4⟩
        | false =>
          by_cases h3 : i3 = 0
          · subst h3
            go_wp2_with fail
            cases hz : opOk i4 i5 i6 i7 with
            | false =>
              have HZ := hid hz
              clear hz
              refine (specOpOk_is HZ.out _).mono ?_
              rintro e w4 ⟨rfl, b4⟩
              have d4 : Below w2.heap.size w2 w4 := (Below.trans (by go_grown) (b4.mono (by first | omega | (simp; done) | (simp; omega))))
              have c4 : Below w.heap.size w w4 := c2.trans (d4.mono c2.size)
              have a0_4 : w4.cell? ⟨w.heap.size, 0, none⟩ = some (.int .i64 i0) := (by rw [b4.cell (by first | omega | (simp; done) | (simp; omega))]; go_cell)
              have a1_4 : w4.cell? ⟨w.heap.size, 1, none⟩ = some (.int .i64 i1) := (by rw [b4.cell (by first | omega | (simp; done) | (simp; omega))]; go_cell)
              have a2_4 : w4.cell? ⟨w.heap.size, 2, none⟩ = some (.int .i64 i2) := (by rw [b4.cell (by first | omega | (simp; done) | (simp; omega))]; go_cell)
              have a3_4 : w4.cell? ⟨w.heap.size, 3, none⟩ = some (.bool q0) := (by rw [b4.cell (by first | omega | (simp; done) | (simp; omega))]; go_cell)
              have a4_4 : w4.cell? ⟨w.heap.size, 4, none⟩ = some (.bool q1) := (by rw [b4.cell (by first | omega | (simp; done) | (simp; omega))]; go_cell)
              have a5_4 : w4.cell? ⟨w.heap.size, 5, none⟩ = some (.bool true) := (by rw [b4.cell (by first | omega | (simp; done) | (simp; omega))]; go_cell)
              have a6_4 : w4.cell? ⟨w.heap.size, 6, none⟩ = some (.bool false) := (by rw [b4.cell (by first | omega | (simp; done) | (simp; omega))]; go_cell)
              have a7_4 : w4.cell? ⟨w.heap.size, 7, none⟩ = some (.int .i64 0) := (by rw [b4.cell (by first | omega | (simp; done) | (simp; omega))]; go_cell)
              have a8_4 : w4.cell? ⟨w.heap.size, 8, none⟩ = some (.int .i64 i4) := (by rw [b4.cell (by first | omega | (simp; done) | (simp; omega))]; go_cell)
              have a9_4 : w4.cell? ⟨w.heap.size, 9, none⟩ = some (.int .i64 i5) := (by rw [b4.cell (by first | omega | (simp; done) | (simp; omega))]; go_cell)
              have a10_4 : w4.cell? ⟨w.heap.size, 10, none⟩ = some (.int .i64 i6) := (by rw [b4.cell (by first | omega | (simp; done) | (simp; omega))]; go_cell)
              have a11_4 : w4.cell? ⟨w.heap.size, 11, none⟩ = some (.int .i64 i7) := (by rw [b4.cell (by first | omega | (simp; done) | (simp; omega))]; go_cell)
              have a12_4 : w4.cell? ⟨w.heap.size, 12, none⟩ = some (.slice ao0 I.length ac0) := (by rw [b4.cell (by first | omega | (simp; done) | (simp; omega))]; go_cell)
              have a13_4 : w4.cell? ⟨w.heap.size, 13, none⟩ = some (.slice ao1 F.length ac1) := (by rw [b4.cell (by first | omega | (simp; done) | (simp; omega))]; go_cell)
              have al_4 : w.heap.size < w4.heap.size := (by have := b4.size; first | omega | (revert this; simp; done) | (revert this; simp; omega))
              clear a0_2 a1_2 a2_2 a3_2 a4_2 a5_2 a6_2 a7_2 a8_2 a9_2 a10_2 a11_2 a12_2 a13_2 al_2
              clear b4 d4
              go_wp2
              go_ret
              exact ⟨by simp [okT, askR, HZ.out], c4⟩
            | true =>
              have HZ := hid hz
              clear hz
              refine (specOpOk_is HZ.out _).mono ?_
              rintro e w4 ⟨rfl, b4⟩
              have d4 : Below w2.heap.size w2 w4 := (Below.trans (by go_grown) (b4.mono (by first | omega | (simp; done) | (simp; omega))))
              have c4 : Below w.heap.size w w4 := c2.trans (d4.mono c2.size)
              have a0_4 : w4.cell? ⟨w.heap.size, 0, none⟩ = some (.int .i64 i0) := (by rw [b4.cell (by first | omega | (simp; done) | (simp; omega))]; go_cell)
              have a1_4 : w4.cell? ⟨w.heap.size, 1, none⟩ = some (.int .i64 i1) := (by rw [b4.cell (by first | omega | (simp; done) | (simp; omega))]; go_cell)
              have a2_4 : w4.cell? ⟨w.heap.size, 2, none⟩ = some (.int .i64 i2) := (by rw [b4.cell (by first | omega | (simp; done) | (simp; omega))]; go_cell)
              have a3_4 : w4.cell? ⟨w.heap.size, 3, none⟩ = some (.bool q0) := (by rw [b4.cell (by first | omega | (simp; done) | (simp; omega))]; go_cell)
              have a4_4 : w4.cell? ⟨w.heap.size, 4, none⟩ = some (.bool q1) := (by rw [b4.cell (by first | omega | (simp; done) | (simp; omega))]; go_cell)
              have a5_4 : w4.cell? ⟨w.heap.size, 5, none⟩ = some (.bool true) := (by rw [b4.cell (by first | omega | (simp; done) | (simp; omega))]; go_cell)
              have a6_4 : w4.cell? ⟨w.heap.size, 6, none⟩ = some (.bool false) := (by rw [b4.cell (by first | omega | (simp; done) | (simp; omega))]; go_cell)
              have a7_4 : w4.cell? ⟨w.heap.size, 7, none⟩ = some (.int .i64 0) := (by rw [b4.cell (by first | omega | (simp; done) | (simp; omega))]; go_cell)
              have a8_4 : w4.cell? ⟨w.heap.size, 8, none⟩ = some (.int .i64 i4) := (by rw [b4.cell (by first | omega | (simp; done) | (simp; omega))]; go_cell)
              have a9_4 : w4.cell? ⟨w.heap.size, 9, none⟩ = some (.int .i64 i5) := (by rw [b4.cell (by first | omega | (simp; done) | (simp; omega))]; go_cell)
              have a10_4 : w4.cell? ⟨w.heap.size, 10, none⟩ = some (.int .i64 i6) := (by rw [b4.cell (by first | omega | (simp; done) | (simp; omega))]; go_cell)
              have a11_4 : w4.cell? ⟨w.heap.size, 11, none⟩ = some (.int .i64 i7) := (by rw [b4.cell (by first | omega | (simp; done) | (simp; omega))]; go_cell)
              have a12_4 : w4.cell? ⟨w.heap.size, 12, none⟩ = some (.slice ao0 I.length ac0) := (by rw [b4.cell (by first | omega | (simp; done) | (simp; omega))]; go_cell)
              have a13_4 : w4.cell? ⟨w.heap.size, 13, none⟩ = some (.slice ao1 F.length ac1) := (by rw [b4.cell (by first | omega | (simp; done) | (simp; omega))]; go_cell)
              have al_4 : w.heap.size < w4.heap.size := (by have := b4.size; first | omega | (revert this; simp; done) | (revert this; simp; omega))
              clear a0_2 a1_2 a2_2 a3_2 a4_2 a5_2 a6_2 a7_2 a8_2 a9_2 a10_2 a11_2 a12_2 a13_2 al_2
              clear b4 d4
              go_wp2
              all_goals
                go_ret
                exact ⟨by simp_all [okT, askR, HZ.out, HC.out], c4⟩
          · have h3' : (i3 == 0) = false := by simpa using h3
            go_wp2
            go_ret
            exact ⟨by simp [okT, askR, h3], c2⟩
  · have HP := hid (decide_eq_false hp)
    go_enter Tryz.func9, Tryz.ntmps9
    go_wp2_with (exfalso; omega)
    all_goals
      go_ret
      exact ⟨by simp [okT, HP.out], by go_grown⟩
end Go.Proofs.YtddpoheoecafjaaGreat
