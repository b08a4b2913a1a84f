/- Marks on a tier: contracts. Written by a program (gltf.py). -/
import Derived.Test.YtddpoheoecafjaaGreatQv
import Derived.Test.YtddpoheoecafjaaGreatQt
import Derived.Test.YtddpoheoecafjaaGreatXu
import Derived.Test.YtddpoheoecafjaaGreatSTier
namespace Go.Proofs.YtddpoheoecafjaaGreat
open Go.RowKit
attribute [local go_sem ↓] Go.wp_at_zero Go.wp_at_succ

set_option maxRecDepth 100000 in
set_option maxHeartbeats 2000000 in
theorem markTier_all (i0 i1 i2 : Int) (q0 q1 q2 q3 : Bool) (i3 i4 i5 i6 i7 : Int) {y0 y1 : TypeId} (a0 a1 : Value) (L0 L1 : List KD) (k : Int) (F0 F1 : Nat → Prop) (w : World) (ha0 : OwnM y0 4 3 true w F0 a0 L0) (ha1 : OwnM y1 1 1 false w F1 a1 L1) (d0_1 : ∀ b, F0 b → ¬ F1 b) (d1_0 : ∀ b, F1 b → ¬ F0 b) (hk : 0 ≤ k) (hk2 : k + cntM 3 L0 + cntM 1 L1 ≤ 1099511627776) :
    Calls Tryz.prog 17 #[.agg #[.int .i64 i0, .int .i64 i1, .int .i64 i2, .bool q0, .bool q1, .bool q2, .bool q3, .int .i64 i3, .int .i64 i4, .int .i64 i5, .int .i64 i6, .int .i64 i7, a0, a1], .int .i64 k] w fun e w' => e = .returned (.int .i64 (k + cntM 3 L0 + cntM 1 L1)) ∧ OwnM y0 4 3 true w' F0 a0 (relM 3 (k) L0) ∧ OwnM y1 1 1 false w' F1 a1 (relM 1 (k + cntM 3 L0) L1) ∧ Only (fun b => F0 b ∨ F1 b) w w' := by
  have H0 := hid ha0
  have H1 := hid ha1
  obtain ⟨ao0, ac0, hv, _⟩ := ha0.rd'
  subst hv
  obtain ⟨ao1, ac1, hv, _⟩ := ha1.rd'
  subst hv
  clear ha0 ha1
  have HD := hid (And.intro d0_1 d1_0)
  clear d0_1 d1_0
  go_enter Tryz.func17, Tryz.ntmps17
  go_wp2_with fail
  generalize hW1 : (w.alloc (.cells #[.int .i64 i0, .int .i64 i1, .int .i64 i2, .bool q0, .bool q1, .bool q2, .bool q3, .int .i64 i3, .int .i64 i4, .int .i64 i5, .int .i64 i6, .int .i64 i7, .slice ao0 L0.length ac0, .slice ao1 L1.length ac1] 38)) = w1
  have a0_1 : w1.cell? ⟨w.heap.size, 0, none⟩ = some (.int .i64 i0) := by subst hW1; go_cell
  have a1_1 : w1.cell? ⟨w.heap.size, 1, none⟩ = some (.int .i64 i1) := by subst hW1; go_cell
  have a2_1 : w1.cell? ⟨w.heap.size, 2, none⟩ = some (.int .i64 i2) := by subst hW1; go_cell
  have a3_1 : w1.cell? ⟨w.heap.size, 3, none⟩ = some (.bool q0) := by subst hW1; go_cell
  have a4_1 : w1.cell? ⟨w.heap.size, 4, none⟩ = some (.bool q1) := by subst hW1; go_cell
  have a5_1 : w1.cell? ⟨w.heap.size, 5, none⟩ = some (.bool q2) := by subst hW1; go_cell
  have a6_1 : w1.cell? ⟨w.heap.size, 6, none⟩ = some (.bool q3) := by subst hW1; go_cell
  have a7_1 : w1.cell? ⟨w.heap.size, 7, none⟩ = some (.int .i64 i3) := by subst hW1; go_cell
  have a8_1 : w1.cell? ⟨w.heap.size, 8, none⟩ = some (.int .i64 i4) := by subst hW1; go_cell
  have a9_1 : w1.cell? ⟨w.heap.size, 9, none⟩ = some (.int .i64 i5) := by subst hW1; go_cell
  have a10_1 : w1.cell? ⟨w.heap.size, 10, none⟩ = some (.int .i64 i6) := by subst hW1; go_cell
  have a11_1 : w1.cell? ⟨w.heap.size, 11, none⟩ = some (.int .i64 i7) := by subst hW1; go_cell
  have a12_1 : w1.cell? ⟨w.heap.size, 12, none⟩ = some (.slice ao0 L0.length ac0) := by subst hW1; go_cell
  have a13_1 : w1.cell? ⟨w.heap.size, 13, none⟩ = some (.slice ao1 L1.length ac1) := by subst hW1; go_cell
  have al_1 : w.heap.size < w1.heap.size := by subst hW1; first | (simp; done) | (simp; omega)
  have c1 : Below w.heap.size w w1 := by subst hW1; go_grown
  have s1 : w1.heap.size = w.heap.size + 1 := by subst hW1; simp
  clear hW1
  have qa0_1 := cell_regrown a0_1
  have qa1_1 := cell_regrown a1_1
  have qa2_1 := cell_regrown a2_1
  have qa3_1 := cell_regrown a3_1
  have qa4_1 := cell_regrown a4_1
  have qa5_1 := cell_regrown a5_1
  have qa6_1 := cell_regrown a6_1
  have qa7_1 := cell_regrown a7_1
  have qa8_1 := cell_regrown a8_1
  have qa9_1 := cell_regrown a9_1
  have qa10_1 := cell_regrown a10_1
  have qa11_1 := cell_regrown a11_1
  have qa12_1 := cell_regrown a12_1
  have qa13_1 := cell_regrown a13_1
  refine (markCache_all _ _ L0 L1 k F0 F1 _ (H0.out.later c1) (H1.out.later c1) HD.out.1 HD.out.2 hk hk2).mono ?_
  rintro e w2 ⟨rfl, o0, o1, hn⟩
  have HO := hid (And.intro o0 o1)
  have HN := hid ((Only.later c1 : Only (fun b => F0 b ∨ F1 b) w w1).trans hn)
  clear o0 o1 hn
  obtain ⟨r, hr⟩ : ∃ r : Int, k + cntM 3 L0 + cntM 1 L1 = r := ⟨_, rfl⟩
  rw [hr]
  have HR := hid hr
  clear hr hk2
  go_wp2
  go_ret
  exact ⟨by simp [HR.out], HO.out.1, HO.out.2, HN.out⟩
set_option maxRecDepth 100000 in
set_option maxHeartbeats 2000000 in
theorem markTAns_any (i0 i1 i2 : Int) (q0 q1 q2 q3 : Bool) (i3 i4 i5 i6 i7 : Int) (a0 fv : Value) (L0 L1 : List KD) (g C : Nat) (w : World) (ha0 : OwnM 84 4 3 true w (Span (g + 1) C) a0 L0) (hf : OwnFl w g fv L1) (hgC : g < C) (hCw : C ≤ w.heap.size) (hk2 : 1 + cntM 3 L0 + cntM 1 L1 ≤ 1099511627776) :
    Calls Tryz.prog 17 #[.agg #[.int .i64 i0, .int .i64 i1, .int .i64 i2, .bool q0, .bool q1, .bool q2, .bool q3, .int .i64 i3, .int .i64 i4, .int .i64 i5, .int .i64 i6, .int .i64 i7, a0, fv], .int .i64 1] w fun e w' => e = .returned (.int .i64 (1 + cntM 3 L0 + cntM 1 L1)) ∧ OwnM 84 4 3 true w' (Span (g + 1) C) a0 (relM 3 1 L0) ∧ OwnFl w' g fv (relM 1 (1 + cntM 3 L0) L1) ∧ Only (Span g C) w w' := by
  have H0 := hid ha0
  have H1 := hid hf
  obtain ⟨ao0, ac0, hv, _⟩ := ha0.rd'
  subst hv
  obtain ⟨fo, fc, hfv⟩ := hf.slice
  subst hfv
  have HK := hid hk2
  have HC := hid (And.intro hgC hCw)
  clear ha0 hf hk2 hgC hCw
  go_enter Tryz.func17, Tryz.ntmps17
  go_wp2_with fail
  generalize hW1 : (w.alloc (.cells #[.int .i64 i0, .int .i64 i1, .int .i64 i2, .bool q0, .bool q1, .bool q2, .bool q3, .int .i64 i3, .int .i64 i4, .int .i64 i5, .int .i64 i6, .int .i64 i7, .slice ao0 L0.length ac0, .slice fo L1.length fc] 38)) = w1
  have a0_1 : w1.cell? ⟨w.heap.size, 0, none⟩ = some (.int .i64 i0) := by subst hW1; go_cell
  have a1_1 : w1.cell? ⟨w.heap.size, 1, none⟩ = some (.int .i64 i1) := by subst hW1; go_cell
  have a2_1 : w1.cell? ⟨w.heap.size, 2, none⟩ = some (.int .i64 i2) := by subst hW1; go_cell
  have a3_1 : w1.cell? ⟨w.heap.size, 3, none⟩ = some (.bool q0) := by subst hW1; go_cell
  have a4_1 : w1.cell? ⟨w.heap.size, 4, none⟩ = some (.bool q1) := by subst hW1; go_cell
  have a5_1 : w1.cell? ⟨w.heap.size, 5, none⟩ = some (.bool q2) := by subst hW1; go_cell
  have a6_1 : w1.cell? ⟨w.heap.size, 6, none⟩ = some (.bool q3) := by subst hW1; go_cell
  have a7_1 : w1.cell? ⟨w.heap.size, 7, none⟩ = some (.int .i64 i3) := by subst hW1; go_cell
  have a8_1 : w1.cell? ⟨w.heap.size, 8, none⟩ = some (.int .i64 i4) := by subst hW1; go_cell
  have a9_1 : w1.cell? ⟨w.heap.size, 9, none⟩ = some (.int .i64 i5) := by subst hW1; go_cell
  have a10_1 : w1.cell? ⟨w.heap.size, 10, none⟩ = some (.int .i64 i6) := by subst hW1; go_cell
  have a11_1 : w1.cell? ⟨w.heap.size, 11, none⟩ = some (.int .i64 i7) := by subst hW1; go_cell
  have a12_1 : w1.cell? ⟨w.heap.size, 12, none⟩ = some (.slice ao0 L0.length ac0) := by subst hW1; go_cell
  have a13_1 : w1.cell? ⟨w.heap.size, 13, none⟩ = some (.slice fo L1.length fc) := by subst hW1; go_cell
  have al_1 : w.heap.size < w1.heap.size := by subst hW1; first | (simp; done) | (simp; omega)
  have c1 : Below w.heap.size w w1 := by subst hW1; go_grown
  have s1 : w1.heap.size = w.heap.size + 1 := by subst hW1; simp
  clear hW1
  have qa0_1 := cell_regrown a0_1
  have qa1_1 := cell_regrown a1_1
  have qa2_1 := cell_regrown a2_1
  have qa3_1 := cell_regrown a3_1
  have qa4_1 := cell_regrown a4_1
  have qa5_1 := cell_regrown a5_1
  have qa6_1 := cell_regrown a6_1
  have qa7_1 := cell_regrown a7_1
  have qa8_1 := cell_regrown a8_1
  have qa9_1 := cell_regrown a9_1
  have qa10_1 := cell_regrown a10_1
  have qa11_1 := cell_regrown a11_1
  have qa12_1 := cell_regrown a12_1
  have qa13_1 := cell_regrown a13_1
  refine (markAns_any _ _ L0 L1 g C _ (H0.out.later c1) (H1.out.later c1) HC.out.1 (Nat.le_trans HC.out.2 c1.size) HK.out).mono ?_
  rintro e w2 ⟨rfl, o0, o1, hn⟩
  have HO := hid (And.intro o0 o1)
  have HN := hid ((Only.later c1 : Only (Span g C) w w1).trans hn)
  clear o0 o1 hn
  obtain ⟨r, hr⟩ : ∃ r : Int, 1 + cntM 3 L0 + cntM 1 L1 = r := ⟨_, rfl⟩
  rw [hr]
  have HR := hid hr
  clear hr
  go_wp2
  go_ret
  exact ⟨by simp [HR.out], HO.out.1, HO.out.2, HN.out⟩
set_option maxRecDepth 100000 in
set_option maxHeartbeats 2000000 in
theorem heldTier_all (i0 i1 i2 : Int) (q0 q1 q2 q3 : Bool) (i3 i4 i5 i6 i7 : Int) (a0 a1 : Value) (L0 L1 : List KD) (k : Int) (w : World) (ha0 : RdM 4 3 true w a0 (relM 3 (k) L0)) (ha1 : RdM 1 1 false w a1 (relM 1 (k + cntM 3 L0) L1)) (hl0 : ∀ i, i < L0.length → (L0.getD i kd0).1.length = 3) (hl1 : ∀ i, i < L1.length → (L1.getD i kd0).1.length = 1 ∧ (L1.getD i kd0).2 = []) (hk : 0 ≤ k) (hk2 : k + cntM 3 L0 + cntM 1 L1 ≤ 1099511627776) :
    Calls Tryz.prog 20 #[.agg #[.int .i64 i0, .int .i64 i1, .int .i64 i2, .bool q0, .bool q1, .bool q2, .bool q3, .int .i64 i3, .int .i64 i4, .int .i64 i5, .int .i64 i6, .int .i64 i7, a0, a1], .int .i64 k] w fun e w' => e = .returned (.int .i64 (k + cntM 3 L0 + cntM 1 L1)) ∧ Below w.heap.size w w' := by
  have H0 := hid ha0
  have H1 := hid ha1
  have HL := hid (And.intro hl0 hl1)
  have HP := hid (And.intro (cntM_pos 3 L0) (cntM_pos 1 L1))
  obtain ⟨ao0, ac0, hv, _⟩ := ha0
  subst hv
  obtain ⟨ao1, ac1, hv, _⟩ := ha1
  subst hv
  rw [relM_length] at H0 H1
  rw [relM_length, relM_length]
  clear hl0 hl1
  go_enter Tryz.func20, Tryz.ntmps20
  go_wp2_with fail
  generalize hW1 : (w.alloc (.cells #[.int .i64 i0, .int .i64 i1, .int .i64 i2, .bool q0, .bool q1, .bool q2, .bool q3, .int .i64 i3, .int .i64 i4, .int .i64 i5, .int .i64 i6, .int .i64 i7, .slice ao0 L0.length ac0, .slice ao1 L1.length ac1] 38)) = w1
  have a0_1 : w1.cell? ⟨w.heap.size, 0, none⟩ = some (.int .i64 i0) := by subst hW1; go_cell
  have a1_1 : w1.cell? ⟨w.heap.size, 1, none⟩ = some (.int .i64 i1) := by subst hW1; go_cell
  have a2_1 : w1.cell? ⟨w.heap.size, 2, none⟩ = some (.int .i64 i2) := by subst hW1; go_cell
  have a3_1 : w1.cell? ⟨w.heap.size, 3, none⟩ = some (.bool q0) := by subst hW1; go_cell
  have a4_1 : w1.cell? ⟨w.heap.size, 4, none⟩ = some (.bool q1) := by subst hW1; go_cell
  have a5_1 : w1.cell? ⟨w.heap.size, 5, none⟩ = some (.bool q2) := by subst hW1; go_cell
  have a6_1 : w1.cell? ⟨w.heap.size, 6, none⟩ = some (.bool q3) := by subst hW1; go_cell
  have a7_1 : w1.cell? ⟨w.heap.size, 7, none⟩ = some (.int .i64 i3) := by subst hW1; go_cell
  have a8_1 : w1.cell? ⟨w.heap.size, 8, none⟩ = some (.int .i64 i4) := by subst hW1; go_cell
  have a9_1 : w1.cell? ⟨w.heap.size, 9, none⟩ = some (.int .i64 i5) := by subst hW1; go_cell
  have a10_1 : w1.cell? ⟨w.heap.size, 10, none⟩ = some (.int .i64 i6) := by subst hW1; go_cell
  have a11_1 : w1.cell? ⟨w.heap.size, 11, none⟩ = some (.int .i64 i7) := by subst hW1; go_cell
  have a12_1 : w1.cell? ⟨w.heap.size, 12, none⟩ = some (.slice ao0 L0.length ac0) := by subst hW1; go_cell
  have a13_1 : w1.cell? ⟨w.heap.size, 13, none⟩ = some (.slice ao1 L1.length ac1) := by subst hW1; go_cell
  have al_1 : w.heap.size < w1.heap.size := by subst hW1; first | (simp; done) | (simp; omega)
  have c1 : Below w.heap.size w w1 := by subst hW1; go_grown
  have s1 : w1.heap.size = w.heap.size + 1 := by subst hW1; simp
  clear hW1
  have qa0_1 := cell_regrown a0_1
  have qa1_1 := cell_regrown a1_1
  have qa2_1 := cell_regrown a2_1
  have qa3_1 := cell_regrown a3_1
  have qa4_1 := cell_regrown a4_1
  have qa5_1 := cell_regrown a5_1
  have qa6_1 := cell_regrown a6_1
  have qa7_1 := cell_regrown a7_1
  have qa8_1 := cell_regrown a8_1
  have qa9_1 := cell_regrown a9_1
  have qa10_1 := cell_regrown a10_1
  have qa11_1 := cell_regrown a11_1
  have qa12_1 := cell_regrown a12_1
  have qa13_1 := cell_regrown a13_1
  refine (heldCache_all _ _ L0 L1 k _ (H0.out.later c1) (H1.out.later c1) HL.out.1 HL.out.2 hk hk2).mono ?_
  rintro e w2 ⟨rfl, b2⟩
  have c2 := c1.trans (b2.mono c1.size)
  have hr2 : ¬ (k + cntM 3 L0 + cntM 1 L1 < 0) := by have := HP.out; omega
  obtain ⟨r, hr⟩ : ∃ r : Int, k + cntM 3 L0 + cntM 1 L1 = r := ⟨_, rfl⟩
  rw [hr] at hr2 ⊢
  have HR := hid hr
  clear hr hk2 b2
  go_wp2
  go_ret
  exact ⟨by simp [HR.out], c2⟩
theorem ansTF_small (i0 i1 i2 : Int) (q0 q1 q2 q3 : Bool) (i3 i4 i5 i6 i7 : Int) {w : World} {v : Value} {I F : List KD} (h1 : RdM 1 1 false w v F) : 1 + cntM 3 (ansTF i0 i1 i2 q0 q1 q2 q3 i3 i4 i5 i6 i7 I F).I + cntM 1 (ansTF i0 i1 i2 q0 q1 q2 q3 i3 i4 i5 i6 i7 I F).F ≤ 1099511627776 := by
  cases hT : okT i0 i1 i2 q0 q1 q2 q3 i3 i4 i5 i6 i7 I F with
  | false => rw [ansTF, hT]; simp [zTD, cntM]
  | true =>
    have hok := (okT_parts hT).2.2.1
    rw [ansTF, hT]
    by_cases hi : i1 = 1000
    · simp only [cond_true, if_pos hi]
      have h3 := cntM_le19 I (okC_small hok).2
      have h4 := (okC_small hok).1
      rw [(floF_of h1 (okC_iff.1 hok).1).all]
      omega
    · simp only [cond_true, if_neg hi]
      decide
end Go.Proofs.YtddpoheoecafjaaGreat
