/- The law FnExactTierFall: its walk. Written by a program (gltf.py). -/
import Derived.Test.YtddpoheoecafjaaGreatQx
import Derived.Deep.Cut
namespace Go.Proofs.YtddpoheoecafjaaGreat
open Go.RowKit
attribute [local go_sem ↓] Go.wp_at_zero Go.wp_at_succ

set_option maxRecDepth 100000 in
set_option maxHeartbeats 8000000 in
theorem lawTFall_any (i0 i1 i2 : Int) (q0 q1 q2 q3 : Bool) (i3 i4 i5 i6 i7 : Int) (va0 va1 : Value) (A0 A1 : List KD) (w : World) (ha : RSCache w va0 va1 A0 A1) :
    Calls Tryz.prog 7 #[.agg #[.int .i64 i0, .int .i64 i1, .int .i64 i2, .bool q0, .bool q1, .bool q2, .bool q3, .int .i64 i3, .int .i64 i4, .int .i64 i5, .int .i64 i6, .int .i64 i7, va0, va1]] w fun e w' => e = .returned (.bool true) ∧ Below w.heap.size w w' := by
  have HA := hid ha
  have hM := ansTF_small i0 i1 i2 q0 q1 q2 q3 i3 i4 i5 i6 i7 (I := A0) ha.h1
  obtain ⟨ao0, ao1, ac0, ac1, rfl, rfl⟩ := ha.open
  have SD := fun (v0 v1 : Value) (W : World) (hR : RSCache W v0 v1 A0 A1) => specTFall_any i0 i1 i2 q0 q1 q2 q3 i3 i4 i5 i6 i7 v0 v1 A0 A1 W hR rfl
  have ID := fun (v0 v1 : Value) (W : World) (hR : RSCache W v0 v1 A0 A1) => implTFall_any i0 i1 i2 q0 q1 q2 q3 i3 i4 i5 i6 i7 v0 v1 A0 A1 W hR rfl
  unfold EndRT at SD
  unfold EndT at ID
  generalize ansTF i0 i1 i2 q0 q1 q2 q3 i3 i4 i5 i6 i7 A0 A1 = D at SD ID hM
  obtain ⟨n0, n1, n2, p0, p1, p2, p3, n3, n4, n5, n6, n7, L0, L1⟩ := D
  simp only [scD, List.cons_append, List.nil_append] at SD ID hM
  have HM := hid hM
  have hpL0 := cntM_pos 3 L0
  have hpL1 := cntM_pos 1 L1
  go_enter Tryz.func7, Tryz.ntmps7
  go_wp2_with fail
  generalize hW1 : (w.alloc (.cells #[.int .i64 i0, .int .i64 i1, .int .i64 i2, .bool q0, .bool q1, .bool q2, .bool q3, .int .i64 i3, .int .i64 i4, .int .i64 i5, .int .i64 i6, .int .i64 i7, .slice ao0 A0.length ac0, .slice ao1 A1.length ac1] 30)) = w1
  have a0_1 : w1.cell? ⟨w.heap.size, 0, none⟩ = some (.int .i64 i0) := by subst hW1; go_cell
  have a1_1 : w1.cell? ⟨w.heap.size, 1, none⟩ = some (.int .i64 i1) := by subst hW1; go_cell
  have a2_1 : w1.cell? ⟨w.heap.size, 2, none⟩ = some (.int .i64 i2) := by subst hW1; go_cell
  have a3_1 : w1.cell? ⟨w.heap.size, 3, none⟩ = some (.bool q0) := by subst hW1; go_cell
  have a4_1 : w1.cell? ⟨w.heap.size, 4, none⟩ = some (.bool q1) := by subst hW1; go_cell
  have a5_1 : w1.cell? ⟨w.heap.size, 5, none⟩ = some (.bool q2) := by subst hW1; go_cell
  have a6_1 : w1.cell? ⟨w.heap.size, 6, none⟩ = some (.bool q3) := by subst hW1; go_cell
  have a7_1 : w1.cell? ⟨w.heap.size, 7, none⟩ = some (.int .i64 i3) := by subst hW1; go_cell
  have a8_1 : w1.cell? ⟨w.heap.size, 8, none⟩ = some (.int .i64 i4) := by subst hW1; go_cell
  have a9_1 : w1.cell? ⟨w.heap.size, 9, none⟩ = some (.int .i64 i5) := by subst hW1; go_cell
  have a10_1 : w1.cell? ⟨w.heap.size, 10, none⟩ = some (.int .i64 i6) := by subst hW1; go_cell
  have a11_1 : w1.cell? ⟨w.heap.size, 11, none⟩ = some (.int .i64 i7) := by subst hW1; go_cell
  have a12_1 : w1.cell? ⟨w.heap.size, 12, none⟩ = some (.slice ao0 A0.length ac0) := by subst hW1; go_cell
  have a13_1 : w1.cell? ⟨w.heap.size, 13, none⟩ = some (.slice ao1 A1.length ac1) := by subst hW1; go_cell
  have al_1 : w.heap.size < w1.heap.size := by subst hW1; first | (simp; done) | (simp; omega)
  have c1 : Below w.heap.size w w1 := by subst hW1; go_grown
  have s1 : w1.heap.size = w.heap.size + 1 := by subst hW1; simp
  clear hW1
  have qa0_1 := cell_regrown a0_1
  have qa1_1 := cell_regrown a1_1
  have qa2_1 := cell_regrown a2_1
  have qa3_1 := cell_regrown a3_1
  have qa4_1 := cell_regrown a4_1
  have qa5_1 := cell_regrown a5_1
  have qa6_1 := cell_regrown a6_1
  have qa7_1 := cell_regrown a7_1
  have qa8_1 := cell_regrown a8_1
  have qa9_1 := cell_regrown a9_1
  have qa10_1 := cell_regrown a10_1
  have qa11_1 := cell_regrown a11_1
  have qa12_1 := cell_regrown a12_1
  have qa13_1 := cell_regrown a13_1
  refine (szTier_rd i0 i1 i2 q0 q1 q2 q3 i3 i4 i5 i6 i7 _ _ A0 A1 _ _ (HA.out.later c1) (by omega) (by omega)).mono ?_
  rintro e w2 ⟨hs, b2⟩
  have d2 : Below w1.heap.size w1 w2 := (Below.trans (by go_grown) (b2.mono (by first | omega | (simp; done) | (simp; omega))))
  have c2 : Below w.heap.size w w2 := c1.trans (d2.mono c1.size)
  have a0_2 := (d2.cell (p := ⟨w.heap.size, 0, none⟩) al_1).trans a0_1
  have a1_2 := (d2.cell (p := ⟨w.heap.size, 1, none⟩) al_1).trans a1_1
  have a2_2 := (d2.cell (p := ⟨w.heap.size, 2, none⟩) al_1).trans a2_1
  have a3_2 := (d2.cell (p := ⟨w.heap.size, 3, none⟩) al_1).trans a3_1
  have a4_2 := (d2.cell (p := ⟨w.heap.size, 4, none⟩) al_1).trans a4_1
  have a5_2 := (d2.cell (p := ⟨w.heap.size, 5, none⟩) al_1).trans a5_1
  have a6_2 := (d2.cell (p := ⟨w.heap.size, 6, none⟩) al_1).trans a6_1
  have a7_2 := (d2.cell (p := ⟨w.heap.size, 7, none⟩) al_1).trans a7_1
  have a8_2 := (d2.cell (p := ⟨w.heap.size, 8, none⟩) al_1).trans a8_1
  have a9_2 := (d2.cell (p := ⟨w.heap.size, 9, none⟩) al_1).trans a9_1
  have a10_2 := (d2.cell (p := ⟨w.heap.size, 10, none⟩) al_1).trans a10_1
  have a11_2 := (d2.cell (p := ⟨w.heap.size, 11, none⟩) al_1).trans a11_1
  have a12_2 := (d2.cell (p := ⟨w.heap.size, 12, none⟩) al_1).trans a12_1
  have a13_2 := (d2.cell (p := ⟨w.heap.size, 13, none⟩) al_1).trans a13_1
  have al_2 := Nat.lt_of_lt_of_le al_1 d2.size
  clear a0_1 a1_1 a2_1 a3_1 a4_1 a5_1 a6_1 a7_1 a8_1 a9_1 a10_1 a11_1 a12_1 a13_1 al_1
  clear b2 d2
  rcases hs with ⟨r, rfl, hr0, hr1, hA⟩ | rfl
  · have HLA := hid hA
    have hr2 : ¬ (r < 0) := by omega
    have hb0 := hA A0 (by simp)
    have hb1 := hA A1 (by simp)
    have hk0 : ∀ i, i < A0.length → (A0.getD i kd0).2.length ≤ 1048576 := fun i hi => by have := bulkM_get A0 i hi; omega
    have hc0 := cntM_bulk 3 A0
    have hc1 := cntM_bulk 1 A1
    have hp0 := cntM_pos 3 A0
    have hp1 := cntM_pos 1 A1
    have HN := hid (show 1 + cntM 3 A0 + cntM 1 A1 ≤ 1099511627776 from by omega)
    have HK0 := hid hk0
    have HC := hid (And.intro hb0 hb1)
    have HP := hid (And.intro hp0 hp1)
    have HPL := hid (And.intro hpL0 hpL1)
    clear hA hb0 hb1 hk0 hc0 hc1 hp0 hp1 hpL0 hpL1 hM
    clear hr0 hr1
    go_wp2_with fail
    refine (toTier_rd i0 i1 i2 q0 q1 q2 q3 i3 i4 i5 i6 i7 _ _ A0 A1 _ (HA.out.later c2) HLA.out).mono ?_
    rintro e w3 ⟨⟨zo0, zo1, zc0, zc1, rfl, oa, _⟩, b3⟩
    have RZ_3 := hid oa
    clear oa
    have d3 : Below w2.heap.size w2 w3 := (Below.trans (by go_grown) (b3.mono (by first | omega | (simp; done) | (simp; omega))))
    have c3 : Below w.heap.size w w3 := c2.trans (d3.mono c2.size)
    have a0_3 := (d3.cell (p := ⟨w.heap.size, 0, none⟩) al_2).trans a0_2
    have a1_3 := (d3.cell (p := ⟨w.heap.size, 1, none⟩) al_2).trans a1_2
    have a2_3 := (d3.cell (p := ⟨w.heap.size, 2, none⟩) al_2).trans a2_2
    have a3_3 := (d3.cell (p := ⟨w.heap.size, 3, none⟩) al_2).trans a3_2
    have a4_3 := (d3.cell (p := ⟨w.heap.size, 4, none⟩) al_2).trans a4_2
    have a5_3 := (d3.cell (p := ⟨w.heap.size, 5, none⟩) al_2).trans a5_2
    have a6_3 := (d3.cell (p := ⟨w.heap.size, 6, none⟩) al_2).trans a6_2
    have a7_3 := (d3.cell (p := ⟨w.heap.size, 7, none⟩) al_2).trans a7_2
    have a8_3 := (d3.cell (p := ⟨w.heap.size, 8, none⟩) al_2).trans a8_2
    have a9_3 := (d3.cell (p := ⟨w.heap.size, 9, none⟩) al_2).trans a9_2
    have a10_3 := (d3.cell (p := ⟨w.heap.size, 10, none⟩) al_2).trans a10_2
    have a11_3 := (d3.cell (p := ⟨w.heap.size, 11, none⟩) al_2).trans a11_2
    have a12_3 := (d3.cell (p := ⟨w.heap.size, 12, none⟩) al_2).trans a12_2
    have a13_3 := (d3.cell (p := ⟨w.heap.size, 13, none⟩) al_2).trans a13_2
    have al_3 := Nat.lt_of_lt_of_le al_2 d3.size
    clear a0_2 a1_2 a2_2 a3_2 a4_2 a5_2 a6_2 a7_2 a8_2 a9_2 a10_2 a11_2 a12_2 a13_2 al_2
    clear b3 d3
    go_wp2_with fail
    refine (SD _ _ _ RZ_3.out).mono ?_
    rintro e w4 ⟨⟨sv0, sv1, rfl, hso⟩, b4⟩
    obtain ⟨so, sf, sc, sd, hv0, hv1⟩ := hso.open
    subst hv0 hv1
    have d4 : Below w3.heap.size w3 w4 := (Below.trans (by go_grown) (b4.mono (by first | omega | (simp; done) | (simp; omega))))
    have c4 : Below w.heap.size w w4 := c3.trans (d4.mono c3.size)
    have a0_4 := (d4.cell (p := ⟨w.heap.size, 0, none⟩) al_3).trans a0_3
    have a1_4 := (d4.cell (p := ⟨w.heap.size, 1, none⟩) al_3).trans a1_3
    have a2_4 := (d4.cell (p := ⟨w.heap.size, 2, none⟩) al_3).trans a2_3
    have a3_4 := (d4.cell (p := ⟨w.heap.size, 3, none⟩) al_3).trans a3_3
    have a4_4 := (d4.cell (p := ⟨w.heap.size, 4, none⟩) al_3).trans a4_3
    have a5_4 := (d4.cell (p := ⟨w.heap.size, 5, none⟩) al_3).trans a5_3
    have a6_4 := (d4.cell (p := ⟨w.heap.size, 6, none⟩) al_3).trans a6_3
    have a7_4 := (d4.cell (p := ⟨w.heap.size, 7, none⟩) al_3).trans a7_3
    have a8_4 := (d4.cell (p := ⟨w.heap.size, 8, none⟩) al_3).trans a8_3
    have a9_4 := (d4.cell (p := ⟨w.heap.size, 9, none⟩) al_3).trans a9_3
    have a10_4 := (d4.cell (p := ⟨w.heap.size, 10, none⟩) al_3).trans a10_3
    have a11_4 := (d4.cell (p := ⟨w.heap.size, 11, none⟩) al_3).trans a11_3
    have a12_4 := (d4.cell (p := ⟨w.heap.size, 12, none⟩) al_3).trans a12_3
    have a13_4 := (d4.cell (p := ⟨w.heap.size, 13, none⟩) al_3).trans a13_3
    have al_4 := Nat.lt_of_lt_of_le al_3 d4.size
    clear a0_3 a1_3 a2_3 a3_3 a4_3 a5_3 a6_3 a7_3 a8_3 a9_3 a10_3 a11_3 a12_3 a13_3 al_3
    have RS_4 := hid hso
    clear b4 d4 hso RZ_3
    go_wp2_with fail
    generalize hW5 : (w4.alloc (.cells #[.int .i64 n0, .int .i64 n1, .int .i64 n2, .bool p0, .bool p1, .bool p2, .bool p3, .int .i64 n3, .int .i64 n4, .int .i64 n5, .int .i64 n6, .int .i64 n7, .slice so L0.length sc, .slice sf L1.length sd] 38)) = w5
    have s0_5 : w5.cell? ⟨w4.heap.size, 0, none⟩ = some (.int .i64 n0) := by subst hW5; go_cell
    have s1_5 : w5.cell? ⟨w4.heap.size, 1, none⟩ = some (.int .i64 n1) := by subst hW5; go_cell
    have s2_5 : w5.cell? ⟨w4.heap.size, 2, none⟩ = some (.int .i64 n2) := by subst hW5; go_cell
    have s3_5 : w5.cell? ⟨w4.heap.size, 3, none⟩ = some (.bool p0) := by subst hW5; go_cell
    have s4_5 : w5.cell? ⟨w4.heap.size, 4, none⟩ = some (.bool p1) := by subst hW5; go_cell
    have s5_5 : w5.cell? ⟨w4.heap.size, 5, none⟩ = some (.bool p2) := by subst hW5; go_cell
    have s6_5 : w5.cell? ⟨w4.heap.size, 6, none⟩ = some (.bool p3) := by subst hW5; go_cell
    have s7_5 : w5.cell? ⟨w4.heap.size, 7, none⟩ = some (.int .i64 n3) := by subst hW5; go_cell
    have s8_5 : w5.cell? ⟨w4.heap.size, 8, none⟩ = some (.int .i64 n4) := by subst hW5; go_cell
    have s9_5 : w5.cell? ⟨w4.heap.size, 9, none⟩ = some (.int .i64 n5) := by subst hW5; go_cell
    have s10_5 : w5.cell? ⟨w4.heap.size, 10, none⟩ = some (.int .i64 n6) := by subst hW5; go_cell
    have s11_5 : w5.cell? ⟨w4.heap.size, 11, none⟩ = some (.int .i64 n7) := by subst hW5; go_cell
    have s12_5 : w5.cell? ⟨w4.heap.size, 12, none⟩ = some (.slice so L0.length sc) := by subst hW5; go_cell
    have s13_5 : w5.cell? ⟨w4.heap.size, 13, none⟩ = some (.slice sf L1.length sd) := by subst hW5; go_cell
    have sl_5 : w4.heap.size < w5.heap.size := by subst hW5; simp
    have d5 : Below w4.heap.size w4 w5 := by subst hW5; go_grown
    clear hW5
    have c5 : Below w.heap.size w w5 := c4.trans (d5.mono c4.size)
    have a0_5 : w5.cell? ⟨w.heap.size, 0, none⟩ = some (.int .i64 i0) := (by rw [d5.cell (by first | omega | (simp; done) | (simp; omega))]; go_cell)
    have a1_5 : w5.cell? ⟨w.heap.size, 1, none⟩ = some (.int .i64 i1) := (by rw [d5.cell (by first | omega | (simp; done) | (simp; omega))]; go_cell)
    have a2_5 : w5.cell? ⟨w.heap.size, 2, none⟩ = some (.int .i64 i2) := (by rw [d5.cell (by first | omega | (simp; done) | (simp; omega))]; go_cell)
    have a3_5 : w5.cell? ⟨w.heap.size, 3, none⟩ = some (.bool q0) := (by rw [d5.cell (by first | omega | (simp; done) | (simp; omega))]; go_cell)
    have a4_5 : w5.cell? ⟨w.heap.size, 4, none⟩ = some (.bool q1) := (by rw [d5.cell (by first | omega | (simp; done) | (simp; omega))]; go_cell)
    have a5_5 : w5.cell? ⟨w.heap.size, 5, none⟩ = some (.bool q2) := (by rw [d5.cell (by first | omega | (simp; done) | (simp; omega))]; go_cell)
    have a6_5 : w5.cell? ⟨w.heap.size, 6, none⟩ = some (.bool q3) := (by rw [d5.cell (by first | omega | (simp; done) | (simp; omega))]; go_cell)
    have a7_5 : w5.cell? ⟨w.heap.size, 7, none⟩ = some (.int .i64 i3) := (by rw [d5.cell (by first | omega | (simp; done) | (simp; omega))]; go_cell)
    have a8_5 : w5.cell? ⟨w.heap.size, 8, none⟩ = some (.int .i64 i4) := (by rw [d5.cell (by first | omega | (simp; done) | (simp; omega))]; go_cell)
    have a9_5 : w5.cell? ⟨w.heap.size, 9, none⟩ = some (.int .i64 i5) := (by rw [d5.cell (by first | omega | (simp; done) | (simp; omega))]; go_cell)
    have a10_5 : w5.cell? ⟨w.heap.size, 10, none⟩ = some (.int .i64 i6) := (by rw [d5.cell (by first | omega | (simp; done) | (simp; omega))]; go_cell)
    have a11_5 : w5.cell? ⟨w.heap.size, 11, none⟩ = some (.int .i64 i7) := (by rw [d5.cell (by first | omega | (simp; done) | (simp; omega))]; go_cell)
    have a12_5 : w5.cell? ⟨w.heap.size, 12, none⟩ = some (.slice ao0 A0.length ac0) := (by rw [d5.cell (by first | omega | (simp; done) | (simp; omega))]; go_cell)
    have a13_5 : w5.cell? ⟨w.heap.size, 13, none⟩ = some (.slice ao1 A1.length ac1) := (by rw [d5.cell (by first | omega | (simp; done) | (simp; omega))]; go_cell)
    have al_5 : w.heap.size < w5.heap.size := (by have := d5.size; omega)
    clear a0_4 a1_4 a2_4 a3_4 a4_4 a5_4 a6_4 a7_4 a8_4 a9_4 a10_4 a11_4 a12_4 a13_4 al_4
    have RS_5 := hid (RS_4.out.later d5)
    have HRS := hid RS_5.out
    clear d5 RS_4
    have E5_5 := Below.refl w5.heap.size w5
    have HSL := hid sl_5
    have HAL := hid al_5
    go_wp2_with fail
    refine (toTier_rd i0 i1 i2 q0 q1 q2 q3 i3 i4 i5 i6 i7 _ _ A0 A1 _ (HA.out.later c5) HLA.out).mono ?_
    rintro e w6 ⟨⟨xo0, xo1, xc0, xc1, rfl, _, B1, ox0, ox1, hB1, hB2⟩, b6⟩
    have OX0_6 := hid ox0
    have OX1_6 := hid ox1
    clear ox0 ox1
    have d6 : Below w5.heap.size w5 w6 := (Below.trans (by go_grown) (b6.mono (by first | omega | (simp; done) | (simp; omega))))
    have c6 : Below w.heap.size w w6 := c5.trans (d6.mono c5.size)
    have a0_6 := (d6.cell (p := ⟨w.heap.size, 0, none⟩) al_5).trans a0_5
    have a1_6 := (d6.cell (p := ⟨w.heap.size, 1, none⟩) al_5).trans a1_5
    have a2_6 := (d6.cell (p := ⟨w.heap.size, 2, none⟩) al_5).trans a2_5
    have a3_6 := (d6.cell (p := ⟨w.heap.size, 3, none⟩) al_5).trans a3_5
    have a4_6 := (d6.cell (p := ⟨w.heap.size, 4, none⟩) al_5).trans a4_5
    have a5_6 := (d6.cell (p := ⟨w.heap.size, 5, none⟩) al_5).trans a5_5
    have a6_6 := (d6.cell (p := ⟨w.heap.size, 6, none⟩) al_5).trans a6_5
    have a7_6 := (d6.cell (p := ⟨w.heap.size, 7, none⟩) al_5).trans a7_5
    have a8_6 := (d6.cell (p := ⟨w.heap.size, 8, none⟩) al_5).trans a8_5
    have a9_6 := (d6.cell (p := ⟨w.heap.size, 9, none⟩) al_5).trans a9_5
    have a10_6 := (d6.cell (p := ⟨w.heap.size, 10, none⟩) al_5).trans a10_5
    have a11_6 := (d6.cell (p := ⟨w.heap.size, 11, none⟩) al_5).trans a11_5
    have a12_6 := (d6.cell (p := ⟨w.heap.size, 12, none⟩) al_5).trans a12_5
    have a13_6 := (d6.cell (p := ⟨w.heap.size, 13, none⟩) al_5).trans a13_5
    have al_6 := Nat.lt_of_lt_of_le al_5 d6.size
    have s0_6 := (d6.cell (p := ⟨w4.heap.size, 0, none⟩) sl_5).trans s0_5
    have s1_6 := (d6.cell (p := ⟨w4.heap.size, 1, none⟩) sl_5).trans s1_5
    have s2_6 := (d6.cell (p := ⟨w4.heap.size, 2, none⟩) sl_5).trans s2_5
    have s3_6 := (d6.cell (p := ⟨w4.heap.size, 3, none⟩) sl_5).trans s3_5
    have s4_6 := (d6.cell (p := ⟨w4.heap.size, 4, none⟩) sl_5).trans s4_5
    have s5_6 := (d6.cell (p := ⟨w4.heap.size, 5, none⟩) sl_5).trans s5_5
    have s6_6 := (d6.cell (p := ⟨w4.heap.size, 6, none⟩) sl_5).trans s6_5
    have s7_6 := (d6.cell (p := ⟨w4.heap.size, 7, none⟩) sl_5).trans s7_5
    have s8_6 := (d6.cell (p := ⟨w4.heap.size, 8, none⟩) sl_5).trans s8_5
    have s9_6 := (d6.cell (p := ⟨w4.heap.size, 9, none⟩) sl_5).trans s9_5
    have s10_6 := (d6.cell (p := ⟨w4.heap.size, 10, none⟩) sl_5).trans s10_5
    have s11_6 := (d6.cell (p := ⟨w4.heap.size, 11, none⟩) sl_5).trans s11_5
    have s12_6 := (d6.cell (p := ⟨w4.heap.size, 12, none⟩) sl_5).trans s12_5
    have s13_6 := (d6.cell (p := ⟨w4.heap.size, 13, none⟩) sl_5).trans s13_5
    have sl_6 := Nat.lt_of_lt_of_le sl_5 d6.size
    clear a0_5 a1_5 a2_5 a3_5 a4_5 a5_5 a6_5 a7_5 a8_5 a9_5 a10_5 a11_5 a12_5 a13_5 al_5 s0_5 s1_5 s2_5 s3_5 s4_5 s5_5 s6_5 s7_5 s8_5 s9_5 s10_5 s11_5 s12_5 s13_5 sl_5
    have HB := hid (And.intro hB1 hB2)
    clear hB1 hB2
    have RS_6 := hid (RS_5.out.later d6)
    have E5_6 : Below w5.heap.size w5 w6 := E5_5.trans (d6.mono E5_5.size)
    clear d6 RS_5 E5_5
    clear b6
    go_wp2_with fail
    generalize hW7 : (w6.alloc (.cells #[.int .i64 i0, .int .i64 i1, .int .i64 i2, .bool q0, .bool q1, .bool q2, .bool q3, .int .i64 i3, .int .i64 i4, .int .i64 i5, .int .i64 i6, .int .i64 i7, .slice xo0 A0.length xc0, .slice xo1 A1.length xc1] 38)) = w7
    have x0_7 : w7.cell? ⟨w6.heap.size, 0, none⟩ = some (.int .i64 i0) := by subst hW7; go_cell
    have x1_7 : w7.cell? ⟨w6.heap.size, 1, none⟩ = some (.int .i64 i1) := by subst hW7; go_cell
    have x2_7 : w7.cell? ⟨w6.heap.size, 2, none⟩ = some (.int .i64 i2) := by subst hW7; go_cell
    have x3_7 : w7.cell? ⟨w6.heap.size, 3, none⟩ = some (.bool q0) := by subst hW7; go_cell
    have x4_7 : w7.cell? ⟨w6.heap.size, 4, none⟩ = some (.bool q1) := by subst hW7; go_cell
    have x5_7 : w7.cell? ⟨w6.heap.size, 5, none⟩ = some (.bool q2) := by subst hW7; go_cell
    have x6_7 : w7.cell? ⟨w6.heap.size, 6, none⟩ = some (.bool q3) := by subst hW7; go_cell
    have x7_7 : w7.cell? ⟨w6.heap.size, 7, none⟩ = some (.int .i64 i3) := by subst hW7; go_cell
    have x8_7 : w7.cell? ⟨w6.heap.size, 8, none⟩ = some (.int .i64 i4) := by subst hW7; go_cell
    have x9_7 : w7.cell? ⟨w6.heap.size, 9, none⟩ = some (.int .i64 i5) := by subst hW7; go_cell
    have x10_7 : w7.cell? ⟨w6.heap.size, 10, none⟩ = some (.int .i64 i6) := by subst hW7; go_cell
    have x11_7 : w7.cell? ⟨w6.heap.size, 11, none⟩ = some (.int .i64 i7) := by subst hW7; go_cell
    have x12_7 : w7.cell? ⟨w6.heap.size, 12, none⟩ = some (.slice xo0 A0.length xc0) := by subst hW7; go_cell
    have x13_7 : w7.cell? ⟨w6.heap.size, 13, none⟩ = some (.slice xo1 A1.length xc1) := by subst hW7; go_cell
    have xl_7 : w6.heap.size < w7.heap.size := by subst hW7; simp
    have d7 : Below w6.heap.size w6 w7 := by subst hW7; go_grown
    clear hW7
    have c7 : Below w.heap.size w w7 := c6.trans (d7.mono c6.size)
    have a0_7 : w7.cell? ⟨w.heap.size, 0, none⟩ = some (.int .i64 i0) := (by rw [d7.cell (by first | omega | (simp; done) | (simp; omega))]; go_cell)
    have a1_7 : w7.cell? ⟨w.heap.size, 1, none⟩ = some (.int .i64 i1) := (by rw [d7.cell (by first | omega | (simp; done) | (simp; omega))]; go_cell)
    have a2_7 : w7.cell? ⟨w.heap.size, 2, none⟩ = some (.int .i64 i2) := (by rw [d7.cell (by first | omega | (simp; done) | (simp; omega))]; go_cell)
    have a3_7 : w7.cell? ⟨w.heap.size, 3, none⟩ = some (.bool q0) := (by rw [d7.cell (by first | omega | (simp; done) | (simp; omega))]; go_cell)
    have a4_7 : w7.cell? ⟨w.heap.size, 4, none⟩ = some (.bool q1) := (by rw [d7.cell (by first | omega | (simp; done) | (simp; omega))]; go_cell)
    have a5_7 : w7.cell? ⟨w.heap.size, 5, none⟩ = some (.bool q2) := (by rw [d7.cell (by first | omega | (simp; done) | (simp; omega))]; go_cell)
    have a6_7 : w7.cell? ⟨w.heap.size, 6, none⟩ = some (.bool q3) := (by rw [d7.cell (by first | omega | (simp; done) | (simp; omega))]; go_cell)
    have a7_7 : w7.cell? ⟨w.heap.size, 7, none⟩ = some (.int .i64 i3) := (by rw [d7.cell (by first | omega | (simp; done) | (simp; omega))]; go_cell)
    have a8_7 : w7.cell? ⟨w.heap.size, 8, none⟩ = some (.int .i64 i4) := (by rw [d7.cell (by first | omega | (simp; done) | (simp; omega))]; go_cell)
    have a9_7 : w7.cell? ⟨w.heap.size, 9, none⟩ = some (.int .i64 i5) := (by rw [d7.cell (by first | omega | (simp; done) | (simp; omega))]; go_cell)
    have a10_7 : w7.cell? ⟨w.heap.size, 10, none⟩ = some (.int .i64 i6) := (by rw [d7.cell (by first | omega | (simp; done) | (simp; omega))]; go_cell)
    have a11_7 : w7.cell? ⟨w.heap.size, 11, none⟩ = some (.int .i64 i7) := (by rw [d7.cell (by first | omega | (simp; done) | (simp; omega))]; go_cell)
    have a12_7 : w7.cell? ⟨w.heap.size, 12, none⟩ = some (.slice ao0 A0.length ac0) := (by rw [d7.cell (by first | omega | (simp; done) | (simp; omega))]; go_cell)
    have a13_7 : w7.cell? ⟨w.heap.size, 13, none⟩ = some (.slice ao1 A1.length ac1) := (by rw [d7.cell (by first | omega | (simp; done) | (simp; omega))]; go_cell)
    have al_7 : w.heap.size < w7.heap.size := (by have := d7.size; omega)
    have s0_7 : w7.cell? ⟨w4.heap.size, 0, none⟩ = some (.int .i64 n0) := (by rw [d7.cell (by first | omega | (simp; done) | (simp; omega))]; go_cell)
    have s1_7 : w7.cell? ⟨w4.heap.size, 1, none⟩ = some (.int .i64 n1) := (by rw [d7.cell (by first | omega | (simp; done) | (simp; omega))]; go_cell)
    have s2_7 : w7.cell? ⟨w4.heap.size, 2, none⟩ = some (.int .i64 n2) := (by rw [d7.cell (by first | omega | (simp; done) | (simp; omega))]; go_cell)
    have s3_7 : w7.cell? ⟨w4.heap.size, 3, none⟩ = some (.bool p0) := (by rw [d7.cell (by first | omega | (simp; done) | (simp; omega))]; go_cell)
    have s4_7 : w7.cell? ⟨w4.heap.size, 4, none⟩ = some (.bool p1) := (by rw [d7.cell (by first | omega | (simp; done) | (simp; omega))]; go_cell)
    have s5_7 : w7.cell? ⟨w4.heap.size, 5, none⟩ = some (.bool p2) := (by rw [d7.cell (by first | omega | (simp; done) | (simp; omega))]; go_cell)
    have s6_7 : w7.cell? ⟨w4.heap.size, 6, none⟩ = some (.bool p3) := (by rw [d7.cell (by first | omega | (simp; done) | (simp; omega))]; go_cell)
    have s7_7 : w7.cell? ⟨w4.heap.size, 7, none⟩ = some (.int .i64 n3) := (by rw [d7.cell (by first | omega | (simp; done) | (simp; omega))]; go_cell)
    have s8_7 : w7.cell? ⟨w4.heap.size, 8, none⟩ = some (.int .i64 n4) := (by rw [d7.cell (by first | omega | (simp; done) | (simp; omega))]; go_cell)
    have s9_7 : w7.cell? ⟨w4.heap.size, 9, none⟩ = some (.int .i64 n5) := (by rw [d7.cell (by first | omega | (simp; done) | (simp; omega))]; go_cell)
    have s10_7 : w7.cell? ⟨w4.heap.size, 10, none⟩ = some (.int .i64 n6) := (by rw [d7.cell (by first | omega | (simp; done) | (simp; omega))]; go_cell)
    have s11_7 : w7.cell? ⟨w4.heap.size, 11, none⟩ = some (.int .i64 n7) := (by rw [d7.cell (by first | omega | (simp; done) | (simp; omega))]; go_cell)
    have s12_7 : w7.cell? ⟨w4.heap.size, 12, none⟩ = some (.slice so L0.length sc) := (by rw [d7.cell (by first | omega | (simp; done) | (simp; omega))]; go_cell)
    have s13_7 : w7.cell? ⟨w4.heap.size, 13, none⟩ = some (.slice sf L1.length sd) := (by rw [d7.cell (by first | omega | (simp; done) | (simp; omega))]; go_cell)
    have sl_7 : w4.heap.size < w7.heap.size := (by have := d7.size; omega)
    clear a0_6 a1_6 a2_6 a3_6 a4_6 a5_6 a6_6 a7_6 a8_6 a9_6 a10_6 a11_6 a12_6 a13_6 al_6 s0_6 s1_6 s2_6 s3_6 s4_6 s5_6 s6_6 s7_6 s8_6 s9_6 s10_6 s11_6 s12_6 s13_6 sl_6
    have OX0_7 := hid (OX0_6.out.later d7)
    have OX1_7 := hid (OX1_6.out.later d7)
    clear OX0_6 OX1_6
    have RS_7 := hid (RS_6.out.later d7)
    have E5_7 : Below w5.heap.size w5 w7 := E5_6.trans (d7.mono E5_6.size)
    clear d7 RS_6 E5_6
    have HX7 := hid xl_7
    have HS67 := hid (show w6.heap.size ≤ w7.heap.size from by have := xl_7; omega)
    go_wp2_with fail
    refine (ID _ _ _ ⟨OX0_7.out.rd (by decide) (by decide), OX1_7.out.rd (by decide) (by decide)⟩).mono ?_
    rintro e w8 ⟨⟨go, gc, gf, gd, gg, rfl, hgB, hgS, hgo, hgf⟩, b8⟩
    have d8 : Below w7.heap.size w7 w8 := (Below.trans (by go_grown) (b8.mono (by first | omega | (simp; done) | (simp; omega))))
    have c8 : Below w.heap.size w w8 := c7.trans (d8.mono c7.size)
    have a0_8 := (d8.cell (p := ⟨w.heap.size, 0, none⟩) al_7).trans a0_7
    have a1_8 := (d8.cell (p := ⟨w.heap.size, 1, none⟩) al_7).trans a1_7
    have a2_8 := (d8.cell (p := ⟨w.heap.size, 2, none⟩) al_7).trans a2_7
    have a3_8 := (d8.cell (p := ⟨w.heap.size, 3, none⟩) al_7).trans a3_7
    have a4_8 := (d8.cell (p := ⟨w.heap.size, 4, none⟩) al_7).trans a4_7
    have a5_8 := (d8.cell (p := ⟨w.heap.size, 5, none⟩) al_7).trans a5_7
    have a6_8 := (d8.cell (p := ⟨w.heap.size, 6, none⟩) al_7).trans a6_7
    have a7_8 := (d8.cell (p := ⟨w.heap.size, 7, none⟩) al_7).trans a7_7
    have a8_8 := (d8.cell (p := ⟨w.heap.size, 8, none⟩) al_7).trans a8_7
    have a9_8 := (d8.cell (p := ⟨w.heap.size, 9, none⟩) al_7).trans a9_7
    have a10_8 := (d8.cell (p := ⟨w.heap.size, 10, none⟩) al_7).trans a10_7
    have a11_8 := (d8.cell (p := ⟨w.heap.size, 11, none⟩) al_7).trans a11_7
    have a12_8 := (d8.cell (p := ⟨w.heap.size, 12, none⟩) al_7).trans a12_7
    have a13_8 := (d8.cell (p := ⟨w.heap.size, 13, none⟩) al_7).trans a13_7
    have al_8 := Nat.lt_of_lt_of_le al_7 d8.size
    have s0_8 := (d8.cell (p := ⟨w4.heap.size, 0, none⟩) sl_7).trans s0_7
    have s1_8 := (d8.cell (p := ⟨w4.heap.size, 1, none⟩) sl_7).trans s1_7
    have s2_8 := (d8.cell (p := ⟨w4.heap.size, 2, none⟩) sl_7).trans s2_7
    have s3_8 := (d8.cell (p := ⟨w4.heap.size, 3, none⟩) sl_7).trans s3_7
    have s4_8 := (d8.cell (p := ⟨w4.heap.size, 4, none⟩) sl_7).trans s4_7
    have s5_8 := (d8.cell (p := ⟨w4.heap.size, 5, none⟩) sl_7).trans s5_7
    have s6_8 := (d8.cell (p := ⟨w4.heap.size, 6, none⟩) sl_7).trans s6_7
    have s7_8 := (d8.cell (p := ⟨w4.heap.size, 7, none⟩) sl_7).trans s7_7
    have s8_8 := (d8.cell (p := ⟨w4.heap.size, 8, none⟩) sl_7).trans s8_7
    have s9_8 := (d8.cell (p := ⟨w4.heap.size, 9, none⟩) sl_7).trans s9_7
    have s10_8 := (d8.cell (p := ⟨w4.heap.size, 10, none⟩) sl_7).trans s10_7
    have s11_8 := (d8.cell (p := ⟨w4.heap.size, 11, none⟩) sl_7).trans s11_7
    have s12_8 := (d8.cell (p := ⟨w4.heap.size, 12, none⟩) sl_7).trans s12_7
    have s13_8 := (d8.cell (p := ⟨w4.heap.size, 13, none⟩) sl_7).trans s13_7
    have sl_8 := Nat.lt_of_lt_of_le sl_7 d8.size
    have x0_8 := (d8.cell (p := ⟨w6.heap.size, 0, none⟩) xl_7).trans x0_7
    have x1_8 := (d8.cell (p := ⟨w6.heap.size, 1, none⟩) xl_7).trans x1_7
    have x2_8 := (d8.cell (p := ⟨w6.heap.size, 2, none⟩) xl_7).trans x2_7
    have x3_8 := (d8.cell (p := ⟨w6.heap.size, 3, none⟩) xl_7).trans x3_7
    have x4_8 := (d8.cell (p := ⟨w6.heap.size, 4, none⟩) xl_7).trans x4_7
    have x5_8 := (d8.cell (p := ⟨w6.heap.size, 5, none⟩) xl_7).trans x5_7
    have x6_8 := (d8.cell (p := ⟨w6.heap.size, 6, none⟩) xl_7).trans x6_7
    have x7_8 := (d8.cell (p := ⟨w6.heap.size, 7, none⟩) xl_7).trans x7_7
    have x8_8 := (d8.cell (p := ⟨w6.heap.size, 8, none⟩) xl_7).trans x8_7
    have x9_8 := (d8.cell (p := ⟨w6.heap.size, 9, none⟩) xl_7).trans x9_7
    have x10_8 := (d8.cell (p := ⟨w6.heap.size, 10, none⟩) xl_7).trans x10_7
    have x11_8 := (d8.cell (p := ⟨w6.heap.size, 11, none⟩) xl_7).trans x11_7
    have x12_8 := (d8.cell (p := ⟨w6.heap.size, 12, none⟩) xl_7).trans x12_7
    have x13_8 := (d8.cell (p := ⟨w6.heap.size, 13, none⟩) xl_7).trans x13_7
    have xl_8 := Nat.lt_of_lt_of_le xl_7 d8.size
    clear a0_7 a1_7 a2_7 a3_7 a4_7 a5_7 a6_7 a7_7 a8_7 a9_7 a10_7 a11_7 a12_7 a13_7 al_7 s0_7 s1_7 s2_7 s3_7 s4_7 s5_7 s6_7 s7_7 s8_7 s9_7 s10_7 s11_7 s12_7 s13_7 sl_7 x0_7 x1_7 x2_7 x3_7 x4_7 x5_7 x6_7 x7_7 x8_7 x9_7 x10_7 x11_7 x12_7 x13_7 xl_7
    have OG_8 := hid hgo
    have OF_8 := hid hgf
    have HGG := hid (And.intro hgB hgS)
    have HLL := hid (And.intro hgo.len hgf.non)
    clear hgo hgf hgB hgS b8
    have OX0_8 := hid (OX0_7.out.later d8)
    have OX1_8 := hid (OX1_7.out.later d8)
    clear OX0_7 OX1_7
    have HS78 := hid d8.size
    have RS_8 := hid (RS_7.out.later d8)
    have E5_8 : Below w5.heap.size w5 w8 := E5_7.trans (d8.mono E5_7.size)
    clear d8 RS_7 E5_7
    go_wp2_with fail
    generalize hW9 : (w8.alloc (.cells #[.int .i64 n0, .int .i64 n1, .int .i64 n2, .bool p0, .bool p1, .bool p2, .bool p3, .int .i64 n3, .int .i64 n4, .int .i64 n5, .int .i64 n6, .int .i64 n7, .slice go L0.length gc, .slice gf L1.length gd] 38)) = w9
    have g0_9 : w9.cell? ⟨w8.heap.size, 0, none⟩ = some (.int .i64 n0) := by subst hW9; go_cell
    have g1_9 : w9.cell? ⟨w8.heap.size, 1, none⟩ = some (.int .i64 n1) := by subst hW9; go_cell
    have g2_9 : w9.cell? ⟨w8.heap.size, 2, none⟩ = some (.int .i64 n2) := by subst hW9; go_cell
    have g3_9 : w9.cell? ⟨w8.heap.size, 3, none⟩ = some (.bool p0) := by subst hW9; go_cell
    have g4_9 : w9.cell? ⟨w8.heap.size, 4, none⟩ = some (.bool p1) := by subst hW9; go_cell
    have g5_9 : w9.cell? ⟨w8.heap.size, 5, none⟩ = some (.bool p2) := by subst hW9; go_cell
    have g6_9 : w9.cell? ⟨w8.heap.size, 6, none⟩ = some (.bool p3) := by subst hW9; go_cell
    have g7_9 : w9.cell? ⟨w8.heap.size, 7, none⟩ = some (.int .i64 n3) := by subst hW9; go_cell
    have g8_9 : w9.cell? ⟨w8.heap.size, 8, none⟩ = some (.int .i64 n4) := by subst hW9; go_cell
    have g9_9 : w9.cell? ⟨w8.heap.size, 9, none⟩ = some (.int .i64 n5) := by subst hW9; go_cell
    have g10_9 : w9.cell? ⟨w8.heap.size, 10, none⟩ = some (.int .i64 n6) := by subst hW9; go_cell
    have g11_9 : w9.cell? ⟨w8.heap.size, 11, none⟩ = some (.int .i64 n7) := by subst hW9; go_cell
    have g12_9 : w9.cell? ⟨w8.heap.size, 12, none⟩ = some (.slice go L0.length gc) := by subst hW9; go_cell
    have g13_9 : w9.cell? ⟨w8.heap.size, 13, none⟩ = some (.slice gf L1.length gd) := by subst hW9; go_cell
    have gl_9 : w8.heap.size < w9.heap.size := by subst hW9; simp
    have d9 : Below w8.heap.size w8 w9 := by subst hW9; go_grown
    clear hW9
    have c9 : Below w.heap.size w w9 := c8.trans (d9.mono c8.size)
    have a0_9 : w9.cell? ⟨w.heap.size, 0, none⟩ = some (.int .i64 i0) := (by rw [d9.cell (by first | omega | (simp; done) | (simp; omega))]; go_cell)
    have a1_9 : w9.cell? ⟨w.heap.size, 1, none⟩ = some (.int .i64 i1) := (by rw [d9.cell (by first | omega | (simp; done) | (simp; omega))]; go_cell)
    have a2_9 : w9.cell? ⟨w.heap.size, 2, none⟩ = some (.int .i64 i2) := (by rw [d9.cell (by first | omega | (simp; done) | (simp; omega))]; go_cell)
    have a3_9 : w9.cell? ⟨w.heap.size, 3, none⟩ = some (.bool q0) := (by rw [d9.cell (by first | omega | (simp; done) | (simp; omega))]; go_cell)
    have a4_9 : w9.cell? ⟨w.heap.size, 4, none⟩ = some (.bool q1) := (by rw [d9.cell (by first | omega | (simp; done) | (simp; omega))]; go_cell)
    have a5_9 : w9.cell? ⟨w.heap.size, 5, none⟩ = some (.bool q2) := (by rw [d9.cell (by first | omega | (simp; done) | (simp; omega))]; go_cell)
    have a6_9 : w9.cell? ⟨w.heap.size, 6, none⟩ = some (.bool q3) := (by rw [d9.cell (by first | omega | (simp; done) | (simp; omega))]; go_cell)
    have a7_9 : w9.cell? ⟨w.heap.size, 7, none⟩ = some (.int .i64 i3) := (by rw [d9.cell (by first | omega | (simp; done) | (simp; omega))]; go_cell)
    have a8_9 : w9.cell? ⟨w.heap.size, 8, none⟩ = some (.int .i64 i4) := (by rw [d9.cell (by first | omega | (simp; done) | (simp; omega))]; go_cell)
    have a9_9 : w9.cell? ⟨w.heap.size, 9, none⟩ = some (.int .i64 i5) := (by rw [d9.cell (by first | omega | (simp; done) | (simp; omega))]; go_cell)
    have a10_9 : w9.cell? ⟨w.heap.size, 10, none⟩ = some (.int .i64 i6) := (by rw [d9.cell (by first | omega | (simp; done) | (simp; omega))]; go_cell)
    have a11_9 : w9.cell? ⟨w.heap.size, 11, none⟩ = some (.int .i64 i7) := (by rw [d9.cell (by first | omega | (simp; done) | (simp; omega))]; go_cell)
    have a12_9 : w9.cell? ⟨w.heap.size, 12, none⟩ = some (.slice ao0 A0.length ac0) := (by rw [d9.cell (by first | omega | (simp; done) | (simp; omega))]; go_cell)
    have a13_9 : w9.cell? ⟨w.heap.size, 13, none⟩ = some (.slice ao1 A1.length ac1) := (by rw [d9.cell (by first | omega | (simp; done) | (simp; omega))]; go_cell)
    have al_9 : w.heap.size < w9.heap.size := (by have := d9.size; omega)
    have s0_9 : w9.cell? ⟨w4.heap.size, 0, none⟩ = some (.int .i64 n0) := (by rw [d9.cell (by first | omega | (simp; done) | (simp; omega))]; go_cell)
    have s1_9 : w9.cell? ⟨w4.heap.size, 1, none⟩ = some (.int .i64 n1) := (by rw [d9.cell (by first | omega | (simp; done) | (simp; omega))]; go_cell)
    have s2_9 : w9.cell? ⟨w4.heap.size, 2, none⟩ = some (.int .i64 n2) := (by rw [d9.cell (by first | omega | (simp; done) | (simp; omega))]; go_cell)
    have s3_9 : w9.cell? ⟨w4.heap.size, 3, none⟩ = some (.bool p0) := (by rw [d9.cell (by first | omega | (simp; done) | (simp; omega))]; go_cell)
    have s4_9 : w9.cell? ⟨w4.heap.size, 4, none⟩ = some (.bool p1) := (by rw [d9.cell (by first | omega | (simp; done) | (simp; omega))]; go_cell)
    have s5_9 : w9.cell? ⟨w4.heap.size, 5, none⟩ = some (.bool p2) := (by rw [d9.cell (by first | omega | (simp; done) | (simp; omega))]; go_cell)
    have s6_9 : w9.cell? ⟨w4.heap.size, 6, none⟩ = some (.bool p3) := (by rw [d9.cell (by first | omega | (simp; done) | (simp; omega))]; go_cell)
    have s7_9 : w9.cell? ⟨w4.heap.size, 7, none⟩ = some (.int .i64 n3) := (by rw [d9.cell (by first | omega | (simp; done) | (simp; omega))]; go_cell)
    have s8_9 : w9.cell? ⟨w4.heap.size, 8, none⟩ = some (.int .i64 n4) := (by rw [d9.cell (by first | omega | (simp; done) | (simp; omega))]; go_cell)
    have s9_9 : w9.cell? ⟨w4.heap.size, 9, none⟩ = some (.int .i64 n5) := (by rw [d9.cell (by first | omega | (simp; done) | (simp; omega))]; go_cell)
    have s10_9 : w9.cell? ⟨w4.heap.size, 10, none⟩ = some (.int .i64 n6) := (by rw [d9.cell (by first | omega | (simp; done) | (simp; omega))]; go_cell)
    have s11_9 : w9.cell? ⟨w4.heap.size, 11, none⟩ = some (.int .i64 n7) := (by rw [d9.cell (by first | omega | (simp; done) | (simp; omega))]; go_cell)
    have s12_9 : w9.cell? ⟨w4.heap.size, 12, none⟩ = some (.slice so L0.length sc) := (by rw [d9.cell (by first | omega | (simp; done) | (simp; omega))]; go_cell)
    have s13_9 : w9.cell? ⟨w4.heap.size, 13, none⟩ = some (.slice sf L1.length sd) := (by rw [d9.cell (by first | omega | (simp; done) | (simp; omega))]; go_cell)
    have sl_9 : w4.heap.size < w9.heap.size := (by have := d9.size; omega)
    have x0_9 : w9.cell? ⟨w6.heap.size, 0, none⟩ = some (.int .i64 i0) := (by rw [d9.cell (by first | omega | (simp; done) | (simp; omega))]; go_cell)
    have x1_9 : w9.cell? ⟨w6.heap.size, 1, none⟩ = some (.int .i64 i1) := (by rw [d9.cell (by first | omega | (simp; done) | (simp; omega))]; go_cell)
    have x2_9 : w9.cell? ⟨w6.heap.size, 2, none⟩ = some (.int .i64 i2) := (by rw [d9.cell (by first | omega | (simp; done) | (simp; omega))]; go_cell)
    have x3_9 : w9.cell? ⟨w6.heap.size, 3, none⟩ = some (.bool q0) := (by rw [d9.cell (by first | omega | (simp; done) | (simp; omega))]; go_cell)
    have x4_9 : w9.cell? ⟨w6.heap.size, 4, none⟩ = some (.bool q1) := (by rw [d9.cell (by first | omega | (simp; done) | (simp; omega))]; go_cell)
    have x5_9 : w9.cell? ⟨w6.heap.size, 5, none⟩ = some (.bool q2) := (by rw [d9.cell (by first | omega | (simp; done) | (simp; omega))]; go_cell)
    have x6_9 : w9.cell? ⟨w6.heap.size, 6, none⟩ = some (.bool q3) := (by rw [d9.cell (by first | omega | (simp; done) | (simp; omega))]; go_cell)
    have x7_9 : w9.cell? ⟨w6.heap.size, 7, none⟩ = some (.int .i64 i3) := (by rw [d9.cell (by first | omega | (simp; done) | (simp; omega))]; go_cell)
    have x8_9 : w9.cell? ⟨w6.heap.size, 8, none⟩ = some (.int .i64 i4) := (by rw [d9.cell (by first | omega | (simp; done) | (simp; omega))]; go_cell)
    have x9_9 : w9.cell? ⟨w6.heap.size, 9, none⟩ = some (.int .i64 i5) := (by rw [d9.cell (by first | omega | (simp; done) | (simp; omega))]; go_cell)
    have x10_9 : w9.cell? ⟨w6.heap.size, 10, none⟩ = some (.int .i64 i6) := (by rw [d9.cell (by first | omega | (simp; done) | (simp; omega))]; go_cell)
    have x11_9 : w9.cell? ⟨w6.heap.size, 11, none⟩ = some (.int .i64 i7) := (by rw [d9.cell (by first | omega | (simp; done) | (simp; omega))]; go_cell)
    have x12_9 : w9.cell? ⟨w6.heap.size, 12, none⟩ = some (.slice xo0 A0.length xc0) := (by rw [d9.cell (by first | omega | (simp; done) | (simp; omega))]; go_cell)
    have x13_9 : w9.cell? ⟨w6.heap.size, 13, none⟩ = some (.slice xo1 A1.length xc1) := (by rw [d9.cell (by first | omega | (simp; done) | (simp; omega))]; go_cell)
    have xl_9 : w6.heap.size < w9.heap.size := (by have := d9.size; omega)
    clear a0_8 a1_8 a2_8 a3_8 a4_8 a5_8 a6_8 a7_8 a8_8 a9_8 a10_8 a11_8 a12_8 a13_8 al_8 s0_8 s1_8 s2_8 s3_8 s4_8 s5_8 s6_8 s7_8 s8_8 s9_8 s10_8 s11_8 s12_8 s13_8 sl_8 x0_8 x1_8 x2_8 x3_8 x4_8 x5_8 x6_8 x7_8 x8_8 x9_8 x10_8 x11_8 x12_8 x13_8 xl_8
    have OX0_9 := hid (OX0_8.out.later d9)
    have OX1_9 := hid (OX1_8.out.later d9)
    clear OX0_8 OX1_8
    have OG_9 := hid (OG_8.out.later d9)
    have OF_9 := hid (OF_8.out.later d9)
    have RS_9 := hid (RS_8.out.later d9)
    have E5_9 : Below w5.heap.size w5 w9 := E5_8.trans (d9.mono E5_8.size)
    clear d9 OG_8 OF_8 RS_8 E5_8
    go_wp2_with fail
    refine (eqTier_rd n0 n1 n2 p0 p1 p2 p3 n3 n4 n5 n6 n7 _ _ _ _ L0 L1 _ ⟨OG_9.out.rd (by decide) (by decide), OF_9.out.rd⟩ RS_9.out).mono ?_
    rintro e w10 ⟨rfl, b10⟩
    have d10 : Below w9.heap.size w9 w10 := (Below.trans (by go_grown) (b10.mono (by first | omega | (simp; done) | (simp; omega))))
    have c10 : Below w.heap.size w w10 := c9.trans (d10.mono c9.size)
    have a0_10 := (d10.cell (p := ⟨w.heap.size, 0, none⟩) al_9).trans a0_9
    have a1_10 := (d10.cell (p := ⟨w.heap.size, 1, none⟩) al_9).trans a1_9
    have a2_10 := (d10.cell (p := ⟨w.heap.size, 2, none⟩) al_9).trans a2_9
    have a3_10 := (d10.cell (p := ⟨w.heap.size, 3, none⟩) al_9).trans a3_9
    have a4_10 := (d10.cell (p := ⟨w.heap.size, 4, none⟩) al_9).trans a4_9
    have a5_10 := (d10.cell (p := ⟨w.heap.size, 5, none⟩) al_9).trans a5_9
    have a6_10 := (d10.cell (p := ⟨w.heap.size, 6, none⟩) al_9).trans a6_9
    have a7_10 := (d10.cell (p := ⟨w.heap.size, 7, none⟩) al_9).trans a7_9
    have a8_10 := (d10.cell (p := ⟨w.heap.size, 8, none⟩) al_9).trans a8_9
    have a9_10 := (d10.cell (p := ⟨w.heap.size, 9, none⟩) al_9).trans a9_9
    have a10_10 := (d10.cell (p := ⟨w.heap.size, 10, none⟩) al_9).trans a10_9
    have a11_10 := (d10.cell (p := ⟨w.heap.size, 11, none⟩) al_9).trans a11_9
    have a12_10 := (d10.cell (p := ⟨w.heap.size, 12, none⟩) al_9).trans a12_9
    have a13_10 := (d10.cell (p := ⟨w.heap.size, 13, none⟩) al_9).trans a13_9
    have al_10 := Nat.lt_of_lt_of_le al_9 d10.size
    have s0_10 := (d10.cell (p := ⟨w4.heap.size, 0, none⟩) sl_9).trans s0_9
    have s1_10 := (d10.cell (p := ⟨w4.heap.size, 1, none⟩) sl_9).trans s1_9
    have s2_10 := (d10.cell (p := ⟨w4.heap.size, 2, none⟩) sl_9).trans s2_9
    have s3_10 := (d10.cell (p := ⟨w4.heap.size, 3, none⟩) sl_9).trans s3_9
    have s4_10 := (d10.cell (p := ⟨w4.heap.size, 4, none⟩) sl_9).trans s4_9
    have s5_10 := (d10.cell (p := ⟨w4.heap.size, 5, none⟩) sl_9).trans s5_9
    have s6_10 := (d10.cell (p := ⟨w4.heap.size, 6, none⟩) sl_9).trans s6_9
    have s7_10 := (d10.cell (p := ⟨w4.heap.size, 7, none⟩) sl_9).trans s7_9
    have s8_10 := (d10.cell (p := ⟨w4.heap.size, 8, none⟩) sl_9).trans s8_9
    have s9_10 := (d10.cell (p := ⟨w4.heap.size, 9, none⟩) sl_9).trans s9_9
    have s10_10 := (d10.cell (p := ⟨w4.heap.size, 10, none⟩) sl_9).trans s10_9
    have s11_10 := (d10.cell (p := ⟨w4.heap.size, 11, none⟩) sl_9).trans s11_9
    have s12_10 := (d10.cell (p := ⟨w4.heap.size, 12, none⟩) sl_9).trans s12_9
    have s13_10 := (d10.cell (p := ⟨w4.heap.size, 13, none⟩) sl_9).trans s13_9
    have sl_10 := Nat.lt_of_lt_of_le sl_9 d10.size
    have x0_10 := (d10.cell (p := ⟨w6.heap.size, 0, none⟩) xl_9).trans x0_9
    have x1_10 := (d10.cell (p := ⟨w6.heap.size, 1, none⟩) xl_9).trans x1_9
    have x2_10 := (d10.cell (p := ⟨w6.heap.size, 2, none⟩) xl_9).trans x2_9
    have x3_10 := (d10.cell (p := ⟨w6.heap.size, 3, none⟩) xl_9).trans x3_9
    have x4_10 := (d10.cell (p := ⟨w6.heap.size, 4, none⟩) xl_9).trans x4_9
    have x5_10 := (d10.cell (p := ⟨w6.heap.size, 5, none⟩) xl_9).trans x5_9
    have x6_10 := (d10.cell (p := ⟨w6.heap.size, 6, none⟩) xl_9).trans x6_9
    have x7_10 := (d10.cell (p := ⟨w6.heap.size, 7, none⟩) xl_9).trans x7_9
    have x8_10 := (d10.cell (p := ⟨w6.heap.size, 8, none⟩) xl_9).trans x8_9
    have x9_10 := (d10.cell (p := ⟨w6.heap.size, 9, none⟩) xl_9).trans x9_9
    have x10_10 := (d10.cell (p := ⟨w6.heap.size, 10, none⟩) xl_9).trans x10_9
    have x11_10 := (d10.cell (p := ⟨w6.heap.size, 11, none⟩) xl_9).trans x11_9
    have x12_10 := (d10.cell (p := ⟨w6.heap.size, 12, none⟩) xl_9).trans x12_9
    have x13_10 := (d10.cell (p := ⟨w6.heap.size, 13, none⟩) xl_9).trans x13_9
    have xl_10 := Nat.lt_of_lt_of_le xl_9 d10.size
    have g0_10 := (d10.cell (p := ⟨w8.heap.size, 0, none⟩) gl_9).trans g0_9
    have g1_10 := (d10.cell (p := ⟨w8.heap.size, 1, none⟩) gl_9).trans g1_9
    have g2_10 := (d10.cell (p := ⟨w8.heap.size, 2, none⟩) gl_9).trans g2_9
    have g3_10 := (d10.cell (p := ⟨w8.heap.size, 3, none⟩) gl_9).trans g3_9
    have g4_10 := (d10.cell (p := ⟨w8.heap.size, 4, none⟩) gl_9).trans g4_9
    have g5_10 := (d10.cell (p := ⟨w8.heap.size, 5, none⟩) gl_9).trans g5_9
    have g6_10 := (d10.cell (p := ⟨w8.heap.size, 6, none⟩) gl_9).trans g6_9
    have g7_10 := (d10.cell (p := ⟨w8.heap.size, 7, none⟩) gl_9).trans g7_9
    have g8_10 := (d10.cell (p := ⟨w8.heap.size, 8, none⟩) gl_9).trans g8_9
    have g9_10 := (d10.cell (p := ⟨w8.heap.size, 9, none⟩) gl_9).trans g9_9
    have g10_10 := (d10.cell (p := ⟨w8.heap.size, 10, none⟩) gl_9).trans g10_9
    have g11_10 := (d10.cell (p := ⟨w8.heap.size, 11, none⟩) gl_9).trans g11_9
    have g12_10 := (d10.cell (p := ⟨w8.heap.size, 12, none⟩) gl_9).trans g12_9
    have g13_10 := (d10.cell (p := ⟨w8.heap.size, 13, none⟩) gl_9).trans g13_9
    have gl_10 := Nat.lt_of_lt_of_le gl_9 d10.size
    clear a0_9 a1_9 a2_9 a3_9 a4_9 a5_9 a6_9 a7_9 a8_9 a9_9 a10_9 a11_9 a12_9 a13_9 al_9 s0_9 s1_9 s2_9 s3_9 s4_9 s5_9 s6_9 s7_9 s8_9 s9_9 s10_9 s11_9 s12_9 s13_9 sl_9 x0_9 x1_9 x2_9 x3_9 x4_9 x5_9 x6_9 x7_9 x8_9 x9_9 x10_9 x11_9 x12_9 x13_9 xl_9 g0_9 g1_9 g2_9 g3_9 g4_9 g5_9 g6_9 g7_9 g8_9 g9_9 g10_9 g11_9 g12_9 g13_9 gl_9
    clear b10
    have OX0_10 := hid (OX0_9.out.later d10)
    have OX1_10 := hid (OX1_9.out.later d10)
    clear OX0_9 OX1_9
    have OG_10 := hid (OG_9.out.later d10)
    have OF_10 := hid (OF_9.out.later d10)
    have RS_10 := hid (RS_9.out.later d10)
    have E5_10 : Below w5.heap.size w5 w10 := E5_9.trans (d10.mono E5_9.size)
    clear d10 OG_9 OF_9 RS_9 E5_9
    go_upto_region 10 with fail
    go_cut [31] from 27 (fun s wx => s = .bool false ∧ Below w10.heap.size w10 wx)
    case first => as_aux_lemma =>
      go_region_with (first
        | (go_at_call 10; refine (toTier_rd i0 i1 i2 q0 q1 q2 q3 i3 i4 i5 i6 i7 (.slice ao0 A0.length ac0) (.slice ao1 A1.length ac1) A0 A1 _ (HA.out.later (c10.drew)) HLA.out).mono ?_; rintro e w50 ⟨⟨zo0, zo1, zc0, zc1, rfl, oa, _⟩, b50⟩; have OE50 := hid oa; clear oa; have d50 : Below w10.heap.size w10 w50 := (Below.trans (by go_grown) (b50.mono (by first | omega | (simp; done) | (simp; omega)))); have c50 : Below w.heap.size w w50 := c10.trans (d50.mono c10.size); have x0_50 : w50.cell? ⟨w6.heap.size, 0, none⟩ = some (.int .i64 i0) := (by rw [b50.cell (by first | omega | (simp; done) | (simp; omega))]; go_cell); have x1_50 : w50.cell? ⟨w6.heap.size, 1, none⟩ = some (.int .i64 i1) := (by rw [b50.cell (by first | omega | (simp; done) | (simp; omega))]; go_cell); have x2_50 : w50.cell? ⟨w6.heap.size, 2, none⟩ = some (.int .i64 i2) := (by rw [b50.cell (by first | omega | (simp; done) | (simp; omega))]; go_cell); have x3_50 : w50.cell? ⟨w6.heap.size, 3, none⟩ = some (.bool q0) := (by rw [b50.cell (by first | omega | (simp; done) | (simp; omega))]; go_cell); have x4_50 : w50.cell? ⟨w6.heap.size, 4, none⟩ = some (.bool q1) := (by rw [b50.cell (by first | omega | (simp; done) | (simp; omega))]; go_cell); have x5_50 : w50.cell? ⟨w6.heap.size, 5, none⟩ = some (.bool q2) := (by rw [b50.cell (by first | omega | (simp; done) | (simp; omega))]; go_cell); have x6_50 : w50.cell? ⟨w6.heap.size, 6, none⟩ = some (.bool q3) := (by rw [b50.cell (by first | omega | (simp; done) | (simp; omega))]; go_cell); have x7_50 : w50.cell? ⟨w6.heap.size, 7, none⟩ = some (.int .i64 i3) := (by rw [b50.cell (by first | omega | (simp; done) | (simp; omega))]; go_cell); have x8_50 : w50.cell? ⟨w6.heap.size, 8, none⟩ = some (.int .i64 i4) := (by rw [b50.cell (by first | omega | (simp; done) | (simp; omega))]; go_cell); have x9_50 : w50.cell? ⟨w6.heap.size, 9, none⟩ = some (.int .i64 i5) := (by rw [b50.cell (by first | omega | (simp; done) | (simp; omega))]; go_cell); have x10_50 : w50.cell? ⟨w6.heap.size, 10, none⟩ = some (.int .i64 i6) := (by rw [b50.cell (by first | omega | (simp; done) | (simp; omega))]; go_cell); have x11_50 : w50.cell? ⟨w6.heap.size, 11, none⟩ = some (.int .i64 i7) := (by rw [b50.cell (by first | omega | (simp; done) | (simp; omega))]; go_cell); have x12_50 : w50.cell? ⟨w6.heap.size, 12, none⟩ = some (.slice xo0 A0.length xc0) := (by rw [b50.cell (by first | omega | (simp; done) | (simp; omega))]; go_cell); have x13_50 : w50.cell? ⟨w6.heap.size, 13, none⟩ = some (.slice xo1 A1.length xc1) := (by rw [b50.cell (by first | omega | (simp; done) | (simp; omega))]; go_cell); have xl_50 : w6.heap.size < w50.heap.size := (by have := b50.size; first | omega | (revert this; simp; done) | (revert this; simp; omega)); clear x0_10 x1_10 x2_10 x3_10 x4_10 x5_10 x6_10 x7_10 x8_10 x9_10 x10_10 x11_10 x12_10 x13_10 xl_10)
        | (go_at_call 12; refine (eqTier_rd i0 i1 i2 q0 q1 q2 q3 i3 i4 i5 i6 i7 _ _ _ _ A0 A1 _ (RSCache.later ⟨OX0_10.out.rd (by decide) (by decide), OX1_10.out.rd (by decide) (by decide)⟩ d50) OE50.out).mono ?_; rintro e w51 ⟨rfl, b51⟩; have d51 : Below w50.heap.size w50 w51 := (Below.trans (by go_grown) (b51.mono (by first | omega | (simp; done) | (simp; omega)))); have c51 : Below w.heap.size w w51 := c50.trans (d51.mono c50.size)))
      all_goals
        go_wp2_with fail
        go_meet
        exact ⟨rfl, d50.trans (d51.mono d50.size)⟩
    case rest => as_aux_lemma =>
      obtain ⟨rfl, b11⟩ := hcut
      obtain ⟨w11, hw11⟩ : ∃ y, y = wc := ⟨_, rfl⟩
      subst hw11
      have d11 : Below w10.heap.size w10 w11 := (Below.trans (by go_grown) (b11.mono (by first | omega | (simp; done) | (simp; omega))))
      have c11 : Below w.heap.size w w11 := c10.trans (d11.mono c10.size)
      have a0_11 := (d11.cell (p := ⟨w.heap.size, 0, none⟩) al_10).trans a0_10
      have a1_11 := (d11.cell (p := ⟨w.heap.size, 1, none⟩) al_10).trans a1_10
      have a2_11 := (d11.cell (p := ⟨w.heap.size, 2, none⟩) al_10).trans a2_10
      have a3_11 := (d11.cell (p := ⟨w.heap.size, 3, none⟩) al_10).trans a3_10
      have a4_11 := (d11.cell (p := ⟨w.heap.size, 4, none⟩) al_10).trans a4_10
      have a5_11 := (d11.cell (p := ⟨w.heap.size, 5, none⟩) al_10).trans a5_10
      have a6_11 := (d11.cell (p := ⟨w.heap.size, 6, none⟩) al_10).trans a6_10
      have a7_11 := (d11.cell (p := ⟨w.heap.size, 7, none⟩) al_10).trans a7_10
      have a8_11 := (d11.cell (p := ⟨w.heap.size, 8, none⟩) al_10).trans a8_10
      have a9_11 := (d11.cell (p := ⟨w.heap.size, 9, none⟩) al_10).trans a9_10
      have a10_11 := (d11.cell (p := ⟨w.heap.size, 10, none⟩) al_10).trans a10_10
      have a11_11 := (d11.cell (p := ⟨w.heap.size, 11, none⟩) al_10).trans a11_10
      have a12_11 := (d11.cell (p := ⟨w.heap.size, 12, none⟩) al_10).trans a12_10
      have a13_11 := (d11.cell (p := ⟨w.heap.size, 13, none⟩) al_10).trans a13_10
      have al_11 := Nat.lt_of_lt_of_le al_10 d11.size
      have s0_11 := (d11.cell (p := ⟨w4.heap.size, 0, none⟩) sl_10).trans s0_10
      have s1_11 := (d11.cell (p := ⟨w4.heap.size, 1, none⟩) sl_10).trans s1_10
      have s2_11 := (d11.cell (p := ⟨w4.heap.size, 2, none⟩) sl_10).trans s2_10
      have s3_11 := (d11.cell (p := ⟨w4.heap.size, 3, none⟩) sl_10).trans s3_10
      have s4_11 := (d11.cell (p := ⟨w4.heap.size, 4, none⟩) sl_10).trans s4_10
      have s5_11 := (d11.cell (p := ⟨w4.heap.size, 5, none⟩) sl_10).trans s5_10
      have s6_11 := (d11.cell (p := ⟨w4.heap.size, 6, none⟩) sl_10).trans s6_10
      have s7_11 := (d11.cell (p := ⟨w4.heap.size, 7, none⟩) sl_10).trans s7_10
      have s8_11 := (d11.cell (p := ⟨w4.heap.size, 8, none⟩) sl_10).trans s8_10
      have s9_11 := (d11.cell (p := ⟨w4.heap.size, 9, none⟩) sl_10).trans s9_10
      have s10_11 := (d11.cell (p := ⟨w4.heap.size, 10, none⟩) sl_10).trans s10_10
      have s11_11 := (d11.cell (p := ⟨w4.heap.size, 11, none⟩) sl_10).trans s11_10
      have s12_11 := (d11.cell (p := ⟨w4.heap.size, 12, none⟩) sl_10).trans s12_10
      have s13_11 := (d11.cell (p := ⟨w4.heap.size, 13, none⟩) sl_10).trans s13_10
      have sl_11 := Nat.lt_of_lt_of_le sl_10 d11.size
      have x0_11 := (d11.cell (p := ⟨w6.heap.size, 0, none⟩) xl_10).trans x0_10
      have x1_11 := (d11.cell (p := ⟨w6.heap.size, 1, none⟩) xl_10).trans x1_10
      have x2_11 := (d11.cell (p := ⟨w6.heap.size, 2, none⟩) xl_10).trans x2_10
      have x3_11 := (d11.cell (p := ⟨w6.heap.size, 3, none⟩) xl_10).trans x3_10
      have x4_11 := (d11.cell (p := ⟨w6.heap.size, 4, none⟩) xl_10).trans x4_10
      have x5_11 := (d11.cell (p := ⟨w6.heap.size, 5, none⟩) xl_10).trans x5_10
      have x6_11 := (d11.cell (p := ⟨w6.heap.size, 6, none⟩) xl_10).trans x6_10
      have x7_11 := (d11.cell (p := ⟨w6.heap.size, 7, none⟩) xl_10).trans x7_10
      have x8_11 := (d11.cell (p := ⟨w6.heap.size, 8, none⟩) xl_10).trans x8_10
      have x9_11 := (d11.cell (p := ⟨w6.heap.size, 9, none⟩) xl_10).trans x9_10
      have x10_11 := (d11.cell (p := ⟨w6.heap.size, 10, none⟩) xl_10).trans x10_10
      have x11_11 := (d11.cell (p := ⟨w6.heap.size, 11, none⟩) xl_10).trans x11_10
      have x12_11 := (d11.cell (p := ⟨w6.heap.size, 12, none⟩) xl_10).trans x12_10
      have x13_11 := (d11.cell (p := ⟨w6.heap.size, 13, none⟩) xl_10).trans x13_10
      have xl_11 := Nat.lt_of_lt_of_le xl_10 d11.size
      have g0_11 := (d11.cell (p := ⟨w8.heap.size, 0, none⟩) gl_10).trans g0_10
      have g1_11 := (d11.cell (p := ⟨w8.heap.size, 1, none⟩) gl_10).trans g1_10
      have g2_11 := (d11.cell (p := ⟨w8.heap.size, 2, none⟩) gl_10).trans g2_10
      have g3_11 := (d11.cell (p := ⟨w8.heap.size, 3, none⟩) gl_10).trans g3_10
      have g4_11 := (d11.cell (p := ⟨w8.heap.size, 4, none⟩) gl_10).trans g4_10
      have g5_11 := (d11.cell (p := ⟨w8.heap.size, 5, none⟩) gl_10).trans g5_10
      have g6_11 := (d11.cell (p := ⟨w8.heap.size, 6, none⟩) gl_10).trans g6_10
      have g7_11 := (d11.cell (p := ⟨w8.heap.size, 7, none⟩) gl_10).trans g7_10
      have g8_11 := (d11.cell (p := ⟨w8.heap.size, 8, none⟩) gl_10).trans g8_10
      have g9_11 := (d11.cell (p := ⟨w8.heap.size, 9, none⟩) gl_10).trans g9_10
      have g10_11 := (d11.cell (p := ⟨w8.heap.size, 10, none⟩) gl_10).trans g10_10
      have g11_11 := (d11.cell (p := ⟨w8.heap.size, 11, none⟩) gl_10).trans g11_10
      have g12_11 := (d11.cell (p := ⟨w8.heap.size, 12, none⟩) gl_10).trans g12_10
      have g13_11 := (d11.cell (p := ⟨w8.heap.size, 13, none⟩) gl_10).trans g13_10
      have gl_11 := Nat.lt_of_lt_of_le gl_10 d11.size
      clear a0_10 a1_10 a2_10 a3_10 a4_10 a5_10 a6_10 a7_10 a8_10 a9_10 a10_10 a11_10 a12_10 a13_10 al_10 s0_10 s1_10 s2_10 s3_10 s4_10 s5_10 s6_10 s7_10 s8_10 s9_10 s10_10 s11_10 s12_10 s13_10 sl_10 x0_10 x1_10 x2_10 x3_10 x4_10 x5_10 x6_10 x7_10 x8_10 x9_10 x10_10 x11_10 x12_10 x13_10 xl_10 g0_10 g1_10 g2_10 g3_10 g4_10 g5_10 g6_10 g7_10 g8_10 g9_10 g10_10 g11_10 g12_10 g13_10 gl_10
      have OX0_11 := hid (OX0_10.out.later d11)
      have OX1_11 := hid (OX1_10.out.later d11)
      clear OX0_10 OX1_10
      have OG_11 := hid (OG_10.out.later d11)
      have OF_11 := hid (OF_10.out.later d11)
      have RS_11 := hid (RS_10.out.later d11)
      have E5_11 : Below w5.heap.size w5 w11 := E5_10.trans (d11.mono E5_10.size)
      clear d11 OG_10 OF_10 RS_10 E5_10
      clear b11
      go_wp2_with fail
      refine (markTier_all i0 i1 i2 q0 q1 q2 q3 i3 i4 i5 i6 i7 _ _ A0 A1 1 (Span w5.heap.size B1) (Span B1 w6.heap.size) _ OX0_11.out OX1_11.out (fun b h q => by have := h.2; have := q.1; omega) (fun b h q => by have := q.2; have := h.1; omega) (by omega) HN.out).mono ?_
      rintro e w12 ⟨rfl, _, _, hn⟩
      have hspan : ∀ b, (Span w5.heap.size B1 b ∨ Span B1 w6.heap.size b) → w5.heap.size ≤ b ∧ b < w6.heap.size := fun b h => by rcases h with h | h <;> (have := h.1; have := h.2; have := HB.out; omega)
      have c12 : Below w.heap.size w w12 := c11.trans (hn.below (fun b hb => by have := (hspan b hb).1; have := HSL.out; have := HAL.out; omega) (by have := c11.size; omega))
      have z12 := hn.size
      have gz11 : w8.heap.size ≤ w11.heap.size := by have := gl_11; omega
      have h_a := hn.block (w.heap.size) (by have := al_11; omega) (fun q => by have := (hspan _ q).1; have := HAL.out; omega)
      have a0_12 := (World.cell?_of_block (a := ⟨w.heap.size, 0, none⟩) h_a).trans a0_11
      have a1_12 := (World.cell?_of_block (a := ⟨w.heap.size, 1, none⟩) h_a).trans a1_11
      have a2_12 := (World.cell?_of_block (a := ⟨w.heap.size, 2, none⟩) h_a).trans a2_11
      have a3_12 := (World.cell?_of_block (a := ⟨w.heap.size, 3, none⟩) h_a).trans a3_11
      have a4_12 := (World.cell?_of_block (a := ⟨w.heap.size, 4, none⟩) h_a).trans a4_11
      have a5_12 := (World.cell?_of_block (a := ⟨w.heap.size, 5, none⟩) h_a).trans a5_11
      have a6_12 := (World.cell?_of_block (a := ⟨w.heap.size, 6, none⟩) h_a).trans a6_11
      have a7_12 := (World.cell?_of_block (a := ⟨w.heap.size, 7, none⟩) h_a).trans a7_11
      have a8_12 := (World.cell?_of_block (a := ⟨w.heap.size, 8, none⟩) h_a).trans a8_11
      have a9_12 := (World.cell?_of_block (a := ⟨w.heap.size, 9, none⟩) h_a).trans a9_11
      have a10_12 := (World.cell?_of_block (a := ⟨w.heap.size, 10, none⟩) h_a).trans a10_11
      have a11_12 := (World.cell?_of_block (a := ⟨w.heap.size, 11, none⟩) h_a).trans a11_11
      have a12_12 := (World.cell?_of_block (a := ⟨w.heap.size, 12, none⟩) h_a).trans a12_11
      have a13_12 := (World.cell?_of_block (a := ⟨w.heap.size, 13, none⟩) h_a).trans a13_11
      have al_12 : w.heap.size < w12.heap.size := by have := al_11; omega
      clear h_a a0_11 a1_11 a2_11 a3_11 a4_11 a5_11 a6_11 a7_11 a8_11 a9_11 a10_11 a11_11 a12_11 a13_11 al_11
      have h_s := hn.block (w4.heap.size) (by have := sl_11; omega) (fun q => by have := (hspan _ q).1; have := HSL.out; omega)
      have s0_12 := (World.cell?_of_block (a := ⟨w4.heap.size, 0, none⟩) h_s).trans s0_11
      have s1_12 := (World.cell?_of_block (a := ⟨w4.heap.size, 1, none⟩) h_s).trans s1_11
      have s2_12 := (World.cell?_of_block (a := ⟨w4.heap.size, 2, none⟩) h_s).trans s2_11
      have s3_12 := (World.cell?_of_block (a := ⟨w4.heap.size, 3, none⟩) h_s).trans s3_11
      have s4_12 := (World.cell?_of_block (a := ⟨w4.heap.size, 4, none⟩) h_s).trans s4_11
      have s5_12 := (World.cell?_of_block (a := ⟨w4.heap.size, 5, none⟩) h_s).trans s5_11
      have s6_12 := (World.cell?_of_block (a := ⟨w4.heap.size, 6, none⟩) h_s).trans s6_11
      have s7_12 := (World.cell?_of_block (a := ⟨w4.heap.size, 7, none⟩) h_s).trans s7_11
      have s8_12 := (World.cell?_of_block (a := ⟨w4.heap.size, 8, none⟩) h_s).trans s8_11
      have s9_12 := (World.cell?_of_block (a := ⟨w4.heap.size, 9, none⟩) h_s).trans s9_11
      have s10_12 := (World.cell?_of_block (a := ⟨w4.heap.size, 10, none⟩) h_s).trans s10_11
      have s11_12 := (World.cell?_of_block (a := ⟨w4.heap.size, 11, none⟩) h_s).trans s11_11
      have s12_12 := (World.cell?_of_block (a := ⟨w4.heap.size, 12, none⟩) h_s).trans s12_11
      have s13_12 := (World.cell?_of_block (a := ⟨w4.heap.size, 13, none⟩) h_s).trans s13_11
      have sl_12 : w4.heap.size < w12.heap.size := by have := sl_11; omega
      clear h_s s0_11 s1_11 s2_11 s3_11 s4_11 s5_11 s6_11 s7_11 s8_11 s9_11 s10_11 s11_11 s12_11 s13_11 sl_11
      have h_x := hn.block (w6.heap.size) (by have := xl_11; omega) (fun q => by have := (hspan _ q).2; omega)
      have x0_12 := (World.cell?_of_block (a := ⟨w6.heap.size, 0, none⟩) h_x).trans x0_11
      have x1_12 := (World.cell?_of_block (a := ⟨w6.heap.size, 1, none⟩) h_x).trans x1_11
      have x2_12 := (World.cell?_of_block (a := ⟨w6.heap.size, 2, none⟩) h_x).trans x2_11
      have x3_12 := (World.cell?_of_block (a := ⟨w6.heap.size, 3, none⟩) h_x).trans x3_11
      have x4_12 := (World.cell?_of_block (a := ⟨w6.heap.size, 4, none⟩) h_x).trans x4_11
      have x5_12 := (World.cell?_of_block (a := ⟨w6.heap.size, 5, none⟩) h_x).trans x5_11
      have x6_12 := (World.cell?_of_block (a := ⟨w6.heap.size, 6, none⟩) h_x).trans x6_11
      have x7_12 := (World.cell?_of_block (a := ⟨w6.heap.size, 7, none⟩) h_x).trans x7_11
      have x8_12 := (World.cell?_of_block (a := ⟨w6.heap.size, 8, none⟩) h_x).trans x8_11
      have x9_12 := (World.cell?_of_block (a := ⟨w6.heap.size, 9, none⟩) h_x).trans x9_11
      have x10_12 := (World.cell?_of_block (a := ⟨w6.heap.size, 10, none⟩) h_x).trans x10_11
      have x11_12 := (World.cell?_of_block (a := ⟨w6.heap.size, 11, none⟩) h_x).trans x11_11
      have x12_12 := (World.cell?_of_block (a := ⟨w6.heap.size, 12, none⟩) h_x).trans x12_11
      have x13_12 := (World.cell?_of_block (a := ⟨w6.heap.size, 13, none⟩) h_x).trans x13_11
      have xl_12 : w6.heap.size < w12.heap.size := by have := xl_11; omega
      clear h_x x0_11 x1_11 x2_11 x3_11 x4_11 x5_11 x6_11 x7_11 x8_11 x9_11 x10_11 x11_11 x12_11 x13_11 xl_11
      have h_g := hn.block (w8.heap.size) (by have := gl_11; omega) (fun q => by have := (hspan _ q).2; have := HS67.out; have := HS78.out; omega)
      have g0_12 := (World.cell?_of_block (a := ⟨w8.heap.size, 0, none⟩) h_g).trans g0_11
      have g1_12 := (World.cell?_of_block (a := ⟨w8.heap.size, 1, none⟩) h_g).trans g1_11
      have g2_12 := (World.cell?_of_block (a := ⟨w8.heap.size, 2, none⟩) h_g).trans g2_11
      have g3_12 := (World.cell?_of_block (a := ⟨w8.heap.size, 3, none⟩) h_g).trans g3_11
      have g4_12 := (World.cell?_of_block (a := ⟨w8.heap.size, 4, none⟩) h_g).trans g4_11
      have g5_12 := (World.cell?_of_block (a := ⟨w8.heap.size, 5, none⟩) h_g).trans g5_11
      have g6_12 := (World.cell?_of_block (a := ⟨w8.heap.size, 6, none⟩) h_g).trans g6_11
      have g7_12 := (World.cell?_of_block (a := ⟨w8.heap.size, 7, none⟩) h_g).trans g7_11
      have g8_12 := (World.cell?_of_block (a := ⟨w8.heap.size, 8, none⟩) h_g).trans g8_11
      have g9_12 := (World.cell?_of_block (a := ⟨w8.heap.size, 9, none⟩) h_g).trans g9_11
      have g10_12 := (World.cell?_of_block (a := ⟨w8.heap.size, 10, none⟩) h_g).trans g10_11
      have g11_12 := (World.cell?_of_block (a := ⟨w8.heap.size, 11, none⟩) h_g).trans g11_11
      have g12_12 := (World.cell?_of_block (a := ⟨w8.heap.size, 12, none⟩) h_g).trans g12_11
      have g13_12 := (World.cell?_of_block (a := ⟨w8.heap.size, 13, none⟩) h_g).trans g13_11
      have gl_12 : w8.heap.size < w12.heap.size := by have := gl_11; omega
      clear h_g g0_11 g1_11 g2_11 g3_11 g4_11 g5_11 g6_11 g7_11 g8_11 g9_11 g10_11 g11_11 g12_11 g13_11 gl_11
      have E5_12 : Below w5.heap.size w5 w12 := E5_11.trans (hn.below (fun b hb => (hspan b hb).1) E5_11.size)
      have RS_12 := hid (HRS.out.later E5_12)
      have OG_12 := hid (OG_11.out.only hn (fun b hb _ q => by have := (hspan _ q).2; have := hb.1; have := HGG.out.1; have := HS67.out; omega))
      have OF_12 := hid (OF_11.out.agree (fun hg => hn.block gg hg (fun q => by have := (hspan _ q).2; have := HGG.out.1; have := HS67.out; omega)))
      clear hn hspan OX0_11 OX1_11 RS_11 OG_11 OF_11 E5_11 x0_12 x1_12 x2_12 x3_12 x4_12 x5_12 x6_12 x7_12 x8_12 x9_12 x10_12 x11_12 x12_12 x13_12 xl_12
      obtain ⟨kx, hkx⟩ : ∃ z : Int, 1 + cntM 3 A0 + cntM 1 A1 = z := ⟨_, rfl⟩
      have hkn : ¬ (kx < 0) := by have := HP.out.1; have := HP.out.2; omega
      rw [hkx]
      clear hkx
      go_wp2_with fail
      refine (eqTier_rd n0 n1 n2 p0 p1 p2 p3 n3 n4 n5 n6 n7 _ _ _ _ L0 L1 _ ⟨OG_12.out.rd (by decide) (by decide), OF_12.out.rd⟩ RS_12.out).mono ?_
      rintro e w13 ⟨rfl, b13⟩
      have d13 : Below w12.heap.size w12 w13 := (Below.trans (by go_grown) (b13.mono (by first | omega | (simp; done) | (simp; omega))))
      have c13 : Below w.heap.size w w13 := c12.trans (d13.mono c12.size)
      have a0_13 := (d13.cell (p := ⟨w.heap.size, 0, none⟩) al_12).trans a0_12
      have a1_13 := (d13.cell (p := ⟨w.heap.size, 1, none⟩) al_12).trans a1_12
      have a2_13 := (d13.cell (p := ⟨w.heap.size, 2, none⟩) al_12).trans a2_12
      have a3_13 := (d13.cell (p := ⟨w.heap.size, 3, none⟩) al_12).trans a3_12
      have a4_13 := (d13.cell (p := ⟨w.heap.size, 4, none⟩) al_12).trans a4_12
      have a5_13 := (d13.cell (p := ⟨w.heap.size, 5, none⟩) al_12).trans a5_12
      have a6_13 := (d13.cell (p := ⟨w.heap.size, 6, none⟩) al_12).trans a6_12
      have a7_13 := (d13.cell (p := ⟨w.heap.size, 7, none⟩) al_12).trans a7_12
      have a8_13 := (d13.cell (p := ⟨w.heap.size, 8, none⟩) al_12).trans a8_12
      have a9_13 := (d13.cell (p := ⟨w.heap.size, 9, none⟩) al_12).trans a9_12
      have a10_13 := (d13.cell (p := ⟨w.heap.size, 10, none⟩) al_12).trans a10_12
      have a11_13 := (d13.cell (p := ⟨w.heap.size, 11, none⟩) al_12).trans a11_12
      have a12_13 := (d13.cell (p := ⟨w.heap.size, 12, none⟩) al_12).trans a12_12
      have a13_13 := (d13.cell (p := ⟨w.heap.size, 13, none⟩) al_12).trans a13_12
      have al_13 := Nat.lt_of_lt_of_le al_12 d13.size
      have s0_13 := (d13.cell (p := ⟨w4.heap.size, 0, none⟩) sl_12).trans s0_12
      have s1_13 := (d13.cell (p := ⟨w4.heap.size, 1, none⟩) sl_12).trans s1_12
      have s2_13 := (d13.cell (p := ⟨w4.heap.size, 2, none⟩) sl_12).trans s2_12
      have s3_13 := (d13.cell (p := ⟨w4.heap.size, 3, none⟩) sl_12).trans s3_12
      have s4_13 := (d13.cell (p := ⟨w4.heap.size, 4, none⟩) sl_12).trans s4_12
      have s5_13 := (d13.cell (p := ⟨w4.heap.size, 5, none⟩) sl_12).trans s5_12
      have s6_13 := (d13.cell (p := ⟨w4.heap.size, 6, none⟩) sl_12).trans s6_12
      have s7_13 := (d13.cell (p := ⟨w4.heap.size, 7, none⟩) sl_12).trans s7_12
      have s8_13 := (d13.cell (p := ⟨w4.heap.size, 8, none⟩) sl_12).trans s8_12
      have s9_13 := (d13.cell (p := ⟨w4.heap.size, 9, none⟩) sl_12).trans s9_12
      have s10_13 := (d13.cell (p := ⟨w4.heap.size, 10, none⟩) sl_12).trans s10_12
      have s11_13 := (d13.cell (p := ⟨w4.heap.size, 11, none⟩) sl_12).trans s11_12
      have s12_13 := (d13.cell (p := ⟨w4.heap.size, 12, none⟩) sl_12).trans s12_12
      have s13_13 := (d13.cell (p := ⟨w4.heap.size, 13, none⟩) sl_12).trans s13_12
      have sl_13 := Nat.lt_of_lt_of_le sl_12 d13.size
      have g0_13 := (d13.cell (p := ⟨w8.heap.size, 0, none⟩) gl_12).trans g0_12
      have g1_13 := (d13.cell (p := ⟨w8.heap.size, 1, none⟩) gl_12).trans g1_12
      have g2_13 := (d13.cell (p := ⟨w8.heap.size, 2, none⟩) gl_12).trans g2_12
      have g3_13 := (d13.cell (p := ⟨w8.heap.size, 3, none⟩) gl_12).trans g3_12
      have g4_13 := (d13.cell (p := ⟨w8.heap.size, 4, none⟩) gl_12).trans g4_12
      have g5_13 := (d13.cell (p := ⟨w8.heap.size, 5, none⟩) gl_12).trans g5_12
      have g6_13 := (d13.cell (p := ⟨w8.heap.size, 6, none⟩) gl_12).trans g6_12
      have g7_13 := (d13.cell (p := ⟨w8.heap.size, 7, none⟩) gl_12).trans g7_12
      have g8_13 := (d13.cell (p := ⟨w8.heap.size, 8, none⟩) gl_12).trans g8_12
      have g9_13 := (d13.cell (p := ⟨w8.heap.size, 9, none⟩) gl_12).trans g9_12
      have g10_13 := (d13.cell (p := ⟨w8.heap.size, 10, none⟩) gl_12).trans g10_12
      have g11_13 := (d13.cell (p := ⟨w8.heap.size, 11, none⟩) gl_12).trans g11_12
      have g12_13 := (d13.cell (p := ⟨w8.heap.size, 12, none⟩) gl_12).trans g12_12
      have g13_13 := (d13.cell (p := ⟨w8.heap.size, 13, none⟩) gl_12).trans g13_12
      have gl_13 := Nat.lt_of_lt_of_le gl_12 d13.size
      clear a0_12 a1_12 a2_12 a3_12 a4_12 a5_12 a6_12 a7_12 a8_12 a9_12 a10_12 a11_12 a12_12 a13_12 al_12 s0_12 s1_12 s2_12 s3_12 s4_12 s5_12 s6_12 s7_12 s8_12 s9_12 s10_12 s11_12 s12_12 s13_12 sl_12 g0_12 g1_12 g2_12 g3_12 g4_12 g5_12 g6_12 g7_12 g8_12 g9_12 g10_12 g11_12 g12_12 g13_12 gl_12
      clear b13
      have OG_13 := hid (OG_12.out.later d13)
      have OF_13 := hid (OF_12.out.later d13)
      have RS_13 := hid (RS_12.out.later d13)
      have E5_13 : Below w5.heap.size w5 w13 := E5_12.trans (d13.mono E5_12.size)
      clear d13 OG_12 OF_12 RS_12 E5_12
      go_wp2_with fail
      refine (markTAns_any n0 n1 n2 p0 p1 p2 p3 n3 n4 n5 n6 n7 _ _ L0 L1 gg w8.heap.size _ OG_13.out OF_13.out HGG.out.2 (by have := gl_13; omega) HM.out).mono ?_
      rintro e w14 ⟨rfl, hog, hof, hgr⟩
      have c14 : Below w.heap.size w w14 := c13.trans (hgr.below (fun b hb => by have := hb.1; have := HGG.out.1; have := HX7.out; have := HS67.out; have := HAL.out; have := HSL.out; have := HB.out; omega) c13.size)
      have E5_14 : Below w5.heap.size w5 w14 := E5_13.trans (hgr.below (fun b hb => by have := hb.1; have := HGG.out.1; have := HS67.out; have := HB.out; omega) E5_13.size)
      have z14 := hgr.size
      have h_a := hgr.block (w.heap.size) (by have := al_13; omega) (fun q => by have := q.1; have := HGG.out.1; have := HS67.out; have := HB.out; have := HAL.out; have := HSL.out; omega)
      have a0_14 := (World.cell?_of_block (a := ⟨w.heap.size, 0, none⟩) h_a).trans a0_13
      have a1_14 := (World.cell?_of_block (a := ⟨w.heap.size, 1, none⟩) h_a).trans a1_13
      have a2_14 := (World.cell?_of_block (a := ⟨w.heap.size, 2, none⟩) h_a).trans a2_13
      have a3_14 := (World.cell?_of_block (a := ⟨w.heap.size, 3, none⟩) h_a).trans a3_13
      have a4_14 := (World.cell?_of_block (a := ⟨w.heap.size, 4, none⟩) h_a).trans a4_13
      have a5_14 := (World.cell?_of_block (a := ⟨w.heap.size, 5, none⟩) h_a).trans a5_13
      have a6_14 := (World.cell?_of_block (a := ⟨w.heap.size, 6, none⟩) h_a).trans a6_13
      have a7_14 := (World.cell?_of_block (a := ⟨w.heap.size, 7, none⟩) h_a).trans a7_13
      have a8_14 := (World.cell?_of_block (a := ⟨w.heap.size, 8, none⟩) h_a).trans a8_13
      have a9_14 := (World.cell?_of_block (a := ⟨w.heap.size, 9, none⟩) h_a).trans a9_13
      have a10_14 := (World.cell?_of_block (a := ⟨w.heap.size, 10, none⟩) h_a).trans a10_13
      have a11_14 := (World.cell?_of_block (a := ⟨w.heap.size, 11, none⟩) h_a).trans a11_13
      have a12_14 := (World.cell?_of_block (a := ⟨w.heap.size, 12, none⟩) h_a).trans a12_13
      have a13_14 := (World.cell?_of_block (a := ⟨w.heap.size, 13, none⟩) h_a).trans a13_13
      have al_14 : w.heap.size < w14.heap.size := by have := al_13; omega
      clear h_a a0_13 a1_13 a2_13 a3_13 a4_13 a5_13 a6_13 a7_13 a8_13 a9_13 a10_13 a11_13 a12_13 a13_13 al_13
      have h_s := hgr.block (w4.heap.size) (by have := sl_13; omega) (fun q => by have := q.1; have := HGG.out.1; have := HS67.out; have := HB.out; have := HAL.out; have := HSL.out; omega)
      have s0_14 := (World.cell?_of_block (a := ⟨w4.heap.size, 0, none⟩) h_s).trans s0_13
      have s1_14 := (World.cell?_of_block (a := ⟨w4.heap.size, 1, none⟩) h_s).trans s1_13
      have s2_14 := (World.cell?_of_block (a := ⟨w4.heap.size, 2, none⟩) h_s).trans s2_13
      have s3_14 := (World.cell?_of_block (a := ⟨w4.heap.size, 3, none⟩) h_s).trans s3_13
      have s4_14 := (World.cell?_of_block (a := ⟨w4.heap.size, 4, none⟩) h_s).trans s4_13
      have s5_14 := (World.cell?_of_block (a := ⟨w4.heap.size, 5, none⟩) h_s).trans s5_13
      have s6_14 := (World.cell?_of_block (a := ⟨w4.heap.size, 6, none⟩) h_s).trans s6_13
      have s7_14 := (World.cell?_of_block (a := ⟨w4.heap.size, 7, none⟩) h_s).trans s7_13
      have s8_14 := (World.cell?_of_block (a := ⟨w4.heap.size, 8, none⟩) h_s).trans s8_13
      have s9_14 := (World.cell?_of_block (a := ⟨w4.heap.size, 9, none⟩) h_s).trans s9_13
      have s10_14 := (World.cell?_of_block (a := ⟨w4.heap.size, 10, none⟩) h_s).trans s10_13
      have s11_14 := (World.cell?_of_block (a := ⟨w4.heap.size, 11, none⟩) h_s).trans s11_13
      have s12_14 := (World.cell?_of_block (a := ⟨w4.heap.size, 12, none⟩) h_s).trans s12_13
      have s13_14 := (World.cell?_of_block (a := ⟨w4.heap.size, 13, none⟩) h_s).trans s13_13
      have sl_14 : w4.heap.size < w14.heap.size := by have := sl_13; omega
      clear h_s s0_13 s1_13 s2_13 s3_13 s4_13 s5_13 s6_13 s7_13 s8_13 s9_13 s10_13 s11_13 s12_13 s13_13 sl_13
      have h_g := hgr.block (w8.heap.size) (by have := gl_13; omega) (fun q => Nat.lt_irrefl _ q.2)
      have g0_14 := (World.cell?_of_block (a := ⟨w8.heap.size, 0, none⟩) h_g).trans g0_13
      have g1_14 := (World.cell?_of_block (a := ⟨w8.heap.size, 1, none⟩) h_g).trans g1_13
      have g2_14 := (World.cell?_of_block (a := ⟨w8.heap.size, 2, none⟩) h_g).trans g2_13
      have g3_14 := (World.cell?_of_block (a := ⟨w8.heap.size, 3, none⟩) h_g).trans g3_13
      have g4_14 := (World.cell?_of_block (a := ⟨w8.heap.size, 4, none⟩) h_g).trans g4_13
      have g5_14 := (World.cell?_of_block (a := ⟨w8.heap.size, 5, none⟩) h_g).trans g5_13
      have g6_14 := (World.cell?_of_block (a := ⟨w8.heap.size, 6, none⟩) h_g).trans g6_13
      have g7_14 := (World.cell?_of_block (a := ⟨w8.heap.size, 7, none⟩) h_g).trans g7_13
      have g8_14 := (World.cell?_of_block (a := ⟨w8.heap.size, 8, none⟩) h_g).trans g8_13
      have g9_14 := (World.cell?_of_block (a := ⟨w8.heap.size, 9, none⟩) h_g).trans g9_13
      have g10_14 := (World.cell?_of_block (a := ⟨w8.heap.size, 10, none⟩) h_g).trans g10_13
      have g11_14 := (World.cell?_of_block (a := ⟨w8.heap.size, 11, none⟩) h_g).trans g11_13
      have g12_14 := (World.cell?_of_block (a := ⟨w8.heap.size, 12, none⟩) h_g).trans g12_13
      have g13_14 := (World.cell?_of_block (a := ⟨w8.heap.size, 13, none⟩) h_g).trans g13_13
      have gl_14 : w8.heap.size < w14.heap.size := by have := gl_13; omega
      clear h_g g0_13 g1_13 g2_13 g3_13 g4_13 g5_13 g6_13 g7_13 g8_13 g9_13 g10_13 g11_13 g12_13 g13_13 gl_13
      have RS_14 := hid (HRS.out.later E5_14)
      have RM_14 := hid (show RSCache w14 _ _ (relM 3 1 L0) (relM 1 (1 + cntM 3 L0) L1) from ⟨hog.rd (by decide) (by decide), hof.rd⟩)
      clear hgr hog hof OG_13 OF_13 RS_13 E5_13
      have HG1 := fun (W : World) (v0 v1 : Value) (h : RSCache W v0 v1 (relM 3 1 L0) (relM 1 (1 + cntM 3 L0) L1)) => heldTier_all n0 n1 n2 p0 p1 p2 p3 n3 n4 n5 n6 n7 v0 v1 L0 L1 1 W h.h0 h.h1 HLL.out.1 HLL.out.2 (by omega) HM.out
      obtain ⟨km, hkm⟩ : ∃ z : Int, 1 + cntM 3 L0 + cntM 1 L1 = z := ⟨_, rfl⟩
      have hkp : ¬ (km < 0) := by have := HPL.out.1; have := HPL.out.2; omega
      rw [hkm] at HG1 ⊢
      clear hkm
      go_wp2_with fail
      refine (HG1 _ _ _ RM_14.out).mono ?_
      rintro e w15 ⟨rfl, b15⟩
      have d15 : Below w14.heap.size w14 w15 := (Below.trans (by go_grown) (b15.mono (by first | omega | (simp; done) | (simp; omega))))
      have c15 : Below w.heap.size w w15 := c14.trans (d15.mono c14.size)
      have a0_15 := (d15.cell (p := ⟨w.heap.size, 0, none⟩) al_14).trans a0_14
      have a1_15 := (d15.cell (p := ⟨w.heap.size, 1, none⟩) al_14).trans a1_14
      have a2_15 := (d15.cell (p := ⟨w.heap.size, 2, none⟩) al_14).trans a2_14
      have a3_15 := (d15.cell (p := ⟨w.heap.size, 3, none⟩) al_14).trans a3_14
      have a4_15 := (d15.cell (p := ⟨w.heap.size, 4, none⟩) al_14).trans a4_14
      have a5_15 := (d15.cell (p := ⟨w.heap.size, 5, none⟩) al_14).trans a5_14
      have a6_15 := (d15.cell (p := ⟨w.heap.size, 6, none⟩) al_14).trans a6_14
      have a7_15 := (d15.cell (p := ⟨w.heap.size, 7, none⟩) al_14).trans a7_14
      have a8_15 := (d15.cell (p := ⟨w.heap.size, 8, none⟩) al_14).trans a8_14
      have a9_15 := (d15.cell (p := ⟨w.heap.size, 9, none⟩) al_14).trans a9_14
      have a10_15 := (d15.cell (p := ⟨w.heap.size, 10, none⟩) al_14).trans a10_14
      have a11_15 := (d15.cell (p := ⟨w.heap.size, 11, none⟩) al_14).trans a11_14
      have a12_15 := (d15.cell (p := ⟨w.heap.size, 12, none⟩) al_14).trans a12_14
      have a13_15 := (d15.cell (p := ⟨w.heap.size, 13, none⟩) al_14).trans a13_14
      have al_15 := Nat.lt_of_lt_of_le al_14 d15.size
      have s0_15 := (d15.cell (p := ⟨w4.heap.size, 0, none⟩) sl_14).trans s0_14
      have s1_15 := (d15.cell (p := ⟨w4.heap.size, 1, none⟩) sl_14).trans s1_14
      have s2_15 := (d15.cell (p := ⟨w4.heap.size, 2, none⟩) sl_14).trans s2_14
      have s3_15 := (d15.cell (p := ⟨w4.heap.size, 3, none⟩) sl_14).trans s3_14
      have s4_15 := (d15.cell (p := ⟨w4.heap.size, 4, none⟩) sl_14).trans s4_14
      have s5_15 := (d15.cell (p := ⟨w4.heap.size, 5, none⟩) sl_14).trans s5_14
      have s6_15 := (d15.cell (p := ⟨w4.heap.size, 6, none⟩) sl_14).trans s6_14
      have s7_15 := (d15.cell (p := ⟨w4.heap.size, 7, none⟩) sl_14).trans s7_14
      have s8_15 := (d15.cell (p := ⟨w4.heap.size, 8, none⟩) sl_14).trans s8_14
      have s9_15 := (d15.cell (p := ⟨w4.heap.size, 9, none⟩) sl_14).trans s9_14
      have s10_15 := (d15.cell (p := ⟨w4.heap.size, 10, none⟩) sl_14).trans s10_14
      have s11_15 := (d15.cell (p := ⟨w4.heap.size, 11, none⟩) sl_14).trans s11_14
      have s12_15 := (d15.cell (p := ⟨w4.heap.size, 12, none⟩) sl_14).trans s12_14
      have s13_15 := (d15.cell (p := ⟨w4.heap.size, 13, none⟩) sl_14).trans s13_14
      have sl_15 := Nat.lt_of_lt_of_le sl_14 d15.size
      have g0_15 := (d15.cell (p := ⟨w8.heap.size, 0, none⟩) gl_14).trans g0_14
      have g1_15 := (d15.cell (p := ⟨w8.heap.size, 1, none⟩) gl_14).trans g1_14
      have g2_15 := (d15.cell (p := ⟨w8.heap.size, 2, none⟩) gl_14).trans g2_14
      have g3_15 := (d15.cell (p := ⟨w8.heap.size, 3, none⟩) gl_14).trans g3_14
      have g4_15 := (d15.cell (p := ⟨w8.heap.size, 4, none⟩) gl_14).trans g4_14
      have g5_15 := (d15.cell (p := ⟨w8.heap.size, 5, none⟩) gl_14).trans g5_14
      have g6_15 := (d15.cell (p := ⟨w8.heap.size, 6, none⟩) gl_14).trans g6_14
      have g7_15 := (d15.cell (p := ⟨w8.heap.size, 7, none⟩) gl_14).trans g7_14
      have g8_15 := (d15.cell (p := ⟨w8.heap.size, 8, none⟩) gl_14).trans g8_14
      have g9_15 := (d15.cell (p := ⟨w8.heap.size, 9, none⟩) gl_14).trans g9_14
      have g10_15 := (d15.cell (p := ⟨w8.heap.size, 10, none⟩) gl_14).trans g10_14
      have g11_15 := (d15.cell (p := ⟨w8.heap.size, 11, none⟩) gl_14).trans g11_14
      have g12_15 := (d15.cell (p := ⟨w8.heap.size, 12, none⟩) gl_14).trans g12_14
      have g13_15 := (d15.cell (p := ⟨w8.heap.size, 13, none⟩) gl_14).trans g13_14
      have gl_15 := Nat.lt_of_lt_of_le gl_14 d15.size
      clear a0_14 a1_14 a2_14 a3_14 a4_14 a5_14 a6_14 a7_14 a8_14 a9_14 a10_14 a11_14 a12_14 a13_14 al_14 s0_14 s1_14 s2_14 s3_14 s4_14 s5_14 s6_14 s7_14 s8_14 s9_14 s10_14 s11_14 s12_14 s13_14 sl_14 g0_14 g1_14 g2_14 g3_14 g4_14 g5_14 g6_14 g7_14 g8_14 g9_14 g10_14 g11_14 g12_14 g13_14 gl_14
      have RM_15 := hid (RM_14.out.later d15)
      clear RM_14 b15
      have RS_15 := hid (RS_14.out.later d15)
      have E5_15 : Below w5.heap.size w5 w15 := E5_14.trans (d15.mono E5_14.size)
      clear d15 RS_14 E5_14
      go_wp2_with fail
      refine (toTier_rd i0 i1 i2 q0 q1 q2 q3 i3 i4 i5 i6 i7 _ _ A0 A1 _ (HA.out.later c15) HLA.out).mono ?_
      rintro e w17 ⟨⟨yo0, yo1, yc0, yc1, rfl, oa, _⟩, b17⟩
      have RY_17 := hid oa
      clear oa
      have d17 : Below w15.heap.size w15 w17 := (Below.trans (by go_grown) (b17.mono (by first | omega | (simp; done) | (simp; omega))))
      have c17 : Below w.heap.size w w17 := c15.trans (d17.mono c15.size)
      have a0_17 := (d17.cell (p := ⟨w.heap.size, 0, none⟩) al_15).trans a0_15
      have a1_17 := (d17.cell (p := ⟨w.heap.size, 1, none⟩) al_15).trans a1_15
      have a2_17 := (d17.cell (p := ⟨w.heap.size, 2, none⟩) al_15).trans a2_15
      have a3_17 := (d17.cell (p := ⟨w.heap.size, 3, none⟩) al_15).trans a3_15
      have a4_17 := (d17.cell (p := ⟨w.heap.size, 4, none⟩) al_15).trans a4_15
      have a5_17 := (d17.cell (p := ⟨w.heap.size, 5, none⟩) al_15).trans a5_15
      have a6_17 := (d17.cell (p := ⟨w.heap.size, 6, none⟩) al_15).trans a6_15
      have a7_17 := (d17.cell (p := ⟨w.heap.size, 7, none⟩) al_15).trans a7_15
      have a8_17 := (d17.cell (p := ⟨w.heap.size, 8, none⟩) al_15).trans a8_15
      have a9_17 := (d17.cell (p := ⟨w.heap.size, 9, none⟩) al_15).trans a9_15
      have a10_17 := (d17.cell (p := ⟨w.heap.size, 10, none⟩) al_15).trans a10_15
      have a11_17 := (d17.cell (p := ⟨w.heap.size, 11, none⟩) al_15).trans a11_15
      have a12_17 := (d17.cell (p := ⟨w.heap.size, 12, none⟩) al_15).trans a12_15
      have a13_17 := (d17.cell (p := ⟨w.heap.size, 13, none⟩) al_15).trans a13_15
      have al_17 := Nat.lt_of_lt_of_le al_15 d17.size
      have s0_17 := (d17.cell (p := ⟨w4.heap.size, 0, none⟩) sl_15).trans s0_15
      have s1_17 := (d17.cell (p := ⟨w4.heap.size, 1, none⟩) sl_15).trans s1_15
      have s2_17 := (d17.cell (p := ⟨w4.heap.size, 2, none⟩) sl_15).trans s2_15
      have s3_17 := (d17.cell (p := ⟨w4.heap.size, 3, none⟩) sl_15).trans s3_15
      have s4_17 := (d17.cell (p := ⟨w4.heap.size, 4, none⟩) sl_15).trans s4_15
      have s5_17 := (d17.cell (p := ⟨w4.heap.size, 5, none⟩) sl_15).trans s5_15
      have s6_17 := (d17.cell (p := ⟨w4.heap.size, 6, none⟩) sl_15).trans s6_15
      have s7_17 := (d17.cell (p := ⟨w4.heap.size, 7, none⟩) sl_15).trans s7_15
      have s8_17 := (d17.cell (p := ⟨w4.heap.size, 8, none⟩) sl_15).trans s8_15
      have s9_17 := (d17.cell (p := ⟨w4.heap.size, 9, none⟩) sl_15).trans s9_15
      have s10_17 := (d17.cell (p := ⟨w4.heap.size, 10, none⟩) sl_15).trans s10_15
      have s11_17 := (d17.cell (p := ⟨w4.heap.size, 11, none⟩) sl_15).trans s11_15
      have s12_17 := (d17.cell (p := ⟨w4.heap.size, 12, none⟩) sl_15).trans s12_15
      have s13_17 := (d17.cell (p := ⟨w4.heap.size, 13, none⟩) sl_15).trans s13_15
      have sl_17 := Nat.lt_of_lt_of_le sl_15 d17.size
      have g0_17 := (d17.cell (p := ⟨w8.heap.size, 0, none⟩) gl_15).trans g0_15
      have g1_17 := (d17.cell (p := ⟨w8.heap.size, 1, none⟩) gl_15).trans g1_15
      have g2_17 := (d17.cell (p := ⟨w8.heap.size, 2, none⟩) gl_15).trans g2_15
      have g3_17 := (d17.cell (p := ⟨w8.heap.size, 3, none⟩) gl_15).trans g3_15
      have g4_17 := (d17.cell (p := ⟨w8.heap.size, 4, none⟩) gl_15).trans g4_15
      have g5_17 := (d17.cell (p := ⟨w8.heap.size, 5, none⟩) gl_15).trans g5_15
      have g6_17 := (d17.cell (p := ⟨w8.heap.size, 6, none⟩) gl_15).trans g6_15
      have g7_17 := (d17.cell (p := ⟨w8.heap.size, 7, none⟩) gl_15).trans g7_15
      have g8_17 := (d17.cell (p := ⟨w8.heap.size, 8, none⟩) gl_15).trans g8_15
      have g9_17 := (d17.cell (p := ⟨w8.heap.size, 9, none⟩) gl_15).trans g9_15
      have g10_17 := (d17.cell (p := ⟨w8.heap.size, 10, none⟩) gl_15).trans g10_15
      have g11_17 := (d17.cell (p := ⟨w8.heap.size, 11, none⟩) gl_15).trans g11_15
      have g12_17 := (d17.cell (p := ⟨w8.heap.size, 12, none⟩) gl_15).trans g12_15
      have g13_17 := (d17.cell (p := ⟨w8.heap.size, 13, none⟩) gl_15).trans g13_15
      have gl_17 := Nat.lt_of_lt_of_le gl_15 d17.size
      clear a0_15 a1_15 a2_15 a3_15 a4_15 a5_15 a6_15 a7_15 a8_15 a9_15 a10_15 a11_15 a12_15 a13_15 al_15 s0_15 s1_15 s2_15 s3_15 s4_15 s5_15 s6_15 s7_15 s8_15 s9_15 s10_15 s11_15 s12_15 s13_15 sl_15 g0_15 g1_15 g2_15 g3_15 g4_15 g5_15 g6_15 g7_15 g8_15 g9_15 g10_15 g11_15 g12_15 g13_15 gl_15
      have RM_17 := hid (RM_15.out.later d17)
      clear RM_15 b17
      have RS_17 := hid (RS_15.out.later d17)
      have E5_17 : Below w5.heap.size w5 w17 := E5_15.trans (d17.mono E5_15.size)
      clear d17 RS_15 E5_15
      go_wp2_with fail
      refine (ID _ _ _ RY_17.out).mono ?_
      rintro e w18 ⟨⟨ho, hc, hf, hd, hg, rfl, _, _, hho, hhf⟩, b18⟩
      have d18 : Below w17.heap.size w17 w18 := (Below.trans (by go_grown) (b18.mono (by first | omega | (simp; done) | (simp; omega))))
      have c18 : Below w.heap.size w w18 := c17.trans (d18.mono c17.size)
      have a0_18 := (d18.cell (p := ⟨w.heap.size, 0, none⟩) al_17).trans a0_17
      have a1_18 := (d18.cell (p := ⟨w.heap.size, 1, none⟩) al_17).trans a1_17
      have a2_18 := (d18.cell (p := ⟨w.heap.size, 2, none⟩) al_17).trans a2_17
      have a3_18 := (d18.cell (p := ⟨w.heap.size, 3, none⟩) al_17).trans a3_17
      have a4_18 := (d18.cell (p := ⟨w.heap.size, 4, none⟩) al_17).trans a4_17
      have a5_18 := (d18.cell (p := ⟨w.heap.size, 5, none⟩) al_17).trans a5_17
      have a6_18 := (d18.cell (p := ⟨w.heap.size, 6, none⟩) al_17).trans a6_17
      have a7_18 := (d18.cell (p := ⟨w.heap.size, 7, none⟩) al_17).trans a7_17
      have a8_18 := (d18.cell (p := ⟨w.heap.size, 8, none⟩) al_17).trans a8_17
      have a9_18 := (d18.cell (p := ⟨w.heap.size, 9, none⟩) al_17).trans a9_17
      have a10_18 := (d18.cell (p := ⟨w.heap.size, 10, none⟩) al_17).trans a10_17
      have a11_18 := (d18.cell (p := ⟨w.heap.size, 11, none⟩) al_17).trans a11_17
      have a12_18 := (d18.cell (p := ⟨w.heap.size, 12, none⟩) al_17).trans a12_17
      have a13_18 := (d18.cell (p := ⟨w.heap.size, 13, none⟩) al_17).trans a13_17
      have al_18 := Nat.lt_of_lt_of_le al_17 d18.size
      have s0_18 := (d18.cell (p := ⟨w4.heap.size, 0, none⟩) sl_17).trans s0_17
      have s1_18 := (d18.cell (p := ⟨w4.heap.size, 1, none⟩) sl_17).trans s1_17
      have s2_18 := (d18.cell (p := ⟨w4.heap.size, 2, none⟩) sl_17).trans s2_17
      have s3_18 := (d18.cell (p := ⟨w4.heap.size, 3, none⟩) sl_17).trans s3_17
      have s4_18 := (d18.cell (p := ⟨w4.heap.size, 4, none⟩) sl_17).trans s4_17
      have s5_18 := (d18.cell (p := ⟨w4.heap.size, 5, none⟩) sl_17).trans s5_17
      have s6_18 := (d18.cell (p := ⟨w4.heap.size, 6, none⟩) sl_17).trans s6_17
      have s7_18 := (d18.cell (p := ⟨w4.heap.size, 7, none⟩) sl_17).trans s7_17
      have s8_18 := (d18.cell (p := ⟨w4.heap.size, 8, none⟩) sl_17).trans s8_17
      have s9_18 := (d18.cell (p := ⟨w4.heap.size, 9, none⟩) sl_17).trans s9_17
      have s10_18 := (d18.cell (p := ⟨w4.heap.size, 10, none⟩) sl_17).trans s10_17
      have s11_18 := (d18.cell (p := ⟨w4.heap.size, 11, none⟩) sl_17).trans s11_17
      have s12_18 := (d18.cell (p := ⟨w4.heap.size, 12, none⟩) sl_17).trans s12_17
      have s13_18 := (d18.cell (p := ⟨w4.heap.size, 13, none⟩) sl_17).trans s13_17
      have sl_18 := Nat.lt_of_lt_of_le sl_17 d18.size
      have g0_18 := (d18.cell (p := ⟨w8.heap.size, 0, none⟩) gl_17).trans g0_17
      have g1_18 := (d18.cell (p := ⟨w8.heap.size, 1, none⟩) gl_17).trans g1_17
      have g2_18 := (d18.cell (p := ⟨w8.heap.size, 2, none⟩) gl_17).trans g2_17
      have g3_18 := (d18.cell (p := ⟨w8.heap.size, 3, none⟩) gl_17).trans g3_17
      have g4_18 := (d18.cell (p := ⟨w8.heap.size, 4, none⟩) gl_17).trans g4_17
      have g5_18 := (d18.cell (p := ⟨w8.heap.size, 5, none⟩) gl_17).trans g5_17
      have g6_18 := (d18.cell (p := ⟨w8.heap.size, 6, none⟩) gl_17).trans g6_17
      have g7_18 := (d18.cell (p := ⟨w8.heap.size, 7, none⟩) gl_17).trans g7_17
      have g8_18 := (d18.cell (p := ⟨w8.heap.size, 8, none⟩) gl_17).trans g8_17
      have g9_18 := (d18.cell (p := ⟨w8.heap.size, 9, none⟩) gl_17).trans g9_17
      have g10_18 := (d18.cell (p := ⟨w8.heap.size, 10, none⟩) gl_17).trans g10_17
      have g11_18 := (d18.cell (p := ⟨w8.heap.size, 11, none⟩) gl_17).trans g11_17
      have g12_18 := (d18.cell (p := ⟨w8.heap.size, 12, none⟩) gl_17).trans g12_17
      have g13_18 := (d18.cell (p := ⟨w8.heap.size, 13, none⟩) gl_17).trans g13_17
      have gl_18 := Nat.lt_of_lt_of_le gl_17 d18.size
      clear a0_17 a1_17 a2_17 a3_17 a4_17 a5_17 a6_17 a7_17 a8_17 a9_17 a10_17 a11_17 a12_17 a13_17 al_17 s0_17 s1_17 s2_17 s3_17 s4_17 s5_17 s6_17 s7_17 s8_17 s9_17 s10_17 s11_17 s12_17 s13_17 sl_17 g0_17 g1_17 g2_17 g3_17 g4_17 g5_17 g6_17 g7_17 g8_17 g9_17 g10_17 g11_17 g12_17 g13_17 gl_17
      have RM_18 := hid (RM_17.out.later d18)
      have RH_18 := hid (show RSCache w18 _ _ L0 L1 from ⟨hho.rd (by decide) (by decide), hhf.rd⟩)
      clear RM_17 RY_17 b18 hho hhf
      have RS_18 := hid (RS_17.out.later d18)
      have E5_18 : Below w5.heap.size w5 w18 := E5_17.trans (d18.mono E5_17.size)
      clear d18 RS_17 E5_17
      go_wp2_with fail
      generalize hW19 : (w18.alloc (.cells #[.int .i64 n0, .int .i64 n1, .int .i64 n2, .bool p0, .bool p1, .bool p2, .bool p3, .int .i64 n3, .int .i64 n4, .int .i64 n5, .int .i64 n6, .int .i64 n7, .slice ho L0.length hc, .slice hf L1.length hd] 38)) = w19
      have h0_19 : w19.cell? ⟨w18.heap.size, 0, none⟩ = some (.int .i64 n0) := by subst hW19; go_cell
      have h1_19 : w19.cell? ⟨w18.heap.size, 1, none⟩ = some (.int .i64 n1) := by subst hW19; go_cell
      have h2_19 : w19.cell? ⟨w18.heap.size, 2, none⟩ = some (.int .i64 n2) := by subst hW19; go_cell
      have h3_19 : w19.cell? ⟨w18.heap.size, 3, none⟩ = some (.bool p0) := by subst hW19; go_cell
      have h4_19 : w19.cell? ⟨w18.heap.size, 4, none⟩ = some (.bool p1) := by subst hW19; go_cell
      have h5_19 : w19.cell? ⟨w18.heap.size, 5, none⟩ = some (.bool p2) := by subst hW19; go_cell
      have h6_19 : w19.cell? ⟨w18.heap.size, 6, none⟩ = some (.bool p3) := by subst hW19; go_cell
      have h7_19 : w19.cell? ⟨w18.heap.size, 7, none⟩ = some (.int .i64 n3) := by subst hW19; go_cell
      have h8_19 : w19.cell? ⟨w18.heap.size, 8, none⟩ = some (.int .i64 n4) := by subst hW19; go_cell
      have h9_19 : w19.cell? ⟨w18.heap.size, 9, none⟩ = some (.int .i64 n5) := by subst hW19; go_cell
      have h10_19 : w19.cell? ⟨w18.heap.size, 10, none⟩ = some (.int .i64 n6) := by subst hW19; go_cell
      have h11_19 : w19.cell? ⟨w18.heap.size, 11, none⟩ = some (.int .i64 n7) := by subst hW19; go_cell
      have h12_19 : w19.cell? ⟨w18.heap.size, 12, none⟩ = some (.slice ho L0.length hc) := by subst hW19; go_cell
      have h13_19 : w19.cell? ⟨w18.heap.size, 13, none⟩ = some (.slice hf L1.length hd) := by subst hW19; go_cell
      have hl_19 : w18.heap.size < w19.heap.size := by subst hW19; simp
      have d19 : Below w18.heap.size w18 w19 := by subst hW19; go_grown
      clear hW19
      have c19 : Below w.heap.size w w19 := c18.trans (d19.mono c18.size)
      have a0_19 : w19.cell? ⟨w.heap.size, 0, none⟩ = some (.int .i64 i0) := (by rw [d19.cell (by first | omega | (simp; done) | (simp; omega))]; go_cell)
      have a1_19 : w19.cell? ⟨w.heap.size, 1, none⟩ = some (.int .i64 i1) := (by rw [d19.cell (by first | omega | (simp; done) | (simp; omega))]; go_cell)
      have a2_19 : w19.cell? ⟨w.heap.size, 2, none⟩ = some (.int .i64 i2) := (by rw [d19.cell (by first | omega | (simp; done) | (simp; omega))]; go_cell)
      have a3_19 : w19.cell? ⟨w.heap.size, 3, none⟩ = some (.bool q0) := (by rw [d19.cell (by first | omega | (simp; done) | (simp; omega))]; go_cell)
      have a4_19 : w19.cell? ⟨w.heap.size, 4, none⟩ = some (.bool q1) := (by rw [d19.cell (by first | omega | (simp; done) | (simp; omega))]; go_cell)
      have a5_19 : w19.cell? ⟨w.heap.size, 5, none⟩ = some (.bool q2) := (by rw [d19.cell (by first | omega | (simp; done) | (simp; omega))]; go_cell)
      have a6_19 : w19.cell? ⟨w.heap.size, 6, none⟩ = some (.bool q3) := (by rw [d19.cell (by first | omega | (simp; done) | (simp; omega))]; go_cell)
      have a7_19 : w19.cell? ⟨w.heap.size, 7, none⟩ = some (.int .i64 i3) := (by rw [d19.cell (by first | omega | (simp; done) | (simp; omega))]; go_cell)
      have a8_19 : w19.cell? ⟨w.heap.size, 8, none⟩ = some (.int .i64 i4) := (by rw [d19.cell (by first | omega | (simp; done) | (simp; omega))]; go_cell)
      have a9_19 : w19.cell? ⟨w.heap.size, 9, none⟩ = some (.int .i64 i5) := (by rw [d19.cell (by first | omega | (simp; done) | (simp; omega))]; go_cell)
      have a10_19 : w19.cell? ⟨w.heap.size, 10, none⟩ = some (.int .i64 i6) := (by rw [d19.cell (by first | omega | (simp; done) | (simp; omega))]; go_cell)
      have a11_19 : w19.cell? ⟨w.heap.size, 11, none⟩ = some (.int .i64 i7) := (by rw [d19.cell (by first | omega | (simp; done) | (simp; omega))]; go_cell)
      have a12_19 : w19.cell? ⟨w.heap.size, 12, none⟩ = some (.slice ao0 A0.length ac0) := (by rw [d19.cell (by first | omega | (simp; done) | (simp; omega))]; go_cell)
      have a13_19 : w19.cell? ⟨w.heap.size, 13, none⟩ = some (.slice ao1 A1.length ac1) := (by rw [d19.cell (by first | omega | (simp; done) | (simp; omega))]; go_cell)
      have al_19 : w.heap.size < w19.heap.size := (by have := d19.size; omega)
      have s0_19 : w19.cell? ⟨w4.heap.size, 0, none⟩ = some (.int .i64 n0) := (by rw [d19.cell (by first | omega | (simp; done) | (simp; omega))]; go_cell)
      have s1_19 : w19.cell? ⟨w4.heap.size, 1, none⟩ = some (.int .i64 n1) := (by rw [d19.cell (by first | omega | (simp; done) | (simp; omega))]; go_cell)
      have s2_19 : w19.cell? ⟨w4.heap.size, 2, none⟩ = some (.int .i64 n2) := (by rw [d19.cell (by first | omega | (simp; done) | (simp; omega))]; go_cell)
      have s3_19 : w19.cell? ⟨w4.heap.size, 3, none⟩ = some (.bool p0) := (by rw [d19.cell (by first | omega | (simp; done) | (simp; omega))]; go_cell)
      have s4_19 : w19.cell? ⟨w4.heap.size, 4, none⟩ = some (.bool p1) := (by rw [d19.cell (by first | omega | (simp; done) | (simp; omega))]; go_cell)
      have s5_19 : w19.cell? ⟨w4.heap.size, 5, none⟩ = some (.bool p2) := (by rw [d19.cell (by first | omega | (simp; done) | (simp; omega))]; go_cell)
      have s6_19 : w19.cell? ⟨w4.heap.size, 6, none⟩ = some (.bool p3) := (by rw [d19.cell (by first | omega | (simp; done) | (simp; omega))]; go_cell)
      have s7_19 : w19.cell? ⟨w4.heap.size, 7, none⟩ = some (.int .i64 n3) := (by rw [d19.cell (by first | omega | (simp; done) | (simp; omega))]; go_cell)
      have s8_19 : w19.cell? ⟨w4.heap.size, 8, none⟩ = some (.int .i64 n4) := (by rw [d19.cell (by first | omega | (simp; done) | (simp; omega))]; go_cell)
      have s9_19 : w19.cell? ⟨w4.heap.size, 9, none⟩ = some (.int .i64 n5) := (by rw [d19.cell (by first | omega | (simp; done) | (simp; omega))]; go_cell)
      have s10_19 : w19.cell? ⟨w4.heap.size, 10, none⟩ = some (.int .i64 n6) := (by rw [d19.cell (by first | omega | (simp; done) | (simp; omega))]; go_cell)
      have s11_19 : w19.cell? ⟨w4.heap.size, 11, none⟩ = some (.int .i64 n7) := (by rw [d19.cell (by first | omega | (simp; done) | (simp; omega))]; go_cell)
      have s12_19 : w19.cell? ⟨w4.heap.size, 12, none⟩ = some (.slice so L0.length sc) := (by rw [d19.cell (by first | omega | (simp; done) | (simp; omega))]; go_cell)
      have s13_19 : w19.cell? ⟨w4.heap.size, 13, none⟩ = some (.slice sf L1.length sd) := (by rw [d19.cell (by first | omega | (simp; done) | (simp; omega))]; go_cell)
      have sl_19 : w4.heap.size < w19.heap.size := (by have := d19.size; omega)
      have g0_19 : w19.cell? ⟨w8.heap.size, 0, none⟩ = some (.int .i64 n0) := (by rw [d19.cell (by first | omega | (simp; done) | (simp; omega))]; go_cell)
      have g1_19 : w19.cell? ⟨w8.heap.size, 1, none⟩ = some (.int .i64 n1) := (by rw [d19.cell (by first | omega | (simp; done) | (simp; omega))]; go_cell)
      have g2_19 : w19.cell? ⟨w8.heap.size, 2, none⟩ = some (.int .i64 n2) := (by rw [d19.cell (by first | omega | (simp; done) | (simp; omega))]; go_cell)
      have g3_19 : w19.cell? ⟨w8.heap.size, 3, none⟩ = some (.bool p0) := (by rw [d19.cell (by first | omega | (simp; done) | (simp; omega))]; go_cell)
      have g4_19 : w19.cell? ⟨w8.heap.size, 4, none⟩ = some (.bool p1) := (by rw [d19.cell (by first | omega | (simp; done) | (simp; omega))]; go_cell)
      have g5_19 : w19.cell? ⟨w8.heap.size, 5, none⟩ = some (.bool p2) := (by rw [d19.cell (by first | omega | (simp; done) | (simp; omega))]; go_cell)
      have g6_19 : w19.cell? ⟨w8.heap.size, 6, none⟩ = some (.bool p3) := (by rw [d19.cell (by first | omega | (simp; done) | (simp; omega))]; go_cell)
      have g7_19 : w19.cell? ⟨w8.heap.size, 7, none⟩ = some (.int .i64 n3) := (by rw [d19.cell (by first | omega | (simp; done) | (simp; omega))]; go_cell)
      have g8_19 : w19.cell? ⟨w8.heap.size, 8, none⟩ = some (.int .i64 n4) := (by rw [d19.cell (by first | omega | (simp; done) | (simp; omega))]; go_cell)
      have g9_19 : w19.cell? ⟨w8.heap.size, 9, none⟩ = some (.int .i64 n5) := (by rw [d19.cell (by first | omega | (simp; done) | (simp; omega))]; go_cell)
      have g10_19 : w19.cell? ⟨w8.heap.size, 10, none⟩ = some (.int .i64 n6) := (by rw [d19.cell (by first | omega | (simp; done) | (simp; omega))]; go_cell)
      have g11_19 : w19.cell? ⟨w8.heap.size, 11, none⟩ = some (.int .i64 n7) := (by rw [d19.cell (by first | omega | (simp; done) | (simp; omega))]; go_cell)
      have g12_19 : w19.cell? ⟨w8.heap.size, 12, none⟩ = some (.slice go L0.length gc) := (by rw [d19.cell (by first | omega | (simp; done) | (simp; omega))]; go_cell)
      have g13_19 : w19.cell? ⟨w8.heap.size, 13, none⟩ = some (.slice gf L1.length gd) := (by rw [d19.cell (by first | omega | (simp; done) | (simp; omega))]; go_cell)
      have gl_19 : w8.heap.size < w19.heap.size := (by have := d19.size; omega)
      clear a0_18 a1_18 a2_18 a3_18 a4_18 a5_18 a6_18 a7_18 a8_18 a9_18 a10_18 a11_18 a12_18 a13_18 al_18 s0_18 s1_18 s2_18 s3_18 s4_18 s5_18 s6_18 s7_18 s8_18 s9_18 s10_18 s11_18 s12_18 s13_18 sl_18 g0_18 g1_18 g2_18 g3_18 g4_18 g5_18 g6_18 g7_18 g8_18 g9_18 g10_18 g11_18 g12_18 g13_18 gl_18
      have RM_19 := hid (RM_18.out.later d19)
      have RH_19 := hid (RH_18.out.later d19)
      clear RM_18 RH_18
      have RS_19 := hid (RS_18.out.later d19)
      have E5_19 : Below w5.heap.size w5 w19 := E5_18.trans (d19.mono E5_18.size)
      clear d19 RS_18 E5_18
      go_wp2_with fail
      refine (eqTier_rd n0 n1 n2 p0 p1 p2 p3 n3 n4 n5 n6 n7 _ _ _ _ L0 L1 _ RH_19.out RS_19.out).mono ?_
      rintro e w20 ⟨rfl, b20⟩
      have d20 : Below w19.heap.size w19 w20 := (Below.trans (by go_grown) (b20.mono (by first | omega | (simp; done) | (simp; omega))))
      have c20 : Below w.heap.size w w20 := c19.trans (d20.mono c19.size)
      have a0_20 := (d20.cell (p := ⟨w.heap.size, 0, none⟩) al_19).trans a0_19
      have a1_20 := (d20.cell (p := ⟨w.heap.size, 1, none⟩) al_19).trans a1_19
      have a2_20 := (d20.cell (p := ⟨w.heap.size, 2, none⟩) al_19).trans a2_19
      have a3_20 := (d20.cell (p := ⟨w.heap.size, 3, none⟩) al_19).trans a3_19
      have a4_20 := (d20.cell (p := ⟨w.heap.size, 4, none⟩) al_19).trans a4_19
      have a5_20 := (d20.cell (p := ⟨w.heap.size, 5, none⟩) al_19).trans a5_19
      have a6_20 := (d20.cell (p := ⟨w.heap.size, 6, none⟩) al_19).trans a6_19
      have a7_20 := (d20.cell (p := ⟨w.heap.size, 7, none⟩) al_19).trans a7_19
      have a8_20 := (d20.cell (p := ⟨w.heap.size, 8, none⟩) al_19).trans a8_19
      have a9_20 := (d20.cell (p := ⟨w.heap.size, 9, none⟩) al_19).trans a9_19
      have a10_20 := (d20.cell (p := ⟨w.heap.size, 10, none⟩) al_19).trans a10_19
      have a11_20 := (d20.cell (p := ⟨w.heap.size, 11, none⟩) al_19).trans a11_19
      have a12_20 := (d20.cell (p := ⟨w.heap.size, 12, none⟩) al_19).trans a12_19
      have a13_20 := (d20.cell (p := ⟨w.heap.size, 13, none⟩) al_19).trans a13_19
      have al_20 := Nat.lt_of_lt_of_le al_19 d20.size
      have s0_20 := (d20.cell (p := ⟨w4.heap.size, 0, none⟩) sl_19).trans s0_19
      have s1_20 := (d20.cell (p := ⟨w4.heap.size, 1, none⟩) sl_19).trans s1_19
      have s2_20 := (d20.cell (p := ⟨w4.heap.size, 2, none⟩) sl_19).trans s2_19
      have s3_20 := (d20.cell (p := ⟨w4.heap.size, 3, none⟩) sl_19).trans s3_19
      have s4_20 := (d20.cell (p := ⟨w4.heap.size, 4, none⟩) sl_19).trans s4_19
      have s5_20 := (d20.cell (p := ⟨w4.heap.size, 5, none⟩) sl_19).trans s5_19
      have s6_20 := (d20.cell (p := ⟨w4.heap.size, 6, none⟩) sl_19).trans s6_19
      have s7_20 := (d20.cell (p := ⟨w4.heap.size, 7, none⟩) sl_19).trans s7_19
      have s8_20 := (d20.cell (p := ⟨w4.heap.size, 8, none⟩) sl_19).trans s8_19
      have s9_20 := (d20.cell (p := ⟨w4.heap.size, 9, none⟩) sl_19).trans s9_19
      have s10_20 := (d20.cell (p := ⟨w4.heap.size, 10, none⟩) sl_19).trans s10_19
      have s11_20 := (d20.cell (p := ⟨w4.heap.size, 11, none⟩) sl_19).trans s11_19
      have s12_20 := (d20.cell (p := ⟨w4.heap.size, 12, none⟩) sl_19).trans s12_19
      have s13_20 := (d20.cell (p := ⟨w4.heap.size, 13, none⟩) sl_19).trans s13_19
      have sl_20 := Nat.lt_of_lt_of_le sl_19 d20.size
      have g0_20 := (d20.cell (p := ⟨w8.heap.size, 0, none⟩) gl_19).trans g0_19
      have g1_20 := (d20.cell (p := ⟨w8.heap.size, 1, none⟩) gl_19).trans g1_19
      have g2_20 := (d20.cell (p := ⟨w8.heap.size, 2, none⟩) gl_19).trans g2_19
      have g3_20 := (d20.cell (p := ⟨w8.heap.size, 3, none⟩) gl_19).trans g3_19
      have g4_20 := (d20.cell (p := ⟨w8.heap.size, 4, none⟩) gl_19).trans g4_19
      have g5_20 := (d20.cell (p := ⟨w8.heap.size, 5, none⟩) gl_19).trans g5_19
      have g6_20 := (d20.cell (p := ⟨w8.heap.size, 6, none⟩) gl_19).trans g6_19
      have g7_20 := (d20.cell (p := ⟨w8.heap.size, 7, none⟩) gl_19).trans g7_19
      have g8_20 := (d20.cell (p := ⟨w8.heap.size, 8, none⟩) gl_19).trans g8_19
      have g9_20 := (d20.cell (p := ⟨w8.heap.size, 9, none⟩) gl_19).trans g9_19
      have g10_20 := (d20.cell (p := ⟨w8.heap.size, 10, none⟩) gl_19).trans g10_19
      have g11_20 := (d20.cell (p := ⟨w8.heap.size, 11, none⟩) gl_19).trans g11_19
      have g12_20 := (d20.cell (p := ⟨w8.heap.size, 12, none⟩) gl_19).trans g12_19
      have g13_20 := (d20.cell (p := ⟨w8.heap.size, 13, none⟩) gl_19).trans g13_19
      have gl_20 := Nat.lt_of_lt_of_le gl_19 d20.size
      clear a0_19 a1_19 a2_19 a3_19 a4_19 a5_19 a6_19 a7_19 a8_19 a9_19 a10_19 a11_19 a12_19 a13_19 al_19 s0_19 s1_19 s2_19 s3_19 s4_19 s5_19 s6_19 s7_19 s8_19 s9_19 s10_19 s11_19 s12_19 s13_19 sl_19 g0_19 g1_19 g2_19 g3_19 g4_19 g5_19 g6_19 g7_19 g8_19 g9_19 g10_19 g11_19 g12_19 g13_19 gl_19
      clear b20
      have RM_20 := hid (RM_19.out.later d20)
      clear RM_19 RH_19
      have RS_20 := hid (RS_19.out.later d20)
      have E5_20 : Below w5.heap.size w5 w20 := E5_19.trans (d20.mono E5_19.size)
      clear d20 RS_19 E5_19
      go_wp2_with fail
      refine (HG1 _ _ _ RM_20.out).mono ?_
      rintro e w21 ⟨rfl, b21⟩
      have d21 : Below w20.heap.size w20 w21 := (Below.trans (by go_grown) (b21.mono (by first | omega | (simp; done) | (simp; omega))))
      have c21 : Below w.heap.size w w21 := c20.trans (d21.mono c20.size)
      have a0_21 := (d21.cell (p := ⟨w.heap.size, 0, none⟩) al_20).trans a0_20
      have a1_21 := (d21.cell (p := ⟨w.heap.size, 1, none⟩) al_20).trans a1_20
      have a2_21 := (d21.cell (p := ⟨w.heap.size, 2, none⟩) al_20).trans a2_20
      have a3_21 := (d21.cell (p := ⟨w.heap.size, 3, none⟩) al_20).trans a3_20
      have a4_21 := (d21.cell (p := ⟨w.heap.size, 4, none⟩) al_20).trans a4_20
      have a5_21 := (d21.cell (p := ⟨w.heap.size, 5, none⟩) al_20).trans a5_20
      have a6_21 := (d21.cell (p := ⟨w.heap.size, 6, none⟩) al_20).trans a6_20
      have a7_21 := (d21.cell (p := ⟨w.heap.size, 7, none⟩) al_20).trans a7_20
      have a8_21 := (d21.cell (p := ⟨w.heap.size, 8, none⟩) al_20).trans a8_20
      have a9_21 := (d21.cell (p := ⟨w.heap.size, 9, none⟩) al_20).trans a9_20
      have a10_21 := (d21.cell (p := ⟨w.heap.size, 10, none⟩) al_20).trans a10_20
      have a11_21 := (d21.cell (p := ⟨w.heap.size, 11, none⟩) al_20).trans a11_20
      have a12_21 := (d21.cell (p := ⟨w.heap.size, 12, none⟩) al_20).trans a12_20
      have a13_21 := (d21.cell (p := ⟨w.heap.size, 13, none⟩) al_20).trans a13_20
      have al_21 := Nat.lt_of_lt_of_le al_20 d21.size
      have s0_21 := (d21.cell (p := ⟨w4.heap.size, 0, none⟩) sl_20).trans s0_20
      have s1_21 := (d21.cell (p := ⟨w4.heap.size, 1, none⟩) sl_20).trans s1_20
      have s2_21 := (d21.cell (p := ⟨w4.heap.size, 2, none⟩) sl_20).trans s2_20
      have s3_21 := (d21.cell (p := ⟨w4.heap.size, 3, none⟩) sl_20).trans s3_20
      have s4_21 := (d21.cell (p := ⟨w4.heap.size, 4, none⟩) sl_20).trans s4_20
      have s5_21 := (d21.cell (p := ⟨w4.heap.size, 5, none⟩) sl_20).trans s5_20
      have s6_21 := (d21.cell (p := ⟨w4.heap.size, 6, none⟩) sl_20).trans s6_20
      have s7_21 := (d21.cell (p := ⟨w4.heap.size, 7, none⟩) sl_20).trans s7_20
      have s8_21 := (d21.cell (p := ⟨w4.heap.size, 8, none⟩) sl_20).trans s8_20
      have s9_21 := (d21.cell (p := ⟨w4.heap.size, 9, none⟩) sl_20).trans s9_20
      have s10_21 := (d21.cell (p := ⟨w4.heap.size, 10, none⟩) sl_20).trans s10_20
      have s11_21 := (d21.cell (p := ⟨w4.heap.size, 11, none⟩) sl_20).trans s11_20
      have s12_21 := (d21.cell (p := ⟨w4.heap.size, 12, none⟩) sl_20).trans s12_20
      have s13_21 := (d21.cell (p := ⟨w4.heap.size, 13, none⟩) sl_20).trans s13_20
      have sl_21 := Nat.lt_of_lt_of_le sl_20 d21.size
      have g0_21 := (d21.cell (p := ⟨w8.heap.size, 0, none⟩) gl_20).trans g0_20
      have g1_21 := (d21.cell (p := ⟨w8.heap.size, 1, none⟩) gl_20).trans g1_20
      have g2_21 := (d21.cell (p := ⟨w8.heap.size, 2, none⟩) gl_20).trans g2_20
      have g3_21 := (d21.cell (p := ⟨w8.heap.size, 3, none⟩) gl_20).trans g3_20
      have g4_21 := (d21.cell (p := ⟨w8.heap.size, 4, none⟩) gl_20).trans g4_20
      have g5_21 := (d21.cell (p := ⟨w8.heap.size, 5, none⟩) gl_20).trans g5_20
      have g6_21 := (d21.cell (p := ⟨w8.heap.size, 6, none⟩) gl_20).trans g6_20
      have g7_21 := (d21.cell (p := ⟨w8.heap.size, 7, none⟩) gl_20).trans g7_20
      have g8_21 := (d21.cell (p := ⟨w8.heap.size, 8, none⟩) gl_20).trans g8_20
      have g9_21 := (d21.cell (p := ⟨w8.heap.size, 9, none⟩) gl_20).trans g9_20
      have g10_21 := (d21.cell (p := ⟨w8.heap.size, 10, none⟩) gl_20).trans g10_20
      have g11_21 := (d21.cell (p := ⟨w8.heap.size, 11, none⟩) gl_20).trans g11_20
      have g12_21 := (d21.cell (p := ⟨w8.heap.size, 12, none⟩) gl_20).trans g12_20
      have g13_21 := (d21.cell (p := ⟨w8.heap.size, 13, none⟩) gl_20).trans g13_20
      have gl_21 := Nat.lt_of_lt_of_le gl_20 d21.size
      clear a0_20 a1_20 a2_20 a3_20 a4_20 a5_20 a6_20 a7_20 a8_20 a9_20 a10_20 a11_20 a12_20 a13_20 al_20 s0_20 s1_20 s2_20 s3_20 s4_20 s5_20 s6_20 s7_20 s8_20 s9_20 s10_20 s11_20 s12_20 s13_20 sl_20 g0_20 g1_20 g2_20 g3_20 g4_20 g5_20 g6_20 g7_20 g8_20 g9_20 g10_20 g11_20 g12_20 g13_20 gl_20
      have RM_21 := hid (RM_20.out.later d21)
      clear RM_20 b21
      go_wp2
      go_ret
      exact ⟨by simp, c21⟩
  · go_wp2
    go_ret
    exact ⟨by simp, c2⟩
end Go.Proofs.YtddpoheoecafjaaGreat
