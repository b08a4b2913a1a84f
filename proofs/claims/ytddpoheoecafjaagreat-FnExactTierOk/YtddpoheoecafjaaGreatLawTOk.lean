/- The law FnExactTierOk: its walk. Written by a program (gltok.py). -/
import Derived.Test.YtddpoheoecafjaaGreatQc
import Derived.Deep.Cut
namespace Go.Proofs.YtddpoheoecafjaaGreat
open Go.RowKit
attribute [local go_sem ↓] Go.wp_at_zero Go.wp_at_succ

set_option maxRecDepth 100000 in
set_option maxHeartbeats 4000000 in
theorem lawTOk_any (i0 i1 i2 : Int) (q0 q1 q2 q3 : Bool) (i3 i4 i5 i6 i7 : Int) (va0 va1 : Value) (A0 A1 : List KD) (w : World) (ha : RSCache w va0 va1 A0 A1) :
    Calls Tryz.prog 3 #[.agg #[.int .i64 i0, .int .i64 i1, .int .i64 i2, .bool q0, .bool q1, .bool q2, .bool q3, .int .i64 i3, .int .i64 i4, .int .i64 i5, .int .i64 i6, .int .i64 i7, va0, va1]] w fun e w' => e = .returned (.bool true) ∧ Below w.heap.size w w' := by
  have HA := hid ha
  obtain ⟨ao0, ao1, ac0, ac1, rfl, rfl⟩ := ha.open
  go_enter Tryz.func3, Tryz.ntmps3
  go_wp2_with fail
  have a0_1 : (w.alloc (.cells #[.int .i64 i0, .int .i64 i1, .int .i64 i2, .bool q0, .bool q1, .bool q2, .bool q3, .int .i64 i3, .int .i64 i4, .int .i64 i5, .int .i64 i6, .int .i64 i7, .slice ao0 A0.length ac0, .slice ao1 A1.length ac1] 30)).cell? ⟨w.heap.size, 0, none⟩ = some (.int .i64 i0) := by go_cell
  have a1_1 : (w.alloc (.cells #[.int .i64 i0, .int .i64 i1, .int .i64 i2, .bool q0, .bool q1, .bool q2, .bool q3, .int .i64 i3, .int .i64 i4, .int .i64 i5, .int .i64 i6, .int .i64 i7, .slice ao0 A0.length ac0, .slice ao1 A1.length ac1] 30)).cell? ⟨w.heap.size, 1, none⟩ = some (.int .i64 i1) := by go_cell
  have a2_1 : (w.alloc (.cells #[.int .i64 i0, .int .i64 i1, .int .i64 i2, .bool q0, .bool q1, .bool q2, .bool q3, .int .i64 i3, .int .i64 i4, .int .i64 i5, .int .i64 i6, .int .i64 i7, .slice ao0 A0.length ac0, .slice ao1 A1.length ac1] 30)).cell? ⟨w.heap.size, 2, none⟩ = some (.int .i64 i2) := by go_cell
  have a3_1 : (w.alloc (.cells #[.int .i64 i0, .int .i64 i1, .int .i64 i2, .bool q0, .bool q1, .bool q2, .bool q3, .int .i64 i3, .int .i64 i4, .int .i64 i5, .int .i64 i6, .int .i64 i7, .slice ao0 A0.length ac0, .slice ao1 A1.length ac1] 30)).cell? ⟨w.heap.size, 3, none⟩ = some (.bool q0) := by go_cell
  have a4_1 : (w.alloc (.cells #[.int .i64 i0, .int .i64 i1, .int .i64 i2, .bool q0, .bool q1, .bool q2, .bool q3, .int .i64 i3, .int .i64 i4, .int .i64 i5, .int .i64 i6, .int .i64 i7, .slice ao0 A0.length ac0, .slice ao1 A1.length ac1] 30)).cell? ⟨w.heap.size, 4, none⟩ = some (.bool q1) := by go_cell
  have a5_1 : (w.alloc (.cells #[.int .i64 i0, .int .i64 i1, .int .i64 i2, .bool q0, .bool q1, .bool q2, .bool q3, .int .i64 i3, .int .i64 i4, .int .i64 i5, .int .i64 i6, .int .i64 i7, .slice ao0 A0.length ac0, .slice ao1 A1.length ac1] 30)).cell? ⟨w.heap.size, 5, none⟩ = some (.bool q2) := by go_cell
  have a6_1 : (w.alloc (.cells #[.int .i64 i0, .int .i64 i1, .int .i64 i2, .bool q0, .bool q1, .bool q2, .bool q3, .int .i64 i3, .int .i64 i4, .int .i64 i5, .int .i64 i6, .int .i64 i7, .slice ao0 A0.length ac0, .slice ao1 A1.length ac1] 30)).cell? ⟨w.heap.size, 6, none⟩ = some (.bool q3) := by go_cell
  have a7_1 : (w.alloc (.cells #[.int .i64 i0, .int .i64 i1, .int .i64 i2, .bool q0, .bool q1, .bool q2, .bool q3, .int .i64 i3, .int .i64 i4, .int .i64 i5, .int .i64 i6, .int .i64 i7, .slice ao0 A0.length ac0, .slice ao1 A1.length ac1] 30)).cell? ⟨w.heap.size, 7, none⟩ = some (.int .i64 i3) := by go_cell
  have a8_1 : (w.alloc (.cells #[.int .i64 i0, .int .i64 i1, .int .i64 i2, .bool q0, .bool q1, .bool q2, .bool q3, .int .i64 i3, .int .i64 i4, .int .i64 i5, .int .i64 i6, .int .i64 i7, .slice ao0 A0.length ac0, .slice ao1 A1.length ac1] 30)).cell? ⟨w.heap.size, 8, none⟩ = some (.int .i64 i4) := by go_cell
  have a9_1 : (w.alloc (.cells #[.int .i64 i0, .int .i64 i1, .int .i64 i2, .bool q0, .bool q1, .bool q2, .bool q3, .int .i64 i3, .int .i64 i4, .int .i64 i5, .int .i64 i6, .int .i64 i7, .slice ao0 A0.length ac0, .slice ao1 A1.length ac1] 30)).cell? ⟨w.heap.size, 9, none⟩ = some (.int .i64 i5) := by go_cell
  have a10_1 : (w.alloc (.cells #[.int .i64 i0, .int .i64 i1, .int .i64 i2, .bool q0, .bool q1, .bool q2, .bool q3, .int .i64 i3, .int .i64 i4, .int .i64 i5, .int .i64 i6, .int .i64 i7, .slice ao0 A0.length ac0, .slice ao1 A1.length ac1] 30)).cell? ⟨w.heap.size, 10, none⟩ = some (.int .i64 i6) := by go_cell
  have a11_1 : (w.alloc (.cells #[.int .i64 i0, .int .i64 i1, .int .i64 i2, .bool q0, .bool q1, .bool q2, .bool q3, .int .i64 i3, .int .i64 i4, .int .i64 i5, .int .i64 i6, .int .i64 i7, .slice ao0 A0.length ac0, .slice ao1 A1.length ac1] 30)).cell? ⟨w.heap.size, 11, none⟩ = some (.int .i64 i7) := by go_cell
  have a12_1 : (w.alloc (.cells #[.int .i64 i0, .int .i64 i1, .int .i64 i2, .bool q0, .bool q1, .bool q2, .bool q3, .int .i64 i3, .int .i64 i4, .int .i64 i5, .int .i64 i6, .int .i64 i7, .slice ao0 A0.length ac0, .slice ao1 A1.length ac1] 30)).cell? ⟨w.heap.size, 12, none⟩ = some (.slice ao0 A0.length ac0) := by go_cell
  have a13_1 : (w.alloc (.cells #[.int .i64 i0, .int .i64 i1, .int .i64 i2, .bool q0, .bool q1, .bool q2, .bool q3, .int .i64 i3, .int .i64 i4, .int .i64 i5, .int .i64 i6, .int .i64 i7, .slice ao0 A0.length ac0, .slice ao1 A1.length ac1] 30)).cell? ⟨w.heap.size, 13, none⟩ = some (.slice ao1 A1.length ac1) := by go_cell
  have al_1 : w.heap.size < (w.alloc (.cells #[.int .i64 i0, .int .i64 i1, .int .i64 i2, .bool q0, .bool q1, .bool q2, .bool q3, .int .i64 i3, .int .i64 i4, .int .i64 i5, .int .i64 i6, .int .i64 i7, .slice ao0 A0.length ac0, .slice ao1 A1.length ac1] 30)).heap.size := by first | (simp; done) | (simp; omega)
  have c1 : Below w.heap.size w (w.alloc (.cells #[.int .i64 i0, .int .i64 i1, .int .i64 i2, .bool q0, .bool q1, .bool q2, .bool q3, .int .i64 i3, .int .i64 i4, .int .i64 i5, .int .i64 i6, .int .i64 i7, .slice ao0 A0.length ac0, .slice ao1 A1.length ac1] 30)) := by go_grown
  have s1 : (w.alloc (.cells #[.int .i64 i0, .int .i64 i1, .int .i64 i2, .bool q0, .bool q1, .bool q2, .bool q3, .int .i64 i3, .int .i64 i4, .int .i64 i5, .int .i64 i6, .int .i64 i7, .slice ao0 A0.length ac0, .slice ao1 A1.length ac1] 30)).heap.size = w.heap.size + 1 := by simp
  generalize (w.alloc (.cells #[.int .i64 i0, .int .i64 i1, .int .i64 i2, .bool q0, .bool q1, .bool q2, .bool q3, .int .i64 i3, .int .i64 i4, .int .i64 i5, .int .i64 i6, .int .i64 i7, .slice ao0 A0.length ac0, .slice ao1 A1.length ac1] 30)) = w1 at a0_1 a1_1 a2_1 a3_1 a4_1 a5_1 a6_1 a7_1 a8_1 a9_1 a10_1 a11_1 a12_1 a13_1 al_1 c1 s1 ⊢
  have qa0_1 := cell_regrown a0_1
  have qa1_1 := cell_regrown a1_1
  have qa2_1 := cell_regrown a2_1
  have qa3_1 := cell_regrown a3_1
  have qa4_1 := cell_regrown a4_1
  have qa5_1 := cell_regrown a5_1
  have qa6_1 := cell_regrown a6_1
  have qa7_1 := cell_regrown a7_1
  have qa8_1 := cell_regrown a8_1
  have qa9_1 := cell_regrown a9_1
  have qa10_1 := cell_regrown a10_1
  have qa11_1 := cell_regrown a11_1
  have qa12_1 := cell_regrown a12_1
  have qa13_1 := cell_regrown a13_1
  refine (szTier_rd i0 i1 i2 q0 q1 q2 q3 i3 i4 i5 i6 i7 _ _ A0 A1 _ _ (HA.out.later c1) (by omega) (by omega)).mono ?_
  rintro e w2 ⟨hs, b2⟩
  have d2 : Below w1.heap.size w1 w2 := (Below.trans (by go_grown) (b2.mono (by first | omega | (simp; done) | (simp; omega))))
  have c2 : Below w.heap.size w w2 := c1.trans (d2.mono c1.size)
  have a0_2 : w2.cell? ⟨w.heap.size, 0, none⟩ = some (.int .i64 i0) := (by rw [b2.cell (by first | omega | (simp; done) | (simp; omega))]; go_cell)
  have a1_2 : w2.cell? ⟨w.heap.size, 1, none⟩ = some (.int .i64 i1) := (by rw [b2.cell (by first | omega | (simp; done) | (simp; omega))]; go_cell)
  have a2_2 : w2.cell? ⟨w.heap.size, 2, none⟩ = some (.int .i64 i2) := (by rw [b2.cell (by first | omega | (simp; done) | (simp; omega))]; go_cell)
  have a3_2 : w2.cell? ⟨w.heap.size, 3, none⟩ = some (.bool q0) := (by rw [b2.cell (by first | omega | (simp; done) | (simp; omega))]; go_cell)
  have a4_2 : w2.cell? ⟨w.heap.size, 4, none⟩ = some (.bool q1) := (by rw [b2.cell (by first | omega | (simp; done) | (simp; omega))]; go_cell)
  have a5_2 : w2.cell? ⟨w.heap.size, 5, none⟩ = some (.bool q2) := (by rw [b2.cell (by first | omega | (simp; done) | (simp; omega))]; go_cell)
  have a6_2 : w2.cell? ⟨w.heap.size, 6, none⟩ = some (.bool q3) := (by rw [b2.cell (by first | omega | (simp; done) | (simp; omega))]; go_cell)
  have a7_2 : w2.cell? ⟨w.heap.size, 7, none⟩ = some (.int .i64 i3) := (by rw [b2.cell (by first | omega | (simp; done) | (simp; omega))]; go_cell)
  have a8_2 : w2.cell? ⟨w.heap.size, 8, none⟩ = some (.int .i64 i4) := (by rw [b2.cell (by first | omega | (simp; done) | (simp; omega))]; go_cell)
  have a9_2 : w2.cell? ⟨w.heap.size, 9, none⟩ = some (.int .i64 i5) := (by rw [b2.cell (by first | omega | (simp; done) | (simp; omega))]; go_cell)
  have a10_2 : w2.cell? ⟨w.heap.size, 10, none⟩ = some (.int .i64 i6) := (by rw [b2.cell (by first | omega | (simp; done) | (simp; omega))]; go_cell)
  have a11_2 : w2.cell? ⟨w.heap.size, 11, none⟩ = some (.int .i64 i7) := (by rw [b2.cell (by first | omega | (simp; done) | (simp; omega))]; go_cell)
  have a12_2 : w2.cell? ⟨w.heap.size, 12, none⟩ = some (.slice ao0 A0.length ac0) := (by rw [b2.cell (by first | omega | (simp; done) | (simp; omega))]; go_cell)
  have a13_2 : w2.cell? ⟨w.heap.size, 13, none⟩ = some (.slice ao1 A1.length ac1) := (by rw [b2.cell (by first | omega | (simp; done) | (simp; omega))]; go_cell)
  have al_2 : w.heap.size < w2.heap.size := (by have := b2.size; first | omega | (revert this; simp; done) | (revert this; simp; omega))
  clear a0_1 a1_1 a2_1 a3_1 a4_1 a5_1 a6_1 a7_1 a8_1 a9_1 a10_1 a11_1 a12_1 a13_1 al_1
  clear b2 d2
  rcases hs with ⟨r, rfl, hr0, hr1, hA⟩ | rfl
  · have HLA := hid hA
    have hr2 : ¬ (r < 0) := by omega
    clear hA
    go_wp2_with fail
    refine (toTier_rd i0 i1 i2 q0 q1 q2 q3 i3 i4 i5 i6 i7 _ _ A0 A1 _ (HA.out.later c2) HLA.out).mono ?_
    rintro e w3 ⟨⟨xo0, xo1, xc0, xc1, rfl, oa, _⟩, b3⟩
    have OA3 := hid oa
    clear oa
    have d3 : Below w2.heap.size w2 w3 := (Below.trans (by go_grown) (b3.mono (by first | omega | (simp; done) | (simp; omega))))
    have c3 : Below w.heap.size w w3 := c2.trans (d3.mono c2.size)
    have a0_3 : w3.cell? ⟨w.heap.size, 0, none⟩ = some (.int .i64 i0) := (by rw [b3.cell (by first | omega | (simp; done) | (simp; omega))]; go_cell)
    have a1_3 : w3.cell? ⟨w.heap.size, 1, none⟩ = some (.int .i64 i1) := (by rw [b3.cell (by first | omega | (simp; done) | (simp; omega))]; go_cell)
    have a2_3 : w3.cell? ⟨w.heap.size, 2, none⟩ = some (.int .i64 i2) := (by rw [b3.cell (by first | omega | (simp; done) | (simp; omega))]; go_cell)
    have a3_3 : w3.cell? ⟨w.heap.size, 3, none⟩ = some (.bool q0) := (by rw [b3.cell (by first | omega | (simp; done) | (simp; omega))]; go_cell)
    have a4_3 : w3.cell? ⟨w.heap.size, 4, none⟩ = some (.bool q1) := (by rw [b3.cell (by first | omega | (simp; done) | (simp; omega))]; go_cell)
    have a5_3 : w3.cell? ⟨w.heap.size, 5, none⟩ = some (.bool q2) := (by rw [b3.cell (by first | omega | (simp; done) | (simp; omega))]; go_cell)
    have a6_3 : w3.cell? ⟨w.heap.size, 6, none⟩ = some (.bool q3) := (by rw [b3.cell (by first | omega | (simp; done) | (simp; omega))]; go_cell)
    have a7_3 : w3.cell? ⟨w.heap.size, 7, none⟩ = some (.int .i64 i3) := (by rw [b3.cell (by first | omega | (simp; done) | (simp; omega))]; go_cell)
    have a8_3 : w3.cell? ⟨w.heap.size, 8, none⟩ = some (.int .i64 i4) := (by rw [b3.cell (by first | omega | (simp; done) | (simp; omega))]; go_cell)
    have a9_3 : w3.cell? ⟨w.heap.size, 9, none⟩ = some (.int .i64 i5) := (by rw [b3.cell (by first | omega | (simp; done) | (simp; omega))]; go_cell)
    have a10_3 : w3.cell? ⟨w.heap.size, 10, none⟩ = some (.int .i64 i6) := (by rw [b3.cell (by first | omega | (simp; done) | (simp; omega))]; go_cell)
    have a11_3 : w3.cell? ⟨w.heap.size, 11, none⟩ = some (.int .i64 i7) := (by rw [b3.cell (by first | omega | (simp; done) | (simp; omega))]; go_cell)
    have a12_3 : w3.cell? ⟨w.heap.size, 12, none⟩ = some (.slice ao0 A0.length ac0) := (by rw [b3.cell (by first | omega | (simp; done) | (simp; omega))]; go_cell)
    have a13_3 : w3.cell? ⟨w.heap.size, 13, none⟩ = some (.slice ao1 A1.length ac1) := (by rw [b3.cell (by first | omega | (simp; done) | (simp; omega))]; go_cell)
    have al_3 : w.heap.size < w3.heap.size := (by have := b3.size; first | omega | (revert this; simp; done) | (revert this; simp; omega))
    clear a0_2 a1_2 a2_2 a3_2 a4_2 a5_2 a6_2 a7_2 a8_2 a9_2 a10_2 a11_2 a12_2 a13_2 al_2
    clear b3 d3
    go_wp2_with fail
    refine (specTOk_any i0 i1 i2 q0 q1 q2 q3 i3 i4 i5 i6 i7 _ _ A0 A1 _ OA3.out).mono ?_
    rintro e w4 ⟨rfl, b4⟩
    have d4 : Below w3.heap.size w3 w4 := (Below.trans (by go_grown) (b4.mono (by first | omega | (simp; done) | (simp; omega))))
    have c4 : Below w.heap.size w w4 := c3.trans (d4.mono c3.size)
    have a0_4 : w4.cell? ⟨w.heap.size, 0, none⟩ = some (.int .i64 i0) := (by rw [b4.cell (by first | omega | (simp; done) | (simp; omega))]; go_cell)
    have a1_4 : w4.cell? ⟨w.heap.size, 1, none⟩ = some (.int .i64 i1) := (by rw [b4.cell (by first | omega | (simp; done) | (simp; omega))]; go_cell)
    have a2_4 : w4.cell? ⟨w.heap.size, 2, none⟩ = some (.int .i64 i2) := (by rw [b4.cell (by first | omega | (simp; done) | (simp; omega))]; go_cell)
    have a3_4 : w4.cell? ⟨w.heap.size, 3, none⟩ = some (.bool q0) := (by rw [b4.cell (by first | omega | (simp; done) | (simp; omega))]; go_cell)
    have a4_4 : w4.cell? ⟨w.heap.size, 4, none⟩ = some (.bool q1) := (by rw [b4.cell (by first | omega | (simp; done) | (simp; omega))]; go_cell)
    have a5_4 : w4.cell? ⟨w.heap.size, 5, none⟩ = some (.bool q2) := (by rw [b4.cell (by first | omega | (simp; done) | (simp; omega))]; go_cell)
    have a6_4 : w4.cell? ⟨w.heap.size, 6, none⟩ = some (.bool q3) := (by rw [b4.cell (by first | omega | (simp; done) | (simp; omega))]; go_cell)
    have a7_4 : w4.cell? ⟨w.heap.size, 7, none⟩ = some (.int .i64 i3) := (by rw [b4.cell (by first | omega | (simp; done) | (simp; omega))]; go_cell)
    have a8_4 : w4.cell? ⟨w.heap.size, 8, none⟩ = some (.int .i64 i4) := (by rw [b4.cell (by first | omega | (simp; done) | (simp; omega))]; go_cell)
    have a9_4 : w4.cell? ⟨w.heap.size, 9, none⟩ = some (.int .i64 i5) := (by rw [b4.cell (by first | omega | (simp; done) | (simp; omega))]; go_cell)
    have a10_4 : w4.cell? ⟨w.heap.size, 10, none⟩ = some (.int .i64 i6) := (by rw [b4.cell (by first | omega | (simp; done) | (simp; omega))]; go_cell)
    have a11_4 : w4.cell? ⟨w.heap.size, 11, none⟩ = some (.int .i64 i7) := (by rw [b4.cell (by first | omega | (simp; done) | (simp; omega))]; go_cell)
    have a12_4 : w4.cell? ⟨w.heap.size, 12, none⟩ = some (.slice ao0 A0.length ac0) := (by rw [b4.cell (by first | omega | (simp; done) | (simp; omega))]; go_cell)
    have a13_4 : w4.cell? ⟨w.heap.size, 13, none⟩ = some (.slice ao1 A1.length ac1) := (by rw [b4.cell (by first | omega | (simp; done) | (simp; omega))]; go_cell)
    have al_4 : w.heap.size < w4.heap.size := (by have := b4.size; first | omega | (revert this; simp; done) | (revert this; simp; omega))
    clear a0_3 a1_3 a2_3 a3_3 a4_3 a5_3 a6_3 a7_3 a8_3 a9_3 a10_3 a11_3 a12_3 a13_3 al_3
    clear b4 d4
    go_wp2_with fail
    refine (toTier_rd i0 i1 i2 q0 q1 q2 q3 i3 i4 i5 i6 i7 _ _ A0 A1 _ (HA.out.later c4) HLA.out).mono ?_
    rintro e w5 ⟨⟨po0, po1, pc0, pc1, rfl, oa, _⟩, b5⟩
    have OC5 := hid oa
    clear oa
    have d5 : Below w4.heap.size w4 w5 := (Below.trans (by go_grown) (b5.mono (by first | omega | (simp; done) | (simp; omega))))
    have c5 : Below w.heap.size w w5 := c4.trans (d5.mono c4.size)
    have a0_5 : w5.cell? ⟨w.heap.size, 0, none⟩ = some (.int .i64 i0) := (by rw [b5.cell (by first | omega | (simp; done) | (simp; omega))]; go_cell)
    have a1_5 : w5.cell? ⟨w.heap.size, 1, none⟩ = some (.int .i64 i1) := (by rw [b5.cell (by first | omega | (simp; done) | (simp; omega))]; go_cell)
    have a2_5 : w5.cell? ⟨w.heap.size, 2, none⟩ = some (.int .i64 i2) := (by rw [b5.cell (by first | omega | (simp; done) | (simp; omega))]; go_cell)
    have a3_5 : w5.cell? ⟨w.heap.size, 3, none⟩ = some (.bool q0) := (by rw [b5.cell (by first | omega | (simp; done) | (simp; omega))]; go_cell)
    have a4_5 : w5.cell? ⟨w.heap.size, 4, none⟩ = some (.bool q1) := (by rw [b5.cell (by first | omega | (simp; done) | (simp; omega))]; go_cell)
    have a5_5 : w5.cell? ⟨w.heap.size, 5, none⟩ = some (.bool q2) := (by rw [b5.cell (by first | omega | (simp; done) | (simp; omega))]; go_cell)
    have a6_5 : w5.cell? ⟨w.heap.size, 6, none⟩ = some (.bool q3) := (by rw [b5.cell (by first | omega | (simp; done) | (simp; omega))]; go_cell)
    have a7_5 : w5.cell? ⟨w.heap.size, 7, none⟩ = some (.int .i64 i3) := (by rw [b5.cell (by first | omega | (simp; done) | (simp; omega))]; go_cell)
    have a8_5 : w5.cell? ⟨w.heap.size, 8, none⟩ = some (.int .i64 i4) := (by rw [b5.cell (by first | omega | (simp; done) | (simp; omega))]; go_cell)
    have a9_5 : w5.cell? ⟨w.heap.size, 9, none⟩ = some (.int .i64 i5) := (by rw [b5.cell (by first | omega | (simp; done) | (simp; omega))]; go_cell)
    have a10_5 : w5.cell? ⟨w.heap.size, 10, none⟩ = some (.int .i64 i6) := (by rw [b5.cell (by first | omega | (simp; done) | (simp; omega))]; go_cell)
    have a11_5 : w5.cell? ⟨w.heap.size, 11, none⟩ = some (.int .i64 i7) := (by rw [b5.cell (by first | omega | (simp; done) | (simp; omega))]; go_cell)
    have a12_5 : w5.cell? ⟨w.heap.size, 12, none⟩ = some (.slice ao0 A0.length ac0) := (by rw [b5.cell (by first | omega | (simp; done) | (simp; omega))]; go_cell)
    have a13_5 : w5.cell? ⟨w.heap.size, 13, none⟩ = some (.slice ao1 A1.length ac1) := (by rw [b5.cell (by first | omega | (simp; done) | (simp; omega))]; go_cell)
    have al_5 : w.heap.size < w5.heap.size := (by have := b5.size; first | omega | (revert this; simp; done) | (revert this; simp; omega))
    clear a0_4 a1_4 a2_4 a3_4 a4_4 a5_4 a6_4 a7_4 a8_4 a9_4 a10_4 a11_4 a12_4 a13_4 al_4
    clear b5 d5
    go_wp2_with fail
    have x0_6 : (w5.alloc (.cells #[.int .i64 i0, .int .i64 i1, .int .i64 i2, .bool q0, .bool q1, .bool q2, .bool q3, .int .i64 i3, .int .i64 i4, .int .i64 i5, .int .i64 i6, .int .i64 i7, .slice po0 A0.length pc0, .slice po1 A1.length pc1] 38)).cell? ⟨w5.heap.size, 0, none⟩ = some (.int .i64 i0) := by go_cell
    have x1_6 : (w5.alloc (.cells #[.int .i64 i0, .int .i64 i1, .int .i64 i2, .bool q0, .bool q1, .bool q2, .bool q3, .int .i64 i3, .int .i64 i4, .int .i64 i5, .int .i64 i6, .int .i64 i7, .slice po0 A0.length pc0, .slice po1 A1.length pc1] 38)).cell? ⟨w5.heap.size, 1, none⟩ = some (.int .i64 i1) := by go_cell
    have x2_6 : (w5.alloc (.cells #[.int .i64 i0, .int .i64 i1, .int .i64 i2, .bool q0, .bool q1, .bool q2, .bool q3, .int .i64 i3, .int .i64 i4, .int .i64 i5, .int .i64 i6, .int .i64 i7, .slice po0 A0.length pc0, .slice po1 A1.length pc1] 38)).cell? ⟨w5.heap.size, 2, none⟩ = some (.int .i64 i2) := by go_cell
    have x3_6 : (w5.alloc (.cells #[.int .i64 i0, .int .i64 i1, .int .i64 i2, .bool q0, .bool q1, .bool q2, .bool q3, .int .i64 i3, .int .i64 i4, .int .i64 i5, .int .i64 i6, .int .i64 i7, .slice po0 A0.length pc0, .slice po1 A1.length pc1] 38)).cell? ⟨w5.heap.size, 3, none⟩ = some (.bool q0) := by go_cell
    have x4_6 : (w5.alloc (.cells #[.int .i64 i0, .int .i64 i1, .int .i64 i2, .bool q0, .bool q1, .bool q2, .bool q3, .int .i64 i3, .int .i64 i4, .int .i64 i5, .int .i64 i6, .int .i64 i7, .slice po0 A0.length pc0, .slice po1 A1.length pc1] 38)).cell? ⟨w5.heap.size, 4, none⟩ = some (.bool q1) := by go_cell
    have x5_6 : (w5.alloc (.cells #[.int .i64 i0, .int .i64 i1, .int .i64 i2, .bool q0, .bool q1, .bool q2, .bool q3, .int .i64 i3, .int .i64 i4, .int .i64 i5, .int .i64 i6, .int .i64 i7, .slice po0 A0.length pc0, .slice po1 A1.length pc1] 38)).cell? ⟨w5.heap.size, 5, none⟩ = some (.bool q2) := by go_cell
    have x6_6 : (w5.alloc (.cells #[.int .i64 i0, .int .i64 i1, .int .i64 i2, .bool q0, .bool q1, .bool q2, .bool q3, .int .i64 i3, .int .i64 i4, .int .i64 i5, .int .i64 i6, .int .i64 i7, .slice po0 A0.length pc0, .slice po1 A1.length pc1] 38)).cell? ⟨w5.heap.size, 6, none⟩ = some (.bool q3) := by go_cell
    have x7_6 : (w5.alloc (.cells #[.int .i64 i0, .int .i64 i1, .int .i64 i2, .bool q0, .bool q1, .bool q2, .bool q3, .int .i64 i3, .int .i64 i4, .int .i64 i5, .int .i64 i6, .int .i64 i7, .slice po0 A0.length pc0, .slice po1 A1.length pc1] 38)).cell? ⟨w5.heap.size, 7, none⟩ = some (.int .i64 i3) := by go_cell
    have x8_6 : (w5.alloc (.cells #[.int .i64 i0, .int .i64 i1, .int .i64 i2, .bool q0, .bool q1, .bool q2, .bool q3, .int .i64 i3, .int .i64 i4, .int .i64 i5, .int .i64 i6, .int .i64 i7, .slice po0 A0.length pc0, .slice po1 A1.length pc1] 38)).cell? ⟨w5.heap.size, 8, none⟩ = some (.int .i64 i4) := by go_cell
    have x9_6 : (w5.alloc (.cells #[.int .i64 i0, .int .i64 i1, .int .i64 i2, .bool q0, .bool q1, .bool q2, .bool q3, .int .i64 i3, .int .i64 i4, .int .i64 i5, .int .i64 i6, .int .i64 i7, .slice po0 A0.length pc0, .slice po1 A1.length pc1] 38)).cell? ⟨w5.heap.size, 9, none⟩ = some (.int .i64 i5) := by go_cell
    have x10_6 : (w5.alloc (.cells #[.int .i64 i0, .int .i64 i1, .int .i64 i2, .bool q0, .bool q1, .bool q2, .bool q3, .int .i64 i3, .int .i64 i4, .int .i64 i5, .int .i64 i6, .int .i64 i7, .slice po0 A0.length pc0, .slice po1 A1.length pc1] 38)).cell? ⟨w5.heap.size, 10, none⟩ = some (.int .i64 i6) := by go_cell
    have x11_6 : (w5.alloc (.cells #[.int .i64 i0, .int .i64 i1, .int .i64 i2, .bool q0, .bool q1, .bool q2, .bool q3, .int .i64 i3, .int .i64 i4, .int .i64 i5, .int .i64 i6, .int .i64 i7, .slice po0 A0.length pc0, .slice po1 A1.length pc1] 38)).cell? ⟨w5.heap.size, 11, none⟩ = some (.int .i64 i7) := by go_cell
    have x12_6 : (w5.alloc (.cells #[.int .i64 i0, .int .i64 i1, .int .i64 i2, .bool q0, .bool q1, .bool q2, .bool q3, .int .i64 i3, .int .i64 i4, .int .i64 i5, .int .i64 i6, .int .i64 i7, .slice po0 A0.length pc0, .slice po1 A1.length pc1] 38)).cell? ⟨w5.heap.size, 12, none⟩ = some (.slice po0 A0.length pc0) := by go_cell
    have x13_6 : (w5.alloc (.cells #[.int .i64 i0, .int .i64 i1, .int .i64 i2, .bool q0, .bool q1, .bool q2, .bool q3, .int .i64 i3, .int .i64 i4, .int .i64 i5, .int .i64 i6, .int .i64 i7, .slice po0 A0.length pc0, .slice po1 A1.length pc1] 38)).cell? ⟨w5.heap.size, 13, none⟩ = some (.slice po1 A1.length pc1) := by go_cell
    have xl_6 : w5.heap.size < (w5.alloc (.cells #[.int .i64 i0, .int .i64 i1, .int .i64 i2, .bool q0, .bool q1, .bool q2, .bool q3, .int .i64 i3, .int .i64 i4, .int .i64 i5, .int .i64 i6, .int .i64 i7, .slice po0 A0.length pc0, .slice po1 A1.length pc1] 38)).heap.size := by simp
    have d6 : Below w5.heap.size w5 (w5.alloc (.cells #[.int .i64 i0, .int .i64 i1, .int .i64 i2, .bool q0, .bool q1, .bool q2, .bool q3, .int .i64 i3, .int .i64 i4, .int .i64 i5, .int .i64 i6, .int .i64 i7, .slice po0 A0.length pc0, .slice po1 A1.length pc1] 38)) := by go_grown
    generalize (w5.alloc (.cells #[.int .i64 i0, .int .i64 i1, .int .i64 i2, .bool q0, .bool q1, .bool q2, .bool q3, .int .i64 i3, .int .i64 i4, .int .i64 i5, .int .i64 i6, .int .i64 i7, .slice po0 A0.length pc0, .slice po1 A1.length pc1] 38)) = w6 at x0_6 x1_6 x2_6 x3_6 x4_6 x5_6 x6_6 x7_6 x8_6 x9_6 x10_6 x11_6 x12_6 x13_6 xl_6 d6 ⊢
    have c6 : Below w.heap.size w w6 := c5.trans (d6.mono c5.size)
    have a0_6 : w6.cell? ⟨w.heap.size, 0, none⟩ = some (.int .i64 i0) := (by rw [d6.cell (by first | omega | (simp; done) | (simp; omega))]; go_cell)
    have a1_6 : w6.cell? ⟨w.heap.size, 1, none⟩ = some (.int .i64 i1) := (by rw [d6.cell (by first | omega | (simp; done) | (simp; omega))]; go_cell)
    have a2_6 : w6.cell? ⟨w.heap.size, 2, none⟩ = some (.int .i64 i2) := (by rw [d6.cell (by first | omega | (simp; done) | (simp; omega))]; go_cell)
    have a3_6 : w6.cell? ⟨w.heap.size, 3, none⟩ = some (.bool q0) := (by rw [d6.cell (by first | omega | (simp; done) | (simp; omega))]; go_cell)
    have a4_6 : w6.cell? ⟨w.heap.size, 4, none⟩ = some (.bool q1) := (by rw [d6.cell (by first | omega | (simp; done) | (simp; omega))]; go_cell)
    have a5_6 : w6.cell? ⟨w.heap.size, 5, none⟩ = some (.bool q2) := (by rw [d6.cell (by first | omega | (simp; done) | (simp; omega))]; go_cell)
    have a6_6 : w6.cell? ⟨w.heap.size, 6, none⟩ = some (.bool q3) := (by rw [d6.cell (by first | omega | (simp; done) | (simp; omega))]; go_cell)
    have a7_6 : w6.cell? ⟨w.heap.size, 7, none⟩ = some (.int .i64 i3) := (by rw [d6.cell (by first | omega | (simp; done) | (simp; omega))]; go_cell)
    have a8_6 : w6.cell? ⟨w.heap.size, 8, none⟩ = some (.int .i64 i4) := (by rw [d6.cell (by first | omega | (simp; done) | (simp; omega))]; go_cell)
    have a9_6 : w6.cell? ⟨w.heap.size, 9, none⟩ = some (.int .i64 i5) := (by rw [d6.cell (by first | omega | (simp; done) | (simp; omega))]; go_cell)
    have a10_6 : w6.cell? ⟨w.heap.size, 10, none⟩ = some (.int .i64 i6) := (by rw [d6.cell (by first | omega | (simp; done) | (simp; omega))]; go_cell)
    have a11_6 : w6.cell? ⟨w.heap.size, 11, none⟩ = some (.int .i64 i7) := (by rw [d6.cell (by first | omega | (simp; done) | (simp; omega))]; go_cell)
    have a12_6 : w6.cell? ⟨w.heap.size, 12, none⟩ = some (.slice ao0 A0.length ac0) := (by rw [d6.cell (by first | omega | (simp; done) | (simp; omega))]; go_cell)
    have a13_6 : w6.cell? ⟨w.heap.size, 13, none⟩ = some (.slice ao1 A1.length ac1) := (by rw [d6.cell (by first | omega | (simp; done) | (simp; omega))]; go_cell)
    have al_6 : w.heap.size < w6.heap.size := (by have := d6.size; omega)
    clear a0_5 a1_5 a2_5 a3_5 a4_5 a5_5 a6_5 a7_5 a8_5 a9_5 a10_5 a11_5 a12_5 a13_5 al_5
    have OC6 := hid (OC5.out.later d6)
    clear d6
    refine (implTOk_any i0 i1 i2 q0 q1 q2 q3 i3 i4 i5 i6 i7 _ _ A0 A1 _ OC6.out).mono ?_
    rintro e w7 ⟨rfl, b7⟩
    have d7 : Below w6.heap.size w6 w7 := (Below.trans (by go_grown) (b7.mono (by first | omega | (simp; done) | (simp; omega))))
    have c7 : Below w.heap.size w w7 := c6.trans (d7.mono c6.size)
    have a0_7 : w7.cell? ⟨w.heap.size, 0, none⟩ = some (.int .i64 i0) := (by rw [b7.cell (by first | omega | (simp; done) | (simp; omega))]; go_cell)
    have a1_7 : w7.cell? ⟨w.heap.size, 1, none⟩ = some (.int .i64 i1) := (by rw [b7.cell (by first | omega | (simp; done) | (simp; omega))]; go_cell)
    have a2_7 : w7.cell? ⟨w.heap.size, 2, none⟩ = some (.int .i64 i2) := (by rw [b7.cell (by first | omega | (simp; done) | (simp; omega))]; go_cell)
    have a3_7 : w7.cell? ⟨w.heap.size, 3, none⟩ = some (.bool q0) := (by rw [b7.cell (by first | omega | (simp; done) | (simp; omega))]; go_cell)
    have a4_7 : w7.cell? ⟨w.heap.size, 4, none⟩ = some (.bool q1) := (by rw [b7.cell (by first | omega | (simp; done) | (simp; omega))]; go_cell)
    have a5_7 : w7.cell? ⟨w.heap.size, 5, none⟩ = some (.bool q2) := (by rw [b7.cell (by first | omega | (simp; done) | (simp; omega))]; go_cell)
    have a6_7 : w7.cell? ⟨w.heap.size, 6, none⟩ = some (.bool q3) := (by rw [b7.cell (by first | omega | (simp; done) | (simp; omega))]; go_cell)
    have a7_7 : w7.cell? ⟨w.heap.size, 7, none⟩ = some (.int .i64 i3) := (by rw [b7.cell (by first | omega | (simp; done) | (simp; omega))]; go_cell)
    have a8_7 : w7.cell? ⟨w.heap.size, 8, none⟩ = some (.int .i64 i4) := (by rw [b7.cell (by first | omega | (simp; done) | (simp; omega))]; go_cell)
    have a9_7 : w7.cell? ⟨w.heap.size, 9, none⟩ = some (.int .i64 i5) := (by rw [b7.cell (by first | omega | (simp; done) | (simp; omega))]; go_cell)
    have a10_7 : w7.cell? ⟨w.heap.size, 10, none⟩ = some (.int .i64 i6) := (by rw [b7.cell (by first | omega | (simp; done) | (simp; omega))]; go_cell)
    have a11_7 : w7.cell? ⟨w.heap.size, 11, none⟩ = some (.int .i64 i7) := (by rw [b7.cell (by first | omega | (simp; done) | (simp; omega))]; go_cell)
    have a12_7 : w7.cell? ⟨w.heap.size, 12, none⟩ = some (.slice ao0 A0.length ac0) := (by rw [b7.cell (by first | omega | (simp; done) | (simp; omega))]; go_cell)
    have a13_7 : w7.cell? ⟨w.heap.size, 13, none⟩ = some (.slice ao1 A1.length ac1) := (by rw [b7.cell (by first | omega | (simp; done) | (simp; omega))]; go_cell)
    have al_7 : w.heap.size < w7.heap.size := (by have := b7.size; first | omega | (revert this; simp; done) | (revert this; simp; omega))
    have x0_7 : w7.cell? ⟨w5.heap.size, 0, none⟩ = some (.int .i64 i0) := (by rw [b7.cell (by first | omega | (simp; done) | (simp; omega))]; go_cell)
    have x1_7 : w7.cell? ⟨w5.heap.size, 1, none⟩ = some (.int .i64 i1) := (by rw [b7.cell (by first | omega | (simp; done) | (simp; omega))]; go_cell)
    have x2_7 : w7.cell? ⟨w5.heap.size, 2, none⟩ = some (.int .i64 i2) := (by rw [b7.cell (by first | omega | (simp; done) | (simp; omega))]; go_cell)
    have x3_7 : w7.cell? ⟨w5.heap.size, 3, none⟩ = some (.bool q0) := (by rw [b7.cell (by first | omega | (simp; done) | (simp; omega))]; go_cell)
    have x4_7 : w7.cell? ⟨w5.heap.size, 4, none⟩ = some (.bool q1) := (by rw [b7.cell (by first | omega | (simp; done) | (simp; omega))]; go_cell)
    have x5_7 : w7.cell? ⟨w5.heap.size, 5, none⟩ = some (.bool q2) := (by rw [b7.cell (by first | omega | (simp; done) | (simp; omega))]; go_cell)
    have x6_7 : w7.cell? ⟨w5.heap.size, 6, none⟩ = some (.bool q3) := (by rw [b7.cell (by first | omega | (simp; done) | (simp; omega))]; go_cell)
    have x7_7 : w7.cell? ⟨w5.heap.size, 7, none⟩ = some (.int .i64 i3) := (by rw [b7.cell (by first | omega | (simp; done) | (simp; omega))]; go_cell)
    have x8_7 : w7.cell? ⟨w5.heap.size, 8, none⟩ = some (.int .i64 i4) := (by rw [b7.cell (by first | omega | (simp; done) | (simp; omega))]; go_cell)
    have x9_7 : w7.cell? ⟨w5.heap.size, 9, none⟩ = some (.int .i64 i5) := (by rw [b7.cell (by first | omega | (simp; done) | (simp; omega))]; go_cell)
    have x10_7 : w7.cell? ⟨w5.heap.size, 10, none⟩ = some (.int .i64 i6) := (by rw [b7.cell (by first | omega | (simp; done) | (simp; omega))]; go_cell)
    have x11_7 : w7.cell? ⟨w5.heap.size, 11, none⟩ = some (.int .i64 i7) := (by rw [b7.cell (by first | omega | (simp; done) | (simp; omega))]; go_cell)
    have x12_7 : w7.cell? ⟨w5.heap.size, 12, none⟩ = some (.slice po0 A0.length pc0) := (by rw [b7.cell (by first | omega | (simp; done) | (simp; omega))]; go_cell)
    have x13_7 : w7.cell? ⟨w5.heap.size, 13, none⟩ = some (.slice po1 A1.length pc1) := (by rw [b7.cell (by first | omega | (simp; done) | (simp; omega))]; go_cell)
    have xl_7 : w5.heap.size < w7.heap.size := (by have := b7.size; first | omega | (revert this; simp; done) | (revert this; simp; omega))
    clear a0_6 a1_6 a2_6 a3_6 a4_6 a5_6 a6_6 a7_6 a8_6 a9_6 a10_6 a11_6 a12_6 a13_6 al_6 x0_6 x1_6 x2_6 x3_6 x4_6 x5_6 x6_6 x7_6 x8_6 x9_6 x10_6 x11_6 x12_6 x13_6 xl_6
    have OC7 := hid (OC6.out.later d7)
    clear b7 d7
    go_upto_region 10 with fail
    go_cut [26] from 10 (fun s wx => s = .bool false ∧ Below w7.heap.size w7 wx)
    case first =>
      go_region_with (first
        | (go_at_call 10; refine (toTier_rd i0 i1 i2 q0 q1 q2 q3 i3 i4 i5 i6 i7 (.slice ao0 A0.length ac0) (.slice ao1 A1.length ac1) A0 A1 _ (HA.out.later (c7.drew)) HLA.out).mono ?_; rintro e w10 ⟨⟨zo0, zo1, zc0, zc1, rfl, oa, _⟩, b10⟩; have OE10 := hid oa; clear oa; have d10 : Below w7.heap.size w7 w10 := (Below.trans (by go_grown) (b10.mono (by first | omega | (simp; done) | (simp; omega)))); have c10 : Below w.heap.size w w10 := c7.trans (d10.mono c7.size); have x0_10 : w10.cell? ⟨w5.heap.size, 0, none⟩ = some (.int .i64 i0) := (by rw [b10.cell (by first | omega | (simp; done) | (simp; omega))]; go_cell); have x1_10 : w10.cell? ⟨w5.heap.size, 1, none⟩ = some (.int .i64 i1) := (by rw [b10.cell (by first | omega | (simp; done) | (simp; omega))]; go_cell); have x2_10 : w10.cell? ⟨w5.heap.size, 2, none⟩ = some (.int .i64 i2) := (by rw [b10.cell (by first | omega | (simp; done) | (simp; omega))]; go_cell); have x3_10 : w10.cell? ⟨w5.heap.size, 3, none⟩ = some (.bool q0) := (by rw [b10.cell (by first | omega | (simp; done) | (simp; omega))]; go_cell); have x4_10 : w10.cell? ⟨w5.heap.size, 4, none⟩ = some (.bool q1) := (by rw [b10.cell (by first | omega | (simp; done) | (simp; omega))]; go_cell); have x5_10 : w10.cell? ⟨w5.heap.size, 5, none⟩ = some (.bool q2) := (by rw [b10.cell (by first | omega | (simp; done) | (simp; omega))]; go_cell); have x6_10 : w10.cell? ⟨w5.heap.size, 6, none⟩ = some (.bool q3) := (by rw [b10.cell (by first | omega | (simp; done) | (simp; omega))]; go_cell); have x7_10 : w10.cell? ⟨w5.heap.size, 7, none⟩ = some (.int .i64 i3) := (by rw [b10.cell (by first | omega | (simp; done) | (simp; omega))]; go_cell); have x8_10 : w10.cell? ⟨w5.heap.size, 8, none⟩ = some (.int .i64 i4) := (by rw [b10.cell (by first | omega | (simp; done) | (simp; omega))]; go_cell); have x9_10 : w10.cell? ⟨w5.heap.size, 9, none⟩ = some (.int .i64 i5) := (by rw [b10.cell (by first | omega | (simp; done) | (simp; omega))]; go_cell); have x10_10 : w10.cell? ⟨w5.heap.size, 10, none⟩ = some (.int .i64 i6) := (by rw [b10.cell (by first | omega | (simp; done) | (simp; omega))]; go_cell); have x11_10 : w10.cell? ⟨w5.heap.size, 11, none⟩ = some (.int .i64 i7) := (by rw [b10.cell (by first | omega | (simp; done) | (simp; omega))]; go_cell); have x12_10 : w10.cell? ⟨w5.heap.size, 12, none⟩ = some (.slice po0 A0.length pc0) := (by rw [b10.cell (by first | omega | (simp; done) | (simp; omega))]; go_cell); have x13_10 : w10.cell? ⟨w5.heap.size, 13, none⟩ = some (.slice po1 A1.length pc1) := (by rw [b10.cell (by first | omega | (simp; done) | (simp; omega))]; go_cell); have xl_10 : w5.heap.size < w10.heap.size := (by have := b10.size; first | omega | (revert this; simp; done) | (revert this; simp; omega)); clear x0_7 x1_7 x2_7 x3_7 x4_7 x5_7 x6_7 x7_7 x8_7 x9_7 x10_7 x11_7 x12_7 x13_7 xl_7)
        | (go_at_call 12; refine (eqTier_rd i0 i1 i2 q0 q1 q2 q3 i3 i4 i5 i6 i7 _ _ _ _ A0 A1 _ (OC7.out.later d10) OE10.out).mono ?_; rintro e w11 ⟨rfl, b11⟩; have d11 : Below w10.heap.size w10 w11 := (Below.trans (by go_grown) (b11.mono (by first | omega | (simp; done) | (simp; omega)))); have c11 : Below w.heap.size w w11 := c10.trans (d11.mono c10.size)))
      all_goals
        go_wp2_with fail
        go_meet
        exact ⟨rfl, d10.trans (d11.mono d10.size)⟩
    case rest =>
      obtain ⟨rfl, b10⟩ := hcut
      have c8 := c7.trans (b10.mono c7.size)
      clear b10
      go_wp2
      go_ret
      exact ⟨by simp, c8⟩
  · go_wp2
    go_ret
    exact ⟨by simp, c2⟩
end Go.Proofs.YtddpoheoecafjaaGreat
