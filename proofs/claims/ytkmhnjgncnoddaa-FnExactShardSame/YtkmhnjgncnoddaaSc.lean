/- Both ShardSame: contracts. Written by a program (gsb.py). -/
import Derived.Test.YtkmhnjgncnoddaaSb
namespace Go.Proofs.Ytkmhnjgncnoddaa
open Go.RowKit
attribute [local go_sem ↓] Go.wp_at_zero Go.wp_at_succ

set_option maxRecDepth 100000 in
set_option maxHeartbeats 8000000 in
theorem implSSame_any (i0 i1 i2 j0 j1 j2 : Int) (a0 a1 a2 a3 a4 b0 b1 b2 b3 b4 : Value) (A0 A1 A2 A3 A4 B0 B1 B2 B3 B4 : List KD) (w : World) (ha : RSShard w a0 a1 a2 a3 a4 A0 A1 A2 A3 A4) (hb : RSShard w b0 b1 b2 b3 b4 B0 B1 B2 B3 B4) :
    Calls Try.prog 12 #[.agg #[.int .i64 i0, .int .i64 i1, .int .i64 i2, a0, a1, a2, a3, a4], .agg #[.int .i64 j0, .int .i64 j1, .int .i64 j2, b0, b1, b2, b3, b4]] w fun e w' => e = .returned (.bool (decide (i0 = j0) && (decide (i1 = j1) && (decide (i2 = j2) && (eqM A0 B0 && (eqM A1 B1 && (eqM A2 B2 && (eqM A3 B3 && (eqM A4 B4))))))))) ∧ Below w.heap.size w w' := by
  have HA := hid ha
  have HB := hid hb
  obtain ⟨ao0, ao1, ao2, ao3, ao4, ac0, ac1, ac2, ac3, ac4, rfl, rfl, rfl, rfl, rfl⟩ := ha.open
  obtain ⟨bo0, bo1, bo2, bo3, bo4, bc0, bc1, bc2, bc3, bc4, rfl, rfl, rfl, rfl, rfl⟩ := hb.open
  clear ha hb
  by_cases h0 : i0 = j0
  · subst h0
    by_cases h1 : i1 = j1
    · subst h1
      by_cases h2 : i2 = j2
      · subst h2
        simp only [decide_true, Bool.true_and]
        go_enter Try.func12, Try.ntmps12
        go_wp2_with fail
        have a0_1 : ((w.alloc (.cells #[.int .i64 i0, .int .i64 i1, .int .i64 i2, .slice ao0 A0.length ac0, .slice ao1 A1.length ac1, .slice ao2 A2.length ac2, .slice ao3 A3.length ac3, .slice ao4 A4.length ac4] 49)).alloc (.cells #[.int .i64 i0, .int .i64 i1, .int .i64 i2, .slice bo0 B0.length bc0, .slice bo1 B1.length bc1, .slice bo2 B2.length bc2, .slice bo3 B3.length bc3, .slice bo4 B4.length bc4] 49)).cell? ⟨w.heap.size, 0, none⟩ = some (.int .i64 i0) := by go_cell
        have a1_1 : ((w.alloc (.cells #[.int .i64 i0, .int .i64 i1, .int .i64 i2, .slice ao0 A0.length ac0, .slice ao1 A1.length ac1, .slice ao2 A2.length ac2, .slice ao3 A3.length ac3, .slice ao4 A4.length ac4] 49)).alloc (.cells #[.int .i64 i0, .int .i64 i1, .int .i64 i2, .slice bo0 B0.length bc0, .slice bo1 B1.length bc1, .slice bo2 B2.length bc2, .slice bo3 B3.length bc3, .slice bo4 B4.length bc4] 49)).cell? ⟨w.heap.size, 1, none⟩ = some (.int .i64 i1) := by go_cell
        have a2_1 : ((w.alloc (.cells #[.int .i64 i0, .int .i64 i1, .int .i64 i2, .slice ao0 A0.length ac0, .slice ao1 A1.length ac1, .slice ao2 A2.length ac2, .slice ao3 A3.length ac3, .slice ao4 A4.length ac4] 49)).alloc (.cells #[.int .i64 i0, .int .i64 i1, .int .i64 i2, .slice bo0 B0.length bc0, .slice bo1 B1.length bc1, .slice bo2 B2.length bc2, .slice bo3 B3.length bc3, .slice bo4 B4.length bc4] 49)).cell? ⟨w.heap.size, 2, none⟩ = some (.int .i64 i2) := by go_cell
        have a3_1 : ((w.alloc (.cells #[.int .i64 i0, .int .i64 i1, .int .i64 i2, .slice ao0 A0.length ac0, .slice ao1 A1.length ac1, .slice ao2 A2.length ac2, .slice ao3 A3.length ac3, .slice ao4 A4.length ac4] 49)).alloc (.cells #[.int .i64 i0, .int .i64 i1, .int .i64 i2, .slice bo0 B0.length bc0, .slice bo1 B1.length bc1, .slice bo2 B2.length bc2, .slice bo3 B3.length bc3, .slice bo4 B4.length bc4] 49)).cell? ⟨w.heap.size, 3, none⟩ = some (.slice ao0 A0.length ac0) := by go_cell
        have a4_1 : ((w.alloc (.cells #[.int .i64 i0, .int .i64 i1, .int .i64 i2, .slice ao0 A0.length ac0, .slice ao1 A1.length ac1, .slice ao2 A2.length ac2, .slice ao3 A3.length ac3, .slice ao4 A4.length ac4] 49)).alloc (.cells #[.int .i64 i0, .int .i64 i1, .int .i64 i2, .slice bo0 B0.length bc0, .slice bo1 B1.length bc1, .slice bo2 B2.length bc2, .slice bo3 B3.length bc3, .slice bo4 B4.length bc4] 49)).cell? ⟨w.heap.size, 4, none⟩ = some (.slice ao1 A1.length ac1) := by go_cell
        have a5_1 : ((w.alloc (.cells #[.int .i64 i0, .int .i64 i1, .int .i64 i2, .slice ao0 A0.length ac0, .slice ao1 A1.length ac1, .slice ao2 A2.length ac2, .slice ao3 A3.length ac3, .slice ao4 A4.length ac4] 49)).alloc (.cells #[.int .i64 i0, .int .i64 i1, .int .i64 i2, .slice bo0 B0.length bc0, .slice bo1 B1.length bc1, .slice bo2 B2.length bc2, .slice bo3 B3.length bc3, .slice bo4 B4.length bc4] 49)).cell? ⟨w.heap.size, 5, none⟩ = some (.slice ao2 A2.length ac2) := by go_cell
        have a6_1 : ((w.alloc (.cells #[.int .i64 i0, .int .i64 i1, .int .i64 i2, .slice ao0 A0.length ac0, .slice ao1 A1.length ac1, .slice ao2 A2.length ac2, .slice ao3 A3.length ac3, .slice ao4 A4.length ac4] 49)).alloc (.cells #[.int .i64 i0, .int .i64 i1, .int .i64 i2, .slice bo0 B0.length bc0, .slice bo1 B1.length bc1, .slice bo2 B2.length bc2, .slice bo3 B3.length bc3, .slice bo4 B4.length bc4] 49)).cell? ⟨w.heap.size, 6, none⟩ = some (.slice ao3 A3.length ac3) := by go_cell
        have a7_1 : ((w.alloc (.cells #[.int .i64 i0, .int .i64 i1, .int .i64 i2, .slice ao0 A0.length ac0, .slice ao1 A1.length ac1, .slice ao2 A2.length ac2, .slice ao3 A3.length ac3, .slice ao4 A4.length ac4] 49)).alloc (.cells #[.int .i64 i0, .int .i64 i1, .int .i64 i2, .slice bo0 B0.length bc0, .slice bo1 B1.length bc1, .slice bo2 B2.length bc2, .slice bo3 B3.length bc3, .slice bo4 B4.length bc4] 49)).cell? ⟨w.heap.size, 7, none⟩ = some (.slice ao4 A4.length ac4) := by go_cell
        have al_1 : w.heap.size < ((w.alloc (.cells #[.int .i64 i0, .int .i64 i1, .int .i64 i2, .slice ao0 A0.length ac0, .slice ao1 A1.length ac1, .slice ao2 A2.length ac2, .slice ao3 A3.length ac3, .slice ao4 A4.length ac4] 49)).alloc (.cells #[.int .i64 i0, .int .i64 i1, .int .i64 i2, .slice bo0 B0.length bc0, .slice bo1 B1.length bc1, .slice bo2 B2.length bc2, .slice bo3 B3.length bc3, .slice bo4 B4.length bc4] 49)).heap.size := by first | (simp; done) | (simp; omega)
        have b0_1 : ((w.alloc (.cells #[.int .i64 i0, .int .i64 i1, .int .i64 i2, .slice ao0 A0.length ac0, .slice ao1 A1.length ac1, .slice ao2 A2.length ac2, .slice ao3 A3.length ac3, .slice ao4 A4.length ac4] 49)).alloc (.cells #[.int .i64 i0, .int .i64 i1, .int .i64 i2, .slice bo0 B0.length bc0, .slice bo1 B1.length bc1, .slice bo2 B2.length bc2, .slice bo3 B3.length bc3, .slice bo4 B4.length bc4] 49)).cell? ⟨w.heap.size + 1, 0, none⟩ = some (.int .i64 i0) := by go_cell
        have b1_1 : ((w.alloc (.cells #[.int .i64 i0, .int .i64 i1, .int .i64 i2, .slice ao0 A0.length ac0, .slice ao1 A1.length ac1, .slice ao2 A2.length ac2, .slice ao3 A3.length ac3, .slice ao4 A4.length ac4] 49)).alloc (.cells #[.int .i64 i0, .int .i64 i1, .int .i64 i2, .slice bo0 B0.length bc0, .slice bo1 B1.length bc1, .slice bo2 B2.length bc2, .slice bo3 B3.length bc3, .slice bo4 B4.length bc4] 49)).cell? ⟨w.heap.size + 1, 1, none⟩ = some (.int .i64 i1) := by go_cell
        have b2_1 : ((w.alloc (.cells #[.int .i64 i0, .int .i64 i1, .int .i64 i2, .slice ao0 A0.length ac0, .slice ao1 A1.length ac1, .slice ao2 A2.length ac2, .slice ao3 A3.length ac3, .slice ao4 A4.length ac4] 49)).alloc (.cells #[.int .i64 i0, .int .i64 i1, .int .i64 i2, .slice bo0 B0.length bc0, .slice bo1 B1.length bc1, .slice bo2 B2.length bc2, .slice bo3 B3.length bc3, .slice bo4 B4.length bc4] 49)).cell? ⟨w.heap.size + 1, 2, none⟩ = some (.int .i64 i2) := by go_cell
        have b3_1 : ((w.alloc (.cells #[.int .i64 i0, .int .i64 i1, .int .i64 i2, .slice ao0 A0.length ac0, .slice ao1 A1.length ac1, .slice ao2 A2.length ac2, .slice ao3 A3.length ac3, .slice ao4 A4.length ac4] 49)).alloc (.cells #[.int .i64 i0, .int .i64 i1, .int .i64 i2, .slice bo0 B0.length bc0, .slice bo1 B1.length bc1, .slice bo2 B2.length bc2, .slice bo3 B3.length bc3, .slice bo4 B4.length bc4] 49)).cell? ⟨w.heap.size + 1, 3, none⟩ = some (.slice bo0 B0.length bc0) := by go_cell
        have b4_1 : ((w.alloc (.cells #[.int .i64 i0, .int .i64 i1, .int .i64 i2, .slice ao0 A0.length ac0, .slice ao1 A1.length ac1, .slice ao2 A2.length ac2, .slice ao3 A3.length ac3, .slice ao4 A4.length ac4] 49)).alloc (.cells #[.int .i64 i0, .int .i64 i1, .int .i64 i2, .slice bo0 B0.length bc0, .slice bo1 B1.length bc1, .slice bo2 B2.length bc2, .slice bo3 B3.length bc3, .slice bo4 B4.length bc4] 49)).cell? ⟨w.heap.size + 1, 4, none⟩ = some (.slice bo1 B1.length bc1) := by go_cell
        have b5_1 : ((w.alloc (.cells #[.int .i64 i0, .int .i64 i1, .int .i64 i2, .slice ao0 A0.length ac0, .slice ao1 A1.length ac1, .slice ao2 A2.length ac2, .slice ao3 A3.length ac3, .slice ao4 A4.length ac4] 49)).alloc (.cells #[.int .i64 i0, .int .i64 i1, .int .i64 i2, .slice bo0 B0.length bc0, .slice bo1 B1.length bc1, .slice bo2 B2.length bc2, .slice bo3 B3.length bc3, .slice bo4 B4.length bc4] 49)).cell? ⟨w.heap.size + 1, 5, none⟩ = some (.slice bo2 B2.length bc2) := by go_cell
        have b6_1 : ((w.alloc (.cells #[.int .i64 i0, .int .i64 i1, .int .i64 i2, .slice ao0 A0.length ac0, .slice ao1 A1.length ac1, .slice ao2 A2.length ac2, .slice ao3 A3.length ac3, .slice ao4 A4.length ac4] 49)).alloc (.cells #[.int .i64 i0, .int .i64 i1, .int .i64 i2, .slice bo0 B0.length bc0, .slice bo1 B1.length bc1, .slice bo2 B2.length bc2, .slice bo3 B3.length bc3, .slice bo4 B4.length bc4] 49)).cell? ⟨w.heap.size + 1, 6, none⟩ = some (.slice bo3 B3.length bc3) := by go_cell
        have b7_1 : ((w.alloc (.cells #[.int .i64 i0, .int .i64 i1, .int .i64 i2, .slice ao0 A0.length ac0, .slice ao1 A1.length ac1, .slice ao2 A2.length ac2, .slice ao3 A3.length ac3, .slice ao4 A4.length ac4] 49)).alloc (.cells #[.int .i64 i0, .int .i64 i1, .int .i64 i2, .slice bo0 B0.length bc0, .slice bo1 B1.length bc1, .slice bo2 B2.length bc2, .slice bo3 B3.length bc3, .slice bo4 B4.length bc4] 49)).cell? ⟨w.heap.size + 1, 7, none⟩ = some (.slice bo4 B4.length bc4) := by go_cell
        have bl_1 : w.heap.size + 1 < ((w.alloc (.cells #[.int .i64 i0, .int .i64 i1, .int .i64 i2, .slice ao0 A0.length ac0, .slice ao1 A1.length ac1, .slice ao2 A2.length ac2, .slice ao3 A3.length ac3, .slice ao4 A4.length ac4] 49)).alloc (.cells #[.int .i64 i0, .int .i64 i1, .int .i64 i2, .slice bo0 B0.length bc0, .slice bo1 B1.length bc1, .slice bo2 B2.length bc2, .slice bo3 B3.length bc3, .slice bo4 B4.length bc4] 49)).heap.size := by first | (simp; done) | (simp; omega)
        have c1 : Below w.heap.size w ((w.alloc (.cells #[.int .i64 i0, .int .i64 i1, .int .i64 i2, .slice ao0 A0.length ac0, .slice ao1 A1.length ac1, .slice ao2 A2.length ac2, .slice ao3 A3.length ac3, .slice ao4 A4.length ac4] 49)).alloc (.cells #[.int .i64 i0, .int .i64 i1, .int .i64 i2, .slice bo0 B0.length bc0, .slice bo1 B1.length bc1, .slice bo2 B2.length bc2, .slice bo3 B3.length bc3, .slice bo4 B4.length bc4] 49)) := by go_grown
        have s1 : ((w.alloc (.cells #[.int .i64 i0, .int .i64 i1, .int .i64 i2, .slice ao0 A0.length ac0, .slice ao1 A1.length ac1, .slice ao2 A2.length ac2, .slice ao3 A3.length ac3, .slice ao4 A4.length ac4] 49)).alloc (.cells #[.int .i64 i0, .int .i64 i1, .int .i64 i2, .slice bo0 B0.length bc0, .slice bo1 B1.length bc1, .slice bo2 B2.length bc2, .slice bo3 B3.length bc3, .slice bo4 B4.length bc4] 49)).heap.size = w.heap.size + 2 := by simp
        generalize ((w.alloc (.cells #[.int .i64 i0, .int .i64 i1, .int .i64 i2, .slice ao0 A0.length ac0, .slice ao1 A1.length ac1, .slice ao2 A2.length ac2, .slice ao3 A3.length ac3, .slice ao4 A4.length ac4] 49)).alloc (.cells #[.int .i64 i0, .int .i64 i1, .int .i64 i2, .slice bo0 B0.length bc0, .slice bo1 B1.length bc1, .slice bo2 B2.length bc2, .slice bo3 B3.length bc3, .slice bo4 B4.length bc4] 49)) = w1 at a0_1 a1_1 a2_1 a3_1 a4_1 a5_1 a6_1 a7_1 al_1 b0_1 b1_1 b2_1 b3_1 b4_1 b5_1 b6_1 b7_1 bl_1 c1 s1 ⊢
        have qa0_1 := cell_regrown a0_1
        have qa1_1 := cell_regrown a1_1
        have qa2_1 := cell_regrown a2_1
        have qa3_1 := cell_regrown a3_1
        have qa4_1 := cell_regrown a4_1
        have qa5_1 := cell_regrown a5_1
        have qa6_1 := cell_regrown a6_1
        have qa7_1 := cell_regrown a7_1
        have qb0_1 := cell_regrown b0_1
        have qb1_1 := cell_regrown b1_1
        have qb2_1 := cell_regrown b2_1
        have qb3_1 := cell_regrown b3_1
        have qb4_1 := cell_regrown b4_1
        have qb5_1 := cell_regrown b5_1
        have qb6_1 := cell_regrown b6_1
        have qb7_1 := cell_regrown b7_1
        refine (equalRows_any _ _ A0 B0 _ (HA.out.h0.later c1) (HB.out.h0.later c1)).mono ?_
        rintro e w2 ⟨rfl, b2⟩
        have d2 : Below w1.heap.size w1 w2 := (Below.trans (by go_grown) (b2.mono (by first | omega | (simp; done) | (simp; omega))))
        have c2 : Below w.heap.size w w2 := c1.trans (d2.mono c1.size)
        have a0_2 : w2.cell? ⟨w.heap.size, 0, none⟩ = some (.int .i64 i0) := (by rw [b2.cell (by first | omega | (simp; done) | (simp; omega))]; go_cell)
        have a1_2 : w2.cell? ⟨w.heap.size, 1, none⟩ = some (.int .i64 i1) := (by rw [b2.cell (by first | omega | (simp; done) | (simp; omega))]; go_cell)
        have a2_2 : w2.cell? ⟨w.heap.size, 2, none⟩ = some (.int .i64 i2) := (by rw [b2.cell (by first | omega | (simp; done) | (simp; omega))]; go_cell)
        have a3_2 : w2.cell? ⟨w.heap.size, 3, none⟩ = some (.slice ao0 A0.length ac0) := (by rw [b2.cell (by first | omega | (simp; done) | (simp; omega))]; go_cell)
        have a4_2 : w2.cell? ⟨w.heap.size, 4, none⟩ = some (.slice ao1 A1.length ac1) := (by rw [b2.cell (by first | omega | (simp; done) | (simp; omega))]; go_cell)
        have a5_2 : w2.cell? ⟨w.heap.size, 5, none⟩ = some (.slice ao2 A2.length ac2) := (by rw [b2.cell (by first | omega | (simp; done) | (simp; omega))]; go_cell)
        have a6_2 : w2.cell? ⟨w.heap.size, 6, none⟩ = some (.slice ao3 A3.length ac3) := (by rw [b2.cell (by first | omega | (simp; done) | (simp; omega))]; go_cell)
        have a7_2 : w2.cell? ⟨w.heap.size, 7, none⟩ = some (.slice ao4 A4.length ac4) := (by rw [b2.cell (by first | omega | (simp; done) | (simp; omega))]; go_cell)
        have al_2 : w.heap.size < w2.heap.size := (by have := b2.size; first | omega | (revert this; simp; done) | (revert this; simp; omega))
        have b0_2 : w2.cell? ⟨w.heap.size + 1, 0, none⟩ = some (.int .i64 i0) := (by rw [b2.cell (by first | omega | (simp; done) | (simp; omega))]; go_cell)
        have b1_2 : w2.cell? ⟨w.heap.size + 1, 1, none⟩ = some (.int .i64 i1) := (by rw [b2.cell (by first | omega | (simp; done) | (simp; omega))]; go_cell)
        have b2_2 : w2.cell? ⟨w.heap.size + 1, 2, none⟩ = some (.int .i64 i2) := (by rw [b2.cell (by first | omega | (simp; done) | (simp; omega))]; go_cell)
        have b3_2 : w2.cell? ⟨w.heap.size + 1, 3, none⟩ = some (.slice bo0 B0.length bc0) := (by rw [b2.cell (by first | omega | (simp; done) | (simp; omega))]; go_cell)
        have b4_2 : w2.cell? ⟨w.heap.size + 1, 4, none⟩ = some (.slice bo1 B1.length bc1) := (by rw [b2.cell (by first | omega | (simp; done) | (simp; omega))]; go_cell)
        have b5_2 : w2.cell? ⟨w.heap.size + 1, 5, none⟩ = some (.slice bo2 B2.length bc2) := (by rw [b2.cell (by first | omega | (simp; done) | (simp; omega))]; go_cell)
        have b6_2 : w2.cell? ⟨w.heap.size + 1, 6, none⟩ = some (.slice bo3 B3.length bc3) := (by rw [b2.cell (by first | omega | (simp; done) | (simp; omega))]; go_cell)
        have b7_2 : w2.cell? ⟨w.heap.size + 1, 7, none⟩ = some (.slice bo4 B4.length bc4) := (by rw [b2.cell (by first | omega | (simp; done) | (simp; omega))]; go_cell)
        have bl_2 : w.heap.size + 1 < w2.heap.size := (by have := b2.size; first | omega | (revert this; simp; done) | (revert this; simp; omega))
        clear a0_1 a1_1 a2_1 a3_1 a4_1 a5_1 a6_1 a7_1 al_1 b0_1 b1_1 b2_1 b3_1 b4_1 b5_1 b6_1 b7_1 bl_1
        clear b2 d2
        cases e0 : eqM A0 B0 with
        | false =>
          go_wp2
          go_ret
          exact ⟨by simp [e0], c2⟩
        | true =>
          go_wp2_with fail
          refine (equalDones_any _ _ A1 B1 _ (HA.out.h1.later c2) (HB.out.h1.later c2)).mono ?_
          rintro e w3 ⟨rfl, b3⟩
          have d3 : Below w2.heap.size w2 w3 := (Below.trans (by go_grown) (b3.mono (by first | omega | (simp; done) | (simp; omega))))
          have c3 : Below w.heap.size w w3 := c2.trans (d3.mono c2.size)
          have a0_3 : w3.cell? ⟨w.heap.size, 0, none⟩ = some (.int .i64 i0) := (by rw [b3.cell (by first | omega | (simp; done) | (simp; omega))]; go_cell)
          have a1_3 : w3.cell? ⟨w.heap.size, 1, none⟩ = some (.int .i64 i1) := (by rw [b3.cell (by first | omega | (simp; done) | (simp; omega))]; go_cell)
          have a2_3 : w3.cell? ⟨w.heap.size, 2, none⟩ = some (.int .i64 i2) := (by rw [b3.cell (by first | omega | (simp; done) | (simp; omega))]; go_cell)
          have a3_3 : w3.cell? ⟨w.heap.size, 3, none⟩ = some (.slice ao0 A0.length ac0) := (by rw [b3.cell (by first | omega | (simp; done) | (simp; omega))]; go_cell)
          have a4_3 : w3.cell? ⟨w.heap.size, 4, none⟩ = some (.slice ao1 A1.length ac1) := (by rw [b3.cell (by first | omega | (simp; done) | (simp; omega))]; go_cell)
          have a5_3 : w3.cell? ⟨w.heap.size, 5, none⟩ = some (.slice ao2 A2.length ac2) := (by rw [b3.cell (by first | omega | (simp; done) | (simp; omega))]; go_cell)
          have a6_3 : w3.cell? ⟨w.heap.size, 6, none⟩ = some (.slice ao3 A3.length ac3) := (by rw [b3.cell (by first | omega | (simp; done) | (simp; omega))]; go_cell)
          have a7_3 : w3.cell? ⟨w.heap.size, 7, none⟩ = some (.slice ao4 A4.length ac4) := (by rw [b3.cell (by first | omega | (simp; done) | (simp; omega))]; go_cell)
          have al_3 : w.heap.size < w3.heap.size := (by have := b3.size; first | omega | (revert this; simp; done) | (revert this; simp; omega))
          have b0_3 : w3.cell? ⟨w.heap.size + 1, 0, none⟩ = some (.int .i64 i0) := (by rw [b3.cell (by first | omega | (simp; done) | (simp; omega))]; go_cell)
          have b1_3 : w3.cell? ⟨w.heap.size + 1, 1, none⟩ = some (.int .i64 i1) := (by rw [b3.cell (by first | omega | (simp; done) | (simp; omega))]; go_cell)
          have b2_3 : w3.cell? ⟨w.heap.size + 1, 2, none⟩ = some (.int .i64 i2) := (by rw [b3.cell (by first | omega | (simp; done) | (simp; omega))]; go_cell)
          have b3_3 : w3.cell? ⟨w.heap.size + 1, 3, none⟩ = some (.slice bo0 B0.length bc0) := (by rw [b3.cell (by first | omega | (simp; done) | (simp; omega))]; go_cell)
          have b4_3 : w3.cell? ⟨w.heap.size + 1, 4, none⟩ = some (.slice bo1 B1.length bc1) := (by rw [b3.cell (by first | omega | (simp; done) | (simp; omega))]; go_cell)
          have b5_3 : w3.cell? ⟨w.heap.size + 1, 5, none⟩ = some (.slice bo2 B2.length bc2) := (by rw [b3.cell (by first | omega | (simp; done) | (simp; omega))]; go_cell)
          have b6_3 : w3.cell? ⟨w.heap.size + 1, 6, none⟩ = some (.slice bo3 B3.length bc3) := (by rw [b3.cell (by first | omega | (simp; done) | (simp; omega))]; go_cell)
          have b7_3 : w3.cell? ⟨w.heap.size + 1, 7, none⟩ = some (.slice bo4 B4.length bc4) := (by rw [b3.cell (by first | omega | (simp; done) | (simp; omega))]; go_cell)
          have bl_3 : w.heap.size + 1 < w3.heap.size := (by have := b3.size; first | omega | (revert this; simp; done) | (revert this; simp; omega))
          clear a0_2 a1_2 a2_2 a3_2 a4_2 a5_2 a6_2 a7_2 al_2 b0_2 b1_2 b2_2 b3_2 b4_2 b5_2 b6_2 b7_2 bl_2
          clear b3 d3
          cases e1 : eqM A1 B1 with
          | false =>
            go_wp2
            go_ret
            exact ⟨by simp [e0, e1], c3⟩
          | true =>
            go_wp2_with fail
            refine (equalIntents_any _ _ A2 B2 _ (HA.out.h2.later c3) (HB.out.h2.later c3)).mono ?_
            rintro e w4 ⟨rfl, b4⟩
            have d4 : Below w3.heap.size w3 w4 := (Below.trans (by go_grown) (b4.mono (by first | omega | (simp; done) | (simp; omega))))
            have c4 : Below w.heap.size w w4 := c3.trans (d4.mono c3.size)
            have a0_4 : w4.cell? ⟨w.heap.size, 0, none⟩ = some (.int .i64 i0) := (by rw [b4.cell (by first | omega | (simp; done) | (simp; omega))]; go_cell)
            have a1_4 : w4.cell? ⟨w.heap.size, 1, none⟩ = some (.int .i64 i1) := (by rw [b4.cell (by first | omega | (simp; done) | (simp; omega))]; go_cell)
            have a2_4 : w4.cell? ⟨w.heap.size, 2, none⟩ = some (.int .i64 i2) := (by rw [b4.cell (by first | omega | (simp; done) | (simp; omega))]; go_cell)
            have a3_4 : w4.cell? ⟨w.heap.size, 3, none⟩ = some (.slice ao0 A0.length ac0) := (by rw [b4.cell (by first | omega | (simp; done) | (simp; omega))]; go_cell)
            have a4_4 : w4.cell? ⟨w.heap.size, 4, none⟩ = some (.slice ao1 A1.length ac1) := (by rw [b4.cell (by first | omega | (simp; done) | (simp; omega))]; go_cell)
            have a5_4 : w4.cell? ⟨w.heap.size, 5, none⟩ = some (.slice ao2 A2.length ac2) := (by rw [b4.cell (by first | omega | (simp; done) | (simp; omega))]; go_cell)
            have a6_4 : w4.cell? ⟨w.heap.size, 6, none⟩ = some (.slice ao3 A3.length ac3) := (by rw [b4.cell (by first | omega | (simp; done) | (simp; omega))]; go_cell)
            have a7_4 : w4.cell? ⟨w.heap.size, 7, none⟩ = some (.slice ao4 A4.length ac4) := (by rw [b4.cell (by first | omega | (simp; done) | (simp; omega))]; go_cell)
            have al_4 : w.heap.size < w4.heap.size := (by have := b4.size; first | omega | (revert this; simp; done) | (revert this; simp; omega))
            have b0_4 : w4.cell? ⟨w.heap.size + 1, 0, none⟩ = some (.int .i64 i0) := (by rw [b4.cell (by first | omega | (simp; done) | (simp; omega))]; go_cell)
            have b1_4 : w4.cell? ⟨w.heap.size + 1, 1, none⟩ = some (.int .i64 i1) := (by rw [b4.cell (by first | omega | (simp; done) | (simp; omega))]; go_cell)
            have b2_4 : w4.cell? ⟨w.heap.size + 1, 2, none⟩ = some (.int .i64 i2) := (by rw [b4.cell (by first | omega | (simp; done) | (simp; omega))]; go_cell)
            have b3_4 : w4.cell? ⟨w.heap.size + 1, 3, none⟩ = some (.slice bo0 B0.length bc0) := (by rw [b4.cell (by first | omega | (simp; done) | (simp; omega))]; go_cell)
            have b4_4 : w4.cell? ⟨w.heap.size + 1, 4, none⟩ = some (.slice bo1 B1.length bc1) := (by rw [b4.cell (by first | omega | (simp; done) | (simp; omega))]; go_cell)
            have b5_4 : w4.cell? ⟨w.heap.size + 1, 5, none⟩ = some (.slice bo2 B2.length bc2) := (by rw [b4.cell (by first | omega | (simp; done) | (simp; omega))]; go_cell)
            have b6_4 : w4.cell? ⟨w.heap.size + 1, 6, none⟩ = some (.slice bo3 B3.length bc3) := (by rw [b4.cell (by first | omega | (simp; done) | (simp; omega))]; go_cell)
            have b7_4 : w4.cell? ⟨w.heap.size + 1, 7, none⟩ = some (.slice bo4 B4.length bc4) := (by rw [b4.cell (by first | omega | (simp; done) | (simp; omega))]; go_cell)
            have bl_4 : w.heap.size + 1 < w4.heap.size := (by have := b4.size; first | omega | (revert this; simp; done) | (revert this; simp; omega))
            clear a0_3 a1_3 a2_3 a3_3 a4_3 a5_3 a6_3 a7_3 al_3 b0_3 b1_3 b2_3 b3_3 b4_3 b5_3 b6_3 b7_3 bl_3
            clear b4 d4
            cases e2 : eqM A2 B2 with
            | false =>
              go_wp2
              go_ret
              exact ⟨by simp [e0, e1, e2], c4⟩
            | true =>
              go_wp2_with fail
              refine (equalSeens_any _ _ A3 B3 _ (HA.out.h3.later c4) (HB.out.h3.later c4)).mono ?_
              rintro e w5 ⟨rfl, b5⟩
              have d5 : Below w4.heap.size w4 w5 := (Below.trans (by go_grown) (b5.mono (by first | omega | (simp; done) | (simp; omega))))
              have c5 : Below w.heap.size w w5 := c4.trans (d5.mono c4.size)
              have a0_5 : w5.cell? ⟨w.heap.size, 0, none⟩ = some (.int .i64 i0) := (by rw [b5.cell (by first | omega | (simp; done) | (simp; omega))]; go_cell)
              have a1_5 : w5.cell? ⟨w.heap.size, 1, none⟩ = some (.int .i64 i1) := (by rw [b5.cell (by first | omega | (simp; done) | (simp; omega))]; go_cell)
              have a2_5 : w5.cell? ⟨w.heap.size, 2, none⟩ = some (.int .i64 i2) := (by rw [b5.cell (by first | omega | (simp; done) | (simp; omega))]; go_cell)
              have a3_5 : w5.cell? ⟨w.heap.size, 3, none⟩ = some (.slice ao0 A0.length ac0) := (by rw [b5.cell (by first | omega | (simp; done) | (simp; omega))]; go_cell)
              have a4_5 : w5.cell? ⟨w.heap.size, 4, none⟩ = some (.slice ao1 A1.length ac1) := (by rw [b5.cell (by first | omega | (simp; done) | (simp; omega))]; go_cell)
              have a5_5 : w5.cell? ⟨w.heap.size, 5, none⟩ = some (.slice ao2 A2.length ac2) := (by rw [b5.cell (by first | omega | (simp; done) | (simp; omega))]; go_cell)
              have a6_5 : w5.cell? ⟨w.heap.size, 6, none⟩ = some (.slice ao3 A3.length ac3) := (by rw [b5.cell (by first | omega | (simp; done) | (simp; omega))]; go_cell)
              have a7_5 : w5.cell? ⟨w.heap.size, 7, none⟩ = some (.slice ao4 A4.length ac4) := (by rw [b5.cell (by first | omega | (simp; done) | (simp; omega))]; go_cell)
              have al_5 : w.heap.size < w5.heap.size := (by have := b5.size; first | omega | (revert this; simp; done) | (revert this; simp; omega))
              have b0_5 : w5.cell? ⟨w.heap.size + 1, 0, none⟩ = some (.int .i64 i0) := (by rw [b5.cell (by first | omega | (simp; done) | (simp; omega))]; go_cell)
              have b1_5 : w5.cell? ⟨w.heap.size + 1, 1, none⟩ = some (.int .i64 i1) := (by rw [b5.cell (by first | omega | (simp; done) | (simp; omega))]; go_cell)
              have b2_5 : w5.cell? ⟨w.heap.size + 1, 2, none⟩ = some (.int .i64 i2) := (by rw [b5.cell (by first | omega | (simp; done) | (simp; omega))]; go_cell)
              have b3_5 : w5.cell? ⟨w.heap.size + 1, 3, none⟩ = some (.slice bo0 B0.length bc0) := (by rw [b5.cell (by first | omega | (simp; done) | (simp; omega))]; go_cell)
              have b4_5 : w5.cell? ⟨w.heap.size + 1, 4, none⟩ = some (.slice bo1 B1.length bc1) := (by rw [b5.cell (by first | omega | (simp; done) | (simp; omega))]; go_cell)
              have b5_5 : w5.cell? ⟨w.heap.size + 1, 5, none⟩ = some (.slice bo2 B2.length bc2) := (by rw [b5.cell (by first | omega | (simp; done) | (simp; omega))]; go_cell)
              have b6_5 : w5.cell? ⟨w.heap.size + 1, 6, none⟩ = some (.slice bo3 B3.length bc3) := (by rw [b5.cell (by first | omega | (simp; done) | (simp; omega))]; go_cell)
              have b7_5 : w5.cell? ⟨w.heap.size + 1, 7, none⟩ = some (.slice bo4 B4.length bc4) := (by rw [b5.cell (by first | omega | (simp; done) | (simp; omega))]; go_cell)
              have bl_5 : w.heap.size + 1 < w5.heap.size := (by have := b5.size; first | omega | (revert this; simp; done) | (revert this; simp; omega))
              clear a0_4 a1_4 a2_4 a3_4 a4_4 a5_4 a6_4 a7_4 al_4 b0_4 b1_4 b2_4 b3_4 b4_4 b5_4 b6_4 b7_4 bl_4
              clear b5 d5
              cases e3 : eqM A3 B3 with
              | false =>
                go_wp2
                go_ret
                exact ⟨by simp [e0, e1, e2, e3], c5⟩
              | true =>
                go_wp2_with fail
                refine (equalCommits_any _ _ A4 B4 _ (HA.out.h4.later c5) (HB.out.h4.later c5)).mono ?_
                rintro e w6 ⟨rfl, b6⟩
                have d6 : Below w5.heap.size w5 w6 := (Below.trans (by go_grown) (b6.mono (by first | omega | (simp; done) | (simp; omega))))
                have c6 : Below w.heap.size w w6 := c5.trans (d6.mono c5.size)
                have a0_6 : w6.cell? ⟨w.heap.size, 0, none⟩ = some (.int .i64 i0) := (by rw [b6.cell (by first | omega | (simp; done) | (simp; omega))]; go_cell)
                have a1_6 : w6.cell? ⟨w.heap.size, 1, none⟩ = some (.int .i64 i1) := (by rw [b6.cell (by first | omega | (simp; done) | (simp; omega))]; go_cell)
                have a2_6 : w6.cell? ⟨w.heap.size, 2, none⟩ = some (.int .i64 i2) := (by rw [b6.cell (by first | omega | (simp; done) | (simp; omega))]; go_cell)
                have a3_6 : w6.cell? ⟨w.heap.size, 3, none⟩ = some (.slice ao0 A0.length ac0) := (by rw [b6.cell (by first | omega | (simp; done) | (simp; omega))]; go_cell)
                have a4_6 : w6.cell? ⟨w.heap.size, 4, none⟩ = some (.slice ao1 A1.length ac1) := (by rw [b6.cell (by first | omega | (simp; done) | (simp; omega))]; go_cell)
                have a5_6 : w6.cell? ⟨w.heap.size, 5, none⟩ = some (.slice ao2 A2.length ac2) := (by rw [b6.cell (by first | omega | (simp; done) | (simp; omega))]; go_cell)
                have a6_6 : w6.cell? ⟨w.heap.size, 6, none⟩ = some (.slice ao3 A3.length ac3) := (by rw [b6.cell (by first | omega | (simp; done) | (simp; omega))]; go_cell)
                have a7_6 : w6.cell? ⟨w.heap.size, 7, none⟩ = some (.slice ao4 A4.length ac4) := (by rw [b6.cell (by first | omega | (simp; done) | (simp; omega))]; go_cell)
                have al_6 : w.heap.size < w6.heap.size := (by have := b6.size; first | omega | (revert this; simp; done) | (revert this; simp; omega))
                have b0_6 : w6.cell? ⟨w.heap.size + 1, 0, none⟩ = some (.int .i64 i0) := (by rw [b6.cell (by first | omega | (simp; done) | (simp; omega))]; go_cell)
                have b1_6 : w6.cell? ⟨w.heap.size + 1, 1, none⟩ = some (.int .i64 i1) := (by rw [b6.cell (by first | omega | (simp; done) | (simp; omega))]; go_cell)
                have b2_6 : w6.cell? ⟨w.heap.size + 1, 2, none⟩ = some (.int .i64 i2) := (by rw [b6.cell (by first | omega | (simp; done) | (simp; omega))]; go_cell)
                have b3_6 : w6.cell? ⟨w.heap.size + 1, 3, none⟩ = some (.slice bo0 B0.length bc0) := (by rw [b6.cell (by first | omega | (simp; done) | (simp; omega))]; go_cell)
                have b4_6 : w6.cell? ⟨w.heap.size + 1, 4, none⟩ = some (.slice bo1 B1.length bc1) := (by rw [b6.cell (by first | omega | (simp; done) | (simp; omega))]; go_cell)
                have b5_6 : w6.cell? ⟨w.heap.size + 1, 5, none⟩ = some (.slice bo2 B2.length bc2) := (by rw [b6.cell (by first | omega | (simp; done) | (simp; omega))]; go_cell)
                have b6_6 : w6.cell? ⟨w.heap.size + 1, 6, none⟩ = some (.slice bo3 B3.length bc3) := (by rw [b6.cell (by first | omega | (simp; done) | (simp; omega))]; go_cell)
                have b7_6 : w6.cell? ⟨w.heap.size + 1, 7, none⟩ = some (.slice bo4 B4.length bc4) := (by rw [b6.cell (by first | omega | (simp; done) | (simp; omega))]; go_cell)
                have bl_6 : w.heap.size + 1 < w6.heap.size := (by have := b6.size; first | omega | (revert this; simp; done) | (revert this; simp; omega))
                clear a0_5 a1_5 a2_5 a3_5 a4_5 a5_5 a6_5 a7_5 al_5 b0_5 b1_5 b2_5 b3_5 b4_5 b5_5 b6_5 b7_5 bl_5
                clear b6 d6
                cases e4 : eqM A4 B4 with
                | false =>
                  go_wp2
                  go_ret
                  exact ⟨by simp [e0, e1, e2, e3, e4], c6⟩
                | true =>
                  go_wp2
                  go_ret
                  exact ⟨by simp [e0, e1, e2, e3, e4], c6⟩
      · have g2 : (i2 == j2) = false := by simpa using h2
        go_enter Try.func12, Try.ntmps12
        go_wp2_with fail
        go_ret
        exact ⟨by simp [h2], by go_grown⟩
    · have g1 : (i1 == j1) = false := by simpa using h1
      go_enter Try.func12, Try.ntmps12
      go_wp2_with fail
      go_ret
      exact ⟨by simp [h1], by go_grown⟩
  · have g0 : (i0 == j0) = false := by simpa using h0
    go_enter Try.func12, Try.ntmps12
    go_wp2_with fail
    go_ret
    exact ⟨by simp [h0], by go_grown⟩

set_option maxRecDepth 100000 in
set_option maxHeartbeats 8000000 in
theorem specSSame_any (i0 i1 i2 j0 j1 j2 : Int) (a0 a1 a2 a3 a4 b0 b1 b2 b3 b4 : Value) (A0 A1 A2 A3 A4 B0 B1 B2 B3 B4 : List KD) (w : World) (ha : RSShard w a0 a1 a2 a3 a4 A0 A1 A2 A3 A4) (hb : RSShard w b0 b1 b2 b3 b4 B0 B1 B2 B3 B4) :
    Calls Try.prog 10 #[.agg #[.int .i64 i0, .int .i64 i1, .int .i64 i2, a0, a1, a2, a3, a4], .agg #[.int .i64 j0, .int .i64 j1, .int .i64 j2, b0, b1, b2, b3, b4]] w fun e w' => e = .returned (.bool (decide (i0 = j0) && (decide (i1 = j1) && (decide (i2 = j2) && (eqM A0 B0 && (eqM A1 B1 && (eqM A2 B2 && (eqM A3 B3 && (eqM A4 B4))))))))) ∧ Below w.heap.size w w' := by
  obtain ⟨ao0, ac0, hv, hla0, hca0⟩ := ha.h0
  subst hv
  obtain ⟨ao1, ac1, hv, hla1, hca1⟩ := ha.h1
  subst hv
  obtain ⟨ao2, ac2, hv, hla2, hca2⟩ := ha.h2
  subst hv
  obtain ⟨ao3, ac3, hv, hla3, hca3⟩ := ha.h3
  subst hv
  obtain ⟨ao4, ac4, hv, hla4, hca4⟩ := ha.h4
  subst hv
  obtain ⟨bo0, bc0, hv, hlb0, hcb0⟩ := hb.h0
  subst hv
  obtain ⟨bo1, bc1, hv, hlb1, hcb1⟩ := hb.h1
  subst hv
  obtain ⟨bo2, bc2, hv, hlb2, hcb2⟩ := hb.h2
  subst hv
  obtain ⟨bo3, bc3, hv, hlb3, hcb3⟩ := hb.h3
  subst hv
  obtain ⟨bo4, bc4, hv, hlb4, hcb4⟩ := hb.h4
  subst hv
  clear ha hb
  unfold maxLen at hla0 hla1 hla2 hla3 hla4 hlb0 hlb1 hlb2 hlb3 hlb4
  by_cases h0 : i0 = j0
  case' neg =>
    have g0 : (i0 != j0) = true := by simpa using h0
    go_enter Try.func10, Try.ntmps10
    go_wp2
    go_ret
    exact ⟨by simp [h0], by go_grown⟩
  subst h0
  by_cases h1 : i1 = j1
  case' neg =>
    have g1 : (i1 != j1) = true := by simpa using h1
    go_enter Try.func10, Try.ntmps10
    go_wp2
    go_ret
    exact ⟨by simp [h1], by go_grown⟩
  subst h1
  by_cases h2 : i2 = j2
  case' neg =>
    have g2 : (i2 != j2) = true := by simpa using h2
    go_enter Try.func10, Try.ntmps10
    go_wp2
    go_ret
    exact ⟨by simp [h2], by go_grown⟩
  subst h2
  simp only [decide_true, Bool.true_and]
  by_cases hne0 : ((A0.length : Int) != (B0.length : Int)) = true
  · have hx : A0 ≠ B0 := fun h => by simp [h] at hne0
    go_enter Try.func10, Try.ntmps10
    go_wp2
    go_ret
    exact ⟨by simp [eqM_no hx], by go_grown⟩
  by_cases hne1 : ((A1.length : Int) != (B1.length : Int)) = true
  · have hx : A1 ≠ B1 := fun h => by simp [h] at hne1
    go_enter Try.func10, Try.ntmps10
    go_wp2
    go_ret
    exact ⟨by simp [eqM_no hx], by go_grown⟩
  by_cases hne2 : ((A2.length : Int) != (B2.length : Int)) = true
  · have hx : A2 ≠ B2 := fun h => by simp [h] at hne2
    go_enter Try.func10, Try.ntmps10
    go_wp2
    go_ret
    exact ⟨by simp [eqM_no hx], by go_grown⟩
  by_cases hne3 : ((A3.length : Int) != (B3.length : Int)) = true
  · have hx : A3 ≠ B3 := fun h => by simp [h] at hne3
    go_enter Try.func10, Try.ntmps10
    go_wp2
    go_ret
    exact ⟨by simp [eqM_no hx], by go_grown⟩
  by_cases hne4 : ((A4.length : Int) != (B4.length : Int)) = true
  · have hx : A4 ≠ B4 := fun h => by simp [h] at hne4
    go_enter Try.func10, Try.ntmps10
    go_wp2
    go_ret
    exact ⟨by simp [eqM_no hx], by go_grown⟩
  have HL0 := hid (show A0.length = B0.length from by simp at hne0; omega)
  have HL1 := hid (show A1.length = B1.length from by simp at hne1; omega)
  have HL2 := hid (show A2.length = B2.length from by simp at hne2; omega)
  have HL3 := hid (show A3.length = B3.length from by simp at hne3; omega)
  have HL4 := hid (show A4.length = B4.length from by simp at hne4; omega)
  go_enter Try.func10, Try.ntmps10
  go_wp2
  have a0_1 : ((w.alloc (.cells #[.int .i64 i0, .int .i64 i1, .int .i64 i2, .slice ao0 A0.length ac0, .slice ao1 A1.length ac1, .slice ao2 A2.length ac2, .slice ao3 A3.length ac3, .slice ao4 A4.length ac4] 49)).alloc (.cells #[.int .i64 i0, .int .i64 i1, .int .i64 i2, .slice bo0 B0.length bc0, .slice bo1 B1.length bc1, .slice bo2 B2.length bc2, .slice bo3 B3.length bc3, .slice bo4 B4.length bc4] 49)).cell? ⟨w.heap.size, 0, none⟩ = some (.int .i64 i0) := by go_cell
  have a1_1 : ((w.alloc (.cells #[.int .i64 i0, .int .i64 i1, .int .i64 i2, .slice ao0 A0.length ac0, .slice ao1 A1.length ac1, .slice ao2 A2.length ac2, .slice ao3 A3.length ac3, .slice ao4 A4.length ac4] 49)).alloc (.cells #[.int .i64 i0, .int .i64 i1, .int .i64 i2, .slice bo0 B0.length bc0, .slice bo1 B1.length bc1, .slice bo2 B2.length bc2, .slice bo3 B3.length bc3, .slice bo4 B4.length bc4] 49)).cell? ⟨w.heap.size, 1, none⟩ = some (.int .i64 i1) := by go_cell
  have a2_1 : ((w.alloc (.cells #[.int .i64 i0, .int .i64 i1, .int .i64 i2, .slice ao0 A0.length ac0, .slice ao1 A1.length ac1, .slice ao2 A2.length ac2, .slice ao3 A3.length ac3, .slice ao4 A4.length ac4] 49)).alloc (.cells #[.int .i64 i0, .int .i64 i1, .int .i64 i2, .slice bo0 B0.length bc0, .slice bo1 B1.length bc1, .slice bo2 B2.length bc2, .slice bo3 B3.length bc3, .slice bo4 B4.length bc4] 49)).cell? ⟨w.heap.size, 2, none⟩ = some (.int .i64 i2) := by go_cell
  have a3_1 : ((w.alloc (.cells #[.int .i64 i0, .int .i64 i1, .int .i64 i2, .slice ao0 A0.length ac0, .slice ao1 A1.length ac1, .slice ao2 A2.length ac2, .slice ao3 A3.length ac3, .slice ao4 A4.length ac4] 49)).alloc (.cells #[.int .i64 i0, .int .i64 i1, .int .i64 i2, .slice bo0 B0.length bc0, .slice bo1 B1.length bc1, .slice bo2 B2.length bc2, .slice bo3 B3.length bc3, .slice bo4 B4.length bc4] 49)).cell? ⟨w.heap.size, 3, none⟩ = some (.slice ao0 A0.length ac0) := by go_cell
  have a4_1 : ((w.alloc (.cells #[.int .i64 i0, .int .i64 i1, .int .i64 i2, .slice ao0 A0.length ac0, .slice ao1 A1.length ac1, .slice ao2 A2.length ac2, .slice ao3 A3.length ac3, .slice ao4 A4.length ac4] 49)).alloc (.cells #[.int .i64 i0, .int .i64 i1, .int .i64 i2, .slice bo0 B0.length bc0, .slice bo1 B1.length bc1, .slice bo2 B2.length bc2, .slice bo3 B3.length bc3, .slice bo4 B4.length bc4] 49)).cell? ⟨w.heap.size, 4, none⟩ = some (.slice ao1 A1.length ac1) := by go_cell
  have a5_1 : ((w.alloc (.cells #[.int .i64 i0, .int .i64 i1, .int .i64 i2, .slice ao0 A0.length ac0, .slice ao1 A1.length ac1, .slice ao2 A2.length ac2, .slice ao3 A3.length ac3, .slice ao4 A4.length ac4] 49)).alloc (.cells #[.int .i64 i0, .int .i64 i1, .int .i64 i2, .slice bo0 B0.length bc0, .slice bo1 B1.length bc1, .slice bo2 B2.length bc2, .slice bo3 B3.length bc3, .slice bo4 B4.length bc4] 49)).cell? ⟨w.heap.size, 5, none⟩ = some (.slice ao2 A2.length ac2) := by go_cell
  have a6_1 : ((w.alloc (.cells #[.int .i64 i0, .int .i64 i1, .int .i64 i2, .slice ao0 A0.length ac0, .slice ao1 A1.length ac1, .slice ao2 A2.length ac2, .slice ao3 A3.length ac3, .slice ao4 A4.length ac4] 49)).alloc (.cells #[.int .i64 i0, .int .i64 i1, .int .i64 i2, .slice bo0 B0.length bc0, .slice bo1 B1.length bc1, .slice bo2 B2.length bc2, .slice bo3 B3.length bc3, .slice bo4 B4.length bc4] 49)).cell? ⟨w.heap.size, 6, none⟩ = some (.slice ao3 A3.length ac3) := by go_cell
  have a7_1 : ((w.alloc (.cells #[.int .i64 i0, .int .i64 i1, .int .i64 i2, .slice ao0 A0.length ac0, .slice ao1 A1.length ac1, .slice ao2 A2.length ac2, .slice ao3 A3.length ac3, .slice ao4 A4.length ac4] 49)).alloc (.cells #[.int .i64 i0, .int .i64 i1, .int .i64 i2, .slice bo0 B0.length bc0, .slice bo1 B1.length bc1, .slice bo2 B2.length bc2, .slice bo3 B3.length bc3, .slice bo4 B4.length bc4] 49)).cell? ⟨w.heap.size, 7, none⟩ = some (.slice ao4 A4.length ac4) := by go_cell
  have al_1 : w.heap.size < ((w.alloc (.cells #[.int .i64 i0, .int .i64 i1, .int .i64 i2, .slice ao0 A0.length ac0, .slice ao1 A1.length ac1, .slice ao2 A2.length ac2, .slice ao3 A3.length ac3, .slice ao4 A4.length ac4] 49)).alloc (.cells #[.int .i64 i0, .int .i64 i1, .int .i64 i2, .slice bo0 B0.length bc0, .slice bo1 B1.length bc1, .slice bo2 B2.length bc2, .slice bo3 B3.length bc3, .slice bo4 B4.length bc4] 49)).heap.size := by first | (simp; done) | (simp; omega)
  have b0_1 : ((w.alloc (.cells #[.int .i64 i0, .int .i64 i1, .int .i64 i2, .slice ao0 A0.length ac0, .slice ao1 A1.length ac1, .slice ao2 A2.length ac2, .slice ao3 A3.length ac3, .slice ao4 A4.length ac4] 49)).alloc (.cells #[.int .i64 i0, .int .i64 i1, .int .i64 i2, .slice bo0 B0.length bc0, .slice bo1 B1.length bc1, .slice bo2 B2.length bc2, .slice bo3 B3.length bc3, .slice bo4 B4.length bc4] 49)).cell? ⟨w.heap.size + 1, 0, none⟩ = some (.int .i64 i0) := by go_cell
  have b1_1 : ((w.alloc (.cells #[.int .i64 i0, .int .i64 i1, .int .i64 i2, .slice ao0 A0.length ac0, .slice ao1 A1.length ac1, .slice ao2 A2.length ac2, .slice ao3 A3.length ac3, .slice ao4 A4.length ac4] 49)).alloc (.cells #[.int .i64 i0, .int .i64 i1, .int .i64 i2, .slice bo0 B0.length bc0, .slice bo1 B1.length bc1, .slice bo2 B2.length bc2, .slice bo3 B3.length bc3, .slice bo4 B4.length bc4] 49)).cell? ⟨w.heap.size + 1, 1, none⟩ = some (.int .i64 i1) := by go_cell
  have b2_1 : ((w.alloc (.cells #[.int .i64 i0, .int .i64 i1, .int .i64 i2, .slice ao0 A0.length ac0, .slice ao1 A1.length ac1, .slice ao2 A2.length ac2, .slice ao3 A3.length ac3, .slice ao4 A4.length ac4] 49)).alloc (.cells #[.int .i64 i0, .int .i64 i1, .int .i64 i2, .slice bo0 B0.length bc0, .slice bo1 B1.length bc1, .slice bo2 B2.length bc2, .slice bo3 B3.length bc3, .slice bo4 B4.length bc4] 49)).cell? ⟨w.heap.size + 1, 2, none⟩ = some (.int .i64 i2) := by go_cell
  have b3_1 : ((w.alloc (.cells #[.int .i64 i0, .int .i64 i1, .int .i64 i2, .slice ao0 A0.length ac0, .slice ao1 A1.length ac1, .slice ao2 A2.length ac2, .slice ao3 A3.length ac3, .slice ao4 A4.length ac4] 49)).alloc (.cells #[.int .i64 i0, .int .i64 i1, .int .i64 i2, .slice bo0 B0.length bc0, .slice bo1 B1.length bc1, .slice bo2 B2.length bc2, .slice bo3 B3.length bc3, .slice bo4 B4.length bc4] 49)).cell? ⟨w.heap.size + 1, 3, none⟩ = some (.slice bo0 B0.length bc0) := by go_cell
  have b4_1 : ((w.alloc (.cells #[.int .i64 i0, .int .i64 i1, .int .i64 i2, .slice ao0 A0.length ac0, .slice ao1 A1.length ac1, .slice ao2 A2.length ac2, .slice ao3 A3.length ac3, .slice ao4 A4.length ac4] 49)).alloc (.cells #[.int .i64 i0, .int .i64 i1, .int .i64 i2, .slice bo0 B0.length bc0, .slice bo1 B1.length bc1, .slice bo2 B2.length bc2, .slice bo3 B3.length bc3, .slice bo4 B4.length bc4] 49)).cell? ⟨w.heap.size + 1, 4, none⟩ = some (.slice bo1 B1.length bc1) := by go_cell
  have b5_1 : ((w.alloc (.cells #[.int .i64 i0, .int .i64 i1, .int .i64 i2, .slice ao0 A0.length ac0, .slice ao1 A1.length ac1, .slice ao2 A2.length ac2, .slice ao3 A3.length ac3, .slice ao4 A4.length ac4] 49)).alloc (.cells #[.int .i64 i0, .int .i64 i1, .int .i64 i2, .slice bo0 B0.length bc0, .slice bo1 B1.length bc1, .slice bo2 B2.length bc2, .slice bo3 B3.length bc3, .slice bo4 B4.length bc4] 49)).cell? ⟨w.heap.size + 1, 5, none⟩ = some (.slice bo2 B2.length bc2) := by go_cell
  have b6_1 : ((w.alloc (.cells #[.int .i64 i0, .int .i64 i1, .int .i64 i2, .slice ao0 A0.length ac0, .slice ao1 A1.length ac1, .slice ao2 A2.length ac2, .slice ao3 A3.length ac3, .slice ao4 A4.length ac4] 49)).alloc (.cells #[.int .i64 i0, .int .i64 i1, .int .i64 i2, .slice bo0 B0.length bc0, .slice bo1 B1.length bc1, .slice bo2 B2.length bc2, .slice bo3 B3.length bc3, .slice bo4 B4.length bc4] 49)).cell? ⟨w.heap.size + 1, 6, none⟩ = some (.slice bo3 B3.length bc3) := by go_cell
  have b7_1 : ((w.alloc (.cells #[.int .i64 i0, .int .i64 i1, .int .i64 i2, .slice ao0 A0.length ac0, .slice ao1 A1.length ac1, .slice ao2 A2.length ac2, .slice ao3 A3.length ac3, .slice ao4 A4.length ac4] 49)).alloc (.cells #[.int .i64 i0, .int .i64 i1, .int .i64 i2, .slice bo0 B0.length bc0, .slice bo1 B1.length bc1, .slice bo2 B2.length bc2, .slice bo3 B3.length bc3, .slice bo4 B4.length bc4] 49)).cell? ⟨w.heap.size + 1, 7, none⟩ = some (.slice bo4 B4.length bc4) := by go_cell
  have bl_1 : w.heap.size + 1 < ((w.alloc (.cells #[.int .i64 i0, .int .i64 i1, .int .i64 i2, .slice ao0 A0.length ac0, .slice ao1 A1.length ac1, .slice ao2 A2.length ac2, .slice ao3 A3.length ac3, .slice ao4 A4.length ac4] 49)).alloc (.cells #[.int .i64 i0, .int .i64 i1, .int .i64 i2, .slice bo0 B0.length bc0, .slice bo1 B1.length bc1, .slice bo2 B2.length bc2, .slice bo3 B3.length bc3, .slice bo4 B4.length bc4] 49)).heap.size := by first | (simp; done) | (simp; omega)
  have c1 : Below w.heap.size w ((w.alloc (.cells #[.int .i64 i0, .int .i64 i1, .int .i64 i2, .slice ao0 A0.length ac0, .slice ao1 A1.length ac1, .slice ao2 A2.length ac2, .slice ao3 A3.length ac3, .slice ao4 A4.length ac4] 49)).alloc (.cells #[.int .i64 i0, .int .i64 i1, .int .i64 i2, .slice bo0 B0.length bc0, .slice bo1 B1.length bc1, .slice bo2 B2.length bc2, .slice bo3 B3.length bc3, .slice bo4 B4.length bc4] 49)) := by go_grown
  have s1 : ((w.alloc (.cells #[.int .i64 i0, .int .i64 i1, .int .i64 i2, .slice ao0 A0.length ac0, .slice ao1 A1.length ac1, .slice ao2 A2.length ac2, .slice ao3 A3.length ac3, .slice ao4 A4.length ac4] 49)).alloc (.cells #[.int .i64 i0, .int .i64 i1, .int .i64 i2, .slice bo0 B0.length bc0, .slice bo1 B1.length bc1, .slice bo2 B2.length bc2, .slice bo3 B3.length bc3, .slice bo4 B4.length bc4] 49)).heap.size = w.heap.size + 2 := by simp
  generalize ((w.alloc (.cells #[.int .i64 i0, .int .i64 i1, .int .i64 i2, .slice ao0 A0.length ac0, .slice ao1 A1.length ac1, .slice ao2 A2.length ac2, .slice ao3 A3.length ac3, .slice ao4 A4.length ac4] 49)).alloc (.cells #[.int .i64 i0, .int .i64 i1, .int .i64 i2, .slice bo0 B0.length bc0, .slice bo1 B1.length bc1, .slice bo2 B2.length bc2, .slice bo3 B3.length bc3, .slice bo4 B4.length bc4] 49)) = w1 at a0_1 a1_1 a2_1 a3_1 a4_1 a5_1 a6_1 a7_1 al_1 b0_1 b1_1 b2_1 b3_1 b4_1 b5_1 b6_1 b7_1 bl_1 c1 s1 ⊢
  have qa0_1 := cell_regrown a0_1
  have qa1_1 := cell_regrown a1_1
  have qa2_1 := cell_regrown a2_1
  have qa3_1 := cell_regrown a3_1
  have qa4_1 := cell_regrown a4_1
  have qa5_1 := cell_regrown a5_1
  have qa6_1 := cell_regrown a6_1
  have qa7_1 := cell_regrown a7_1
  have qb0_1 := cell_regrown b0_1
  have qb1_1 := cell_regrown b1_1
  have qb2_1 := cell_regrown b2_1
  have qb3_1 := cell_regrown b3_1
  have qb4_1 := cell_regrown b4_1
  have qb5_1 := cell_regrown b5_1
  have qb6_1 := cell_regrown b6_1
  have qb7_1 := cell_regrown b7_1
  clear qa0_1 qa1_1 qa2_1 qa3_1 qa4_1 qa5_1 qa6_1 qa7_1 qb0_1 qb1_1 qb2_1 qb3_1 qb4_1 qb5_1 qb6_1 qb7_1
  go_loopw [5] (fun i wr => ∃ k : Nat, k ≤ A0.length ∧ i = .int .i64 k ∧ Hid (A0.take k = B0.take k) ∧ Below w1.heap.size w1 wr) (fun i _ => A0.length - (intOf i).toNat)
  case atStart => exact ⟨0, Nat.zero_le _, rfl, rfl, Below.refl _ _⟩
  case round =>
    obtain ⟨k, hk, rfl, hpre, hbel⟩ := hrel
    obtain ⟨w2, hw2⟩ : ∃ y, y = wr := ⟨_, rfl⟩
    subst hw2
    have b2 := hbel
    have d2 : Below w1.heap.size w1 w2 := (Below.trans (by go_grown) (b2.mono (by first | omega | (simp; done) | (simp; omega))))
    have c2 : Below w.heap.size w w2 := c1.trans (d2.mono c1.size)
    have a0_2 : w2.cell? ⟨w.heap.size, 0, none⟩ = some (.int .i64 i0) := (by rw [b2.cell (by first | omega | (simp; done) | (simp; omega))]; go_cell)
    have a1_2 : w2.cell? ⟨w.heap.size, 1, none⟩ = some (.int .i64 i1) := (by rw [b2.cell (by first | omega | (simp; done) | (simp; omega))]; go_cell)
    have a2_2 : w2.cell? ⟨w.heap.size, 2, none⟩ = some (.int .i64 i2) := (by rw [b2.cell (by first | omega | (simp; done) | (simp; omega))]; go_cell)
    have a3_2 : w2.cell? ⟨w.heap.size, 3, none⟩ = some (.slice ao0 A0.length ac0) := (by rw [b2.cell (by first | omega | (simp; done) | (simp; omega))]; go_cell)
    have a4_2 : w2.cell? ⟨w.heap.size, 4, none⟩ = some (.slice ao1 A1.length ac1) := (by rw [b2.cell (by first | omega | (simp; done) | (simp; omega))]; go_cell)
    have a5_2 : w2.cell? ⟨w.heap.size, 5, none⟩ = some (.slice ao2 A2.length ac2) := (by rw [b2.cell (by first | omega | (simp; done) | (simp; omega))]; go_cell)
    have a6_2 : w2.cell? ⟨w.heap.size, 6, none⟩ = some (.slice ao3 A3.length ac3) := (by rw [b2.cell (by first | omega | (simp; done) | (simp; omega))]; go_cell)
    have a7_2 : w2.cell? ⟨w.heap.size, 7, none⟩ = some (.slice ao4 A4.length ac4) := (by rw [b2.cell (by first | omega | (simp; done) | (simp; omega))]; go_cell)
    have al_2 : w.heap.size < w2.heap.size := (by have := b2.size; first | omega | (revert this; simp; done) | (revert this; simp; omega))
    have b0_2 : w2.cell? ⟨w.heap.size + 1, 0, none⟩ = some (.int .i64 i0) := (by rw [b2.cell (by first | omega | (simp; done) | (simp; omega))]; go_cell)
    have b1_2 : w2.cell? ⟨w.heap.size + 1, 1, none⟩ = some (.int .i64 i1) := (by rw [b2.cell (by first | omega | (simp; done) | (simp; omega))]; go_cell)
    have b2_2 : w2.cell? ⟨w.heap.size + 1, 2, none⟩ = some (.int .i64 i2) := (by rw [b2.cell (by first | omega | (simp; done) | (simp; omega))]; go_cell)
    have b3_2 : w2.cell? ⟨w.heap.size + 1, 3, none⟩ = some (.slice bo0 B0.length bc0) := (by rw [b2.cell (by first | omega | (simp; done) | (simp; omega))]; go_cell)
    have b4_2 : w2.cell? ⟨w.heap.size + 1, 4, none⟩ = some (.slice bo1 B1.length bc1) := (by rw [b2.cell (by first | omega | (simp; done) | (simp; omega))]; go_cell)
    have b5_2 : w2.cell? ⟨w.heap.size + 1, 5, none⟩ = some (.slice bo2 B2.length bc2) := (by rw [b2.cell (by first | omega | (simp; done) | (simp; omega))]; go_cell)
    have b6_2 : w2.cell? ⟨w.heap.size + 1, 6, none⟩ = some (.slice bo3 B3.length bc3) := (by rw [b2.cell (by first | omega | (simp; done) | (simp; omega))]; go_cell)
    have b7_2 : w2.cell? ⟨w.heap.size + 1, 7, none⟩ = some (.slice bo4 B4.length bc4) := (by rw [b2.cell (by first | omega | (simp; done) | (simp; omega))]; go_cell)
    have bl_2 : w.heap.size + 1 < w2.heap.size := (by have := b2.size; first | omega | (revert this; simp; done) | (revert this; simp; omega))
    clear a0_1 a1_1 a2_1 a3_1 a4_1 a5_1 a6_1 a7_1 al_1 b0_1 b1_1 b2_1 b3_1 b4_1 b5_1 b6_1 b7_1 bl_1
    clear b2 d2
    have C2 := c2
    by_cases hlt : k < A0.length
    · have HL := HL0
      obtain ⟨ba, oa, rfl, hba, hcca⟩ := hca0 (by omega)
      obtain ⟨bb, ob, rfl, hbb, hccb⟩ := hcb0 (by have := HL.out; omega)
      have hkb : (k : Int) < (B0.length : Int) := by have := HL.out; omega
      obtain ⟨p0, p1, lx, ux, hx, c0, c1, c2, hux⟩ := atK_2k ((hcca k hlt).later hba C2)
      obtain ⟨t0, t1, ly, uy, hy, d0, d1, d2, huy⟩ := atK_2k ((hccb k (by have := HL.out; omega)).later hbb C2)
      have hnext : Hid (A0.getD k kd0 = B0.getD k kd0 → A0.take (k + 1) = B0.take (k + 1)) := hid (fun h => take_more A0 B0 kd0 k hlt (by have := HL.out; omega) hpre h)
      have hdiff : Hid (¬ A0.getD k kd0 = B0.getD k kd0 → eqM A0 B0 = false) := hid (fun h => eqM_no (fun e => h (by rw [e])))
      rw [hx, hy] at hnext hdiff
      have hsz := (C2).size
      have HUA := hid hux
      have HUB := hid huy
      clear hux huy
      clear hcca hccb hx hy
      have hsb := hbel.size
      clear HL hca0 hca1 hca2 hca3 hca4 hcb0 hcb1 hcb2 hcb3 hcb4
      have r0 := cell_regrown c0
      have s0 := cell_regrown d0
      have r1 := cell_regrown c1
      have s1 := cell_regrown d1
      have r2 := cell_regrown c2
      have s2 := cell_regrown d2
      have va := cell_regrown a3_2
      have vb := cell_regrown b3_2
      by_cases h0 : p0 = t0
      · subst h0
        cases hc : (p1 == t1 && eqL lx ly) with
        | true =>
          have hN := hid (hnext.out (eqK_iff.1 (by rw [eqK_2]; simp only [decide_true, Bool.true_and]; exact hc)))
          clear hnext hdiff
          go_wp2_with fail
          refine wp_region_quiet_below (by kernel_rfl) (by kernel_rfl) ?_
          repeat (first | go_big_quiet_skip | (go_big_quiet_want; go_big_quiet_op; first | go_big_quiet_on | go_big_quiet_call (first | (go_at_call 35; exact Calls.regrown_of (sVSame_k p1 t1 _ _ lx ly _ (HUA.out.later (below_regrown _ _ _)) (HUB.out.later (below_regrown _ _ _)) hc)))))
          refine wpQuiet_nil ?_
          rintro wq ⟨pq, hwq⟩
          have hq : Below w2.heap.size w2 wq := by rw [hwq]; exact below_regrown _ _ _
          clear hwq pq
          go_wp2
          go_roundw
          case rel => exact ⟨k + 1, by omega, by go_num, hN, hbel.trans (hq.mono hsb)⟩
          case measure => simp [intOf]; omega
        | false =>
          have hN := hid (hdiff.out (fun e => by have h := eqK_iff.2 e; rw [eqK_2] at h; simp only [decide_true, Bool.true_and] at h; rw [hc] at h; cases h))
          clear hnext hdiff
          go_wp2_with fail
          refine wp_region_quiet_below (by kernel_rfl) (by kernel_rfl) ?_
          repeat (first | go_big_quiet_skip | (go_big_quiet_want; go_big_quiet_op; first | go_big_quiet_on | go_big_quiet_call (first | (go_at_call 35; exact Calls.regrown_of (sVSame_k p1 t1 _ _ lx ly _ (HUA.out.later (below_regrown _ _ _)) (HUB.out.later (below_regrown _ _ _)) hc)))))
          refine wpQuiet_nil ?_
          rintro wq ⟨pq, hwq⟩
          have hq : Below w2.heap.size w2 wq := by rw [hwq]; exact below_regrown _ _ _
          clear hwq pq
          go_wp2
          go_ret
          exact ⟨by simp [hN.out], C2.trans (hq.mono C2.size)⟩
      · have g0 : (p0 != t0) = true := by simpa using h0
        have hN := hid (hdiff.out (fun e => h0 (by simp at e; first | exact e | exact e.1 | exact e.1.1 | (obtain ⟨_, _⟩ := e; assumption) | simp_all)))
        clear hnext hdiff
        go_wp2_with fail
        refine wp_region_quiet_below (by kernel_rfl) (by kernel_rfl) ?_
        repeat (first | go_big_quiet_skip | (go_big_quiet_want; go_big_quiet_op; first | go_big_quiet_on | go_big_quiet_call (first | (fail))))
        refine wpQuiet_nil ?_
        rintro wq ⟨pq, hwq⟩
        have hq : Below w2.heap.size w2 wq := by rw [hwq]; exact below_regrown _ _ _
        clear hwq pq
        go_wp2
        go_ret
        exact ⟨by simp [hN.out], C2.trans (hq.mono C2.size)⟩
    · have hall : eqM A0 B0 = true := eqM_yes (by have h1 := HL0.out; have h2 := hpre.out; rwa [List.take_of_length_le (by omega), List.take_of_length_le (by omega)] at h2)
      have HALL0 := hid hall
      clear hall hpre hbel hca0 hcb0
      go_wp2
      go_loopw [6] (fun i wr => ∃ k : Nat, k ≤ A1.length ∧ i = .int .i64 k ∧ Hid (A1.take k = B1.take k) ∧ Below w2.heap.size w2 wr) (fun i _ => A1.length - (intOf i).toNat)
      case atStart => exact ⟨0, Nat.zero_le _, rfl, rfl, Below.refl _ _⟩
      case round =>
        obtain ⟨k, hk, rfl, hpre, hbel⟩ := hrel
        obtain ⟨w3, hw3⟩ : ∃ y, y = wr := ⟨_, rfl⟩
        subst hw3
        have b3 := hbel
        have d3 : Below w2.heap.size w2 w3 := (Below.trans (by go_grown) (b3.mono (by first | omega | (simp; done) | (simp; omega))))
        have c3 : Below w.heap.size w w3 := c2.trans (d3.mono c2.size)
        have a0_3 : w3.cell? ⟨w.heap.size, 0, none⟩ = some (.int .i64 i0) := (by rw [b3.cell (by first | omega | (simp; done) | (simp; omega))]; go_cell)
        have a1_3 : w3.cell? ⟨w.heap.size, 1, none⟩ = some (.int .i64 i1) := (by rw [b3.cell (by first | omega | (simp; done) | (simp; omega))]; go_cell)
        have a2_3 : w3.cell? ⟨w.heap.size, 2, none⟩ = some (.int .i64 i2) := (by rw [b3.cell (by first | omega | (simp; done) | (simp; omega))]; go_cell)
        have a3_3 : w3.cell? ⟨w.heap.size, 3, none⟩ = some (.slice ao0 A0.length ac0) := (by rw [b3.cell (by first | omega | (simp; done) | (simp; omega))]; go_cell)
        have a4_3 : w3.cell? ⟨w.heap.size, 4, none⟩ = some (.slice ao1 A1.length ac1) := (by rw [b3.cell (by first | omega | (simp; done) | (simp; omega))]; go_cell)
        have a5_3 : w3.cell? ⟨w.heap.size, 5, none⟩ = some (.slice ao2 A2.length ac2) := (by rw [b3.cell (by first | omega | (simp; done) | (simp; omega))]; go_cell)
        have a6_3 : w3.cell? ⟨w.heap.size, 6, none⟩ = some (.slice ao3 A3.length ac3) := (by rw [b3.cell (by first | omega | (simp; done) | (simp; omega))]; go_cell)
        have a7_3 : w3.cell? ⟨w.heap.size, 7, none⟩ = some (.slice ao4 A4.length ac4) := (by rw [b3.cell (by first | omega | (simp; done) | (simp; omega))]; go_cell)
        have al_3 : w.heap.size < w3.heap.size := (by have := b3.size; first | omega | (revert this; simp; done) | (revert this; simp; omega))
        have b0_3 : w3.cell? ⟨w.heap.size + 1, 0, none⟩ = some (.int .i64 i0) := (by rw [b3.cell (by first | omega | (simp; done) | (simp; omega))]; go_cell)
        have b1_3 : w3.cell? ⟨w.heap.size + 1, 1, none⟩ = some (.int .i64 i1) := (by rw [b3.cell (by first | omega | (simp; done) | (simp; omega))]; go_cell)
        have b2_3 : w3.cell? ⟨w.heap.size + 1, 2, none⟩ = some (.int .i64 i2) := (by rw [b3.cell (by first | omega | (simp; done) | (simp; omega))]; go_cell)
        have b3_3 : w3.cell? ⟨w.heap.size + 1, 3, none⟩ = some (.slice bo0 B0.length bc0) := (by rw [b3.cell (by first | omega | (simp; done) | (simp; omega))]; go_cell)
        have b4_3 : w3.cell? ⟨w.heap.size + 1, 4, none⟩ = some (.slice bo1 B1.length bc1) := (by rw [b3.cell (by first | omega | (simp; done) | (simp; omega))]; go_cell)
        have b5_3 : w3.cell? ⟨w.heap.size + 1, 5, none⟩ = some (.slice bo2 B2.length bc2) := (by rw [b3.cell (by first | omega | (simp; done) | (simp; omega))]; go_cell)
        have b6_3 : w3.cell? ⟨w.heap.size + 1, 6, none⟩ = some (.slice bo3 B3.length bc3) := (by rw [b3.cell (by first | omega | (simp; done) | (simp; omega))]; go_cell)
        have b7_3 : w3.cell? ⟨w.heap.size + 1, 7, none⟩ = some (.slice bo4 B4.length bc4) := (by rw [b3.cell (by first | omega | (simp; done) | (simp; omega))]; go_cell)
        have bl_3 : w.heap.size + 1 < w3.heap.size := (by have := b3.size; first | omega | (revert this; simp; done) | (revert this; simp; omega))
        clear a0_2 a1_2 a2_2 a3_2 a4_2 a5_2 a6_2 a7_2 al_2 b0_2 b1_2 b2_2 b3_2 b4_2 b5_2 b6_2 b7_2 bl_2
        clear b3 d3
        have C3 := c3
        by_cases hlt : k < A1.length
        · have HL := HL1
          obtain ⟨ba, oa, rfl, hba, hcca⟩ := hca1 (by omega)
          obtain ⟨bb, ob, rfl, hbb, hccb⟩ := hcb1 (by have := HL.out; omega)
          have hkb : (k : Int) < (B1.length : Int) := by have := HL.out; omega
          obtain ⟨p0, p1, p2, p3, p4, p5, hx, c0, c1, c2, c3, c4, c5⟩ := atK_6n ((hcca k hlt).later hba C3)
          obtain ⟨t0, t1, t2, t3, t4, t5, hy, d0, d1, d2, d3, d4, d5⟩ := atK_6n ((hccb k (by have := HL.out; omega)).later hbb C3)
          have hnext : Hid (A1.getD k kd0 = B1.getD k kd0 → A1.take (k + 1) = B1.take (k + 1)) := hid (fun h => take_more A1 B1 kd0 k hlt (by have := HL.out; omega) hpre h)
          have hdiff : Hid (¬ A1.getD k kd0 = B1.getD k kd0 → eqM A1 B1 = false) := hid (fun h => eqM_no (fun e => h (by rw [e])))
          rw [hx, hy] at hnext hdiff
          have hsz := (C3).size
          clear hcca hccb hx hy
          have hsb := hbel.size
          clear HL hca1 hca2 hca3 hca4 hcb1 hcb2 hcb3 hcb4
          have r0 := cell_regrown c0
          have s0 := cell_regrown d0
          have r1 := cell_regrown c1
          have s1 := cell_regrown d1
          have r2 := cell_regrown c2
          have s2 := cell_regrown d2
          have r3 := cell_regrown c3
          have s3 := cell_regrown d3
          have r4 := cell_regrown c4
          have s4 := cell_regrown d4
          have r5 := cell_regrown c5
          have s5 := cell_regrown d5
          have va := cell_regrown a4_3
          have vb := cell_regrown b4_3
          by_cases h0 : p0 = t0
          · subst h0
            by_cases h1 : p1 = t1
            · subst h1
              by_cases h2 : p2 = t2
              · subst h2
                by_cases h3 : p3 = t3
                · subst h3
                  by_cases h4 : p4 = t4
                  · subst h4
                    by_cases h5 : p5 = t5
                    · subst h5
                      have hN := hid (hnext.out rfl)
                      clear hnext hdiff
                      go_wp2_with fail
                      refine wp_region_quiet_below (by kernel_rfl) (by kernel_rfl) ?_
                      repeat (first | go_big_quiet_skip | (go_big_quiet_want; go_big_quiet_op; first | go_big_quiet_on | go_big_quiet_call (first | (fail))))
                      refine wpQuiet_nil ?_
                      rintro wq ⟨pq, hwq⟩
                      have hq : Below w3.heap.size w3 wq := by rw [hwq]; exact below_regrown _ _ _
                      clear hwq pq
                      go_wp2
                      go_roundw
                      case rel => exact ⟨k + 1, by omega, by go_num, hN, hbel.trans (hq.mono hsb)⟩
                      case measure => simp [intOf]; omega
                    · have g5 : (p5 == t5) = false := by simpa using h5
                      have hN := hid (hdiff.out (fun e => h5 (by simp at e; first | exact e | exact e.1 | exact e.1.1 | (obtain ⟨_, _⟩ := e; assumption) | simp_all)))
                      clear hnext hdiff
                      go_wp2_with fail
                      refine wp_region_quiet_below (by kernel_rfl) (by kernel_rfl) ?_
                      repeat (first | go_big_quiet_skip | (go_big_quiet_want; go_big_quiet_op; first | go_big_quiet_on | go_big_quiet_call (first | (fail))))
                      refine wpQuiet_nil ?_
                      rintro wq ⟨pq, hwq⟩
                      have hq : Below w3.heap.size w3 wq := by rw [hwq]; exact below_regrown _ _ _
                      clear hwq pq
                      go_wp2
                      go_ret
                      exact ⟨by simp [hN.out], C3.trans (hq.mono C3.size)⟩
                  · have g4 : (p4 == t4) = false := by simpa using h4
                    have hN := hid (hdiff.out (fun e => h4 (by simp at e; first | exact e | exact e.1 | exact e.1.1 | (obtain ⟨_, _⟩ := e; assumption) | simp_all)))
                    clear hnext hdiff
                    go_wp2_with fail
                    refine wp_region_quiet_below (by kernel_rfl) (by kernel_rfl) ?_
                    repeat (first | go_big_quiet_skip | (go_big_quiet_want; go_big_quiet_op; first | go_big_quiet_on | go_big_quiet_call (first | (fail))))
                    refine wpQuiet_nil ?_
                    rintro wq ⟨pq, hwq⟩
                    have hq : Below w3.heap.size w3 wq := by rw [hwq]; exact below_regrown _ _ _
                    clear hwq pq
                    go_wp2
                    go_ret
                    exact ⟨by simp [hN.out], C3.trans (hq.mono C3.size)⟩
                · have g3 : (p3 == t3) = false := by simpa using h3
                  have hN := hid (hdiff.out (fun e => h3 (by simp at e; first | exact e | exact e.1 | exact e.1.1 | (obtain ⟨_, _⟩ := e; assumption) | simp_all)))
                  clear hnext hdiff
                  go_wp2_with fail
                  refine wp_region_quiet_below (by kernel_rfl) (by kernel_rfl) ?_
                  repeat (first | go_big_quiet_skip | (go_big_quiet_want; go_big_quiet_op; first | go_big_quiet_on | go_big_quiet_call (first | (fail))))
                  refine wpQuiet_nil ?_
                  rintro wq ⟨pq, hwq⟩
                  have hq : Below w3.heap.size w3 wq := by rw [hwq]; exact below_regrown _ _ _
                  clear hwq pq
                  go_wp2
                  go_ret
                  exact ⟨by simp [hN.out], C3.trans (hq.mono C3.size)⟩
              · have g2 : (p2 == t2) = false := by simpa using h2
                have hN := hid (hdiff.out (fun e => h2 (by simp at e; first | exact e | exact e.1 | exact e.1.1 | (obtain ⟨_, _⟩ := e; assumption) | simp_all)))
                clear hnext hdiff
                go_wp2_with fail
                refine wp_region_quiet_below (by kernel_rfl) (by kernel_rfl) ?_
                repeat (first | go_big_quiet_skip | (go_big_quiet_want; go_big_quiet_op; first | go_big_quiet_on | go_big_quiet_call (first | (fail))))
                refine wpQuiet_nil ?_
                rintro wq ⟨pq, hwq⟩
                have hq : Below w3.heap.size w3 wq := by rw [hwq]; exact below_regrown _ _ _
                clear hwq pq
                go_wp2
                go_ret
                exact ⟨by simp [hN.out], C3.trans (hq.mono C3.size)⟩
            · have g1 : (p1 == t1) = false := by simpa using h1
              have hN := hid (hdiff.out (fun e => h1 (by simp at e; first | exact e | exact e.1 | exact e.1.1 | (obtain ⟨_, _⟩ := e; assumption) | simp_all)))
              clear hnext hdiff
              go_wp2_with fail
              refine wp_region_quiet_below (by kernel_rfl) (by kernel_rfl) ?_
              repeat (first | go_big_quiet_skip | (go_big_quiet_want; go_big_quiet_op; first | go_big_quiet_on | go_big_quiet_call (first | (fail))))
              refine wpQuiet_nil ?_
              rintro wq ⟨pq, hwq⟩
              have hq : Below w3.heap.size w3 wq := by rw [hwq]; exact below_regrown _ _ _
              clear hwq pq
              go_wp2
              go_ret
              exact ⟨by simp [hN.out], C3.trans (hq.mono C3.size)⟩
          · have g0 : (p0 == t0) = false := by simpa using h0
            have hN := hid (hdiff.out (fun e => h0 (by simp at e; first | exact e | exact e.1 | exact e.1.1 | (obtain ⟨_, _⟩ := e; assumption) | simp_all)))
            clear hnext hdiff
            go_wp2_with fail
            refine wp_region_quiet_below (by kernel_rfl) (by kernel_rfl) ?_
            repeat (first | go_big_quiet_skip | (go_big_quiet_want; go_big_quiet_op; first | go_big_quiet_on | go_big_quiet_call (first | (fail))))
            refine wpQuiet_nil ?_
            rintro wq ⟨pq, hwq⟩
            have hq : Below w3.heap.size w3 wq := by rw [hwq]; exact below_regrown _ _ _
            clear hwq pq
            go_wp2
            go_ret
            exact ⟨by simp [hN.out], C3.trans (hq.mono C3.size)⟩
        · have hall : eqM A1 B1 = true := eqM_yes (by have h1 := HL1.out; have h2 := hpre.out; rwa [List.take_of_length_le (by omega), List.take_of_length_le (by omega)] at h2)
          have HALL1 := hid hall
          clear hall hpre hbel hca1 hcb1
          go_wp2
          go_loopw [7] (fun i wr => ∃ k : Nat, k ≤ A2.length ∧ i = .int .i64 k ∧ Hid (A2.take k = B2.take k) ∧ Below w3.heap.size w3 wr) (fun i _ => A2.length - (intOf i).toNat)
          case atStart => exact ⟨0, Nat.zero_le _, rfl, rfl, Below.refl _ _⟩
          case round =>
            obtain ⟨k, hk, rfl, hpre, hbel⟩ := hrel
            obtain ⟨w4, hw4⟩ : ∃ y, y = wr := ⟨_, rfl⟩
            subst hw4
            have b4 := hbel
            have d4 : Below w3.heap.size w3 w4 := (Below.trans (by go_grown) (b4.mono (by first | omega | (simp; done) | (simp; omega))))
            have c4 : Below w.heap.size w w4 := c3.trans (d4.mono c3.size)
            have a0_4 : w4.cell? ⟨w.heap.size, 0, none⟩ = some (.int .i64 i0) := (by rw [b4.cell (by first | omega | (simp; done) | (simp; omega))]; go_cell)
            have a1_4 : w4.cell? ⟨w.heap.size, 1, none⟩ = some (.int .i64 i1) := (by rw [b4.cell (by first | omega | (simp; done) | (simp; omega))]; go_cell)
            have a2_4 : w4.cell? ⟨w.heap.size, 2, none⟩ = some (.int .i64 i2) := (by rw [b4.cell (by first | omega | (simp; done) | (simp; omega))]; go_cell)
            have a3_4 : w4.cell? ⟨w.heap.size, 3, none⟩ = some (.slice ao0 A0.length ac0) := (by rw [b4.cell (by first | omega | (simp; done) | (simp; omega))]; go_cell)
            have a4_4 : w4.cell? ⟨w.heap.size, 4, none⟩ = some (.slice ao1 A1.length ac1) := (by rw [b4.cell (by first | omega | (simp; done) | (simp; omega))]; go_cell)
            have a5_4 : w4.cell? ⟨w.heap.size, 5, none⟩ = some (.slice ao2 A2.length ac2) := (by rw [b4.cell (by first | omega | (simp; done) | (simp; omega))]; go_cell)
            have a6_4 : w4.cell? ⟨w.heap.size, 6, none⟩ = some (.slice ao3 A3.length ac3) := (by rw [b4.cell (by first | omega | (simp; done) | (simp; omega))]; go_cell)
            have a7_4 : w4.cell? ⟨w.heap.size, 7, none⟩ = some (.slice ao4 A4.length ac4) := (by rw [b4.cell (by first | omega | (simp; done) | (simp; omega))]; go_cell)
            have al_4 : w.heap.size < w4.heap.size := (by have := b4.size; first | omega | (revert this; simp; done) | (revert this; simp; omega))
            have b0_4 : w4.cell? ⟨w.heap.size + 1, 0, none⟩ = some (.int .i64 i0) := (by rw [b4.cell (by first | omega | (simp; done) | (simp; omega))]; go_cell)
            have b1_4 : w4.cell? ⟨w.heap.size + 1, 1, none⟩ = some (.int .i64 i1) := (by rw [b4.cell (by first | omega | (simp; done) | (simp; omega))]; go_cell)
            have b2_4 : w4.cell? ⟨w.heap.size + 1, 2, none⟩ = some (.int .i64 i2) := (by rw [b4.cell (by first | omega | (simp; done) | (simp; omega))]; go_cell)
            have b3_4 : w4.cell? ⟨w.heap.size + 1, 3, none⟩ = some (.slice bo0 B0.length bc0) := (by rw [b4.cell (by first | omega | (simp; done) | (simp; omega))]; go_cell)
            have b4_4 : w4.cell? ⟨w.heap.size + 1, 4, none⟩ = some (.slice bo1 B1.length bc1) := (by rw [b4.cell (by first | omega | (simp; done) | (simp; omega))]; go_cell)
            have b5_4 : w4.cell? ⟨w.heap.size + 1, 5, none⟩ = some (.slice bo2 B2.length bc2) := (by rw [b4.cell (by first | omega | (simp; done) | (simp; omega))]; go_cell)
            have b6_4 : w4.cell? ⟨w.heap.size + 1, 6, none⟩ = some (.slice bo3 B3.length bc3) := (by rw [b4.cell (by first | omega | (simp; done) | (simp; omega))]; go_cell)
            have b7_4 : w4.cell? ⟨w.heap.size + 1, 7, none⟩ = some (.slice bo4 B4.length bc4) := (by rw [b4.cell (by first | omega | (simp; done) | (simp; omega))]; go_cell)
            have bl_4 : w.heap.size + 1 < w4.heap.size := (by have := b4.size; first | omega | (revert this; simp; done) | (revert this; simp; omega))
            clear a0_3 a1_3 a2_3 a3_3 a4_3 a5_3 a6_3 a7_3 al_3 b0_3 b1_3 b2_3 b3_3 b4_3 b5_3 b6_3 b7_3 bl_3
            clear b4 d4
            have C4 := c4
            by_cases hlt : k < A2.length
            · have HL := HL2
              obtain ⟨ba, oa, rfl, hba, hcca⟩ := hca2 (by omega)
              obtain ⟨bb, ob, rfl, hbb, hccb⟩ := hcb2 (by have := HL.out; omega)
              have hkb : (k : Int) < (B2.length : Int) := by have := HL.out; omega
              obtain ⟨p0, p1, p2, p3, p4, hx, c0, c1, c2, c3, c4⟩ := atK_5n ((hcca k hlt).later hba C4)
              obtain ⟨t0, t1, t2, t3, t4, hy, d0, d1, d2, d3, d4⟩ := atK_5n ((hccb k (by have := HL.out; omega)).later hbb C4)
              have hnext : Hid (A2.getD k kd0 = B2.getD k kd0 → A2.take (k + 1) = B2.take (k + 1)) := hid (fun h => take_more A2 B2 kd0 k hlt (by have := HL.out; omega) hpre h)
              have hdiff : Hid (¬ A2.getD k kd0 = B2.getD k kd0 → eqM A2 B2 = false) := hid (fun h => eqM_no (fun e => h (by rw [e])))
              rw [hx, hy] at hnext hdiff
              have hsz := (C4).size
              clear hcca hccb hx hy
              have hsb := hbel.size
              clear HL hca2 hca3 hca4 hcb2 hcb3 hcb4
              have r0 := cell_regrown c0
              have s0 := cell_regrown d0
              have r1 := cell_regrown c1
              have s1 := cell_regrown d1
              have r2 := cell_regrown c2
              have s2 := cell_regrown d2
              have r3 := cell_regrown c3
              have s3 := cell_regrown d3
              have r4 := cell_regrown c4
              have s4 := cell_regrown d4
              have va := cell_regrown a5_4
              have vb := cell_regrown b5_4
              by_cases h0 : p0 = t0
              · subst h0
                by_cases h1 : p1 = t1
                · subst h1
                  by_cases h2 : p2 = t2
                  · subst h2
                    by_cases h3 : p3 = t3
                    · subst h3
                      by_cases h4 : p4 = t4
                      · subst h4
                        have hN := hid (hnext.out rfl)
                        clear hnext hdiff
                        go_wp2_with fail
                        refine wp_region_quiet_below (by kernel_rfl) (by kernel_rfl) ?_
                        repeat (first | go_big_quiet_skip | (go_big_quiet_want; go_big_quiet_op; first | go_big_quiet_on | go_big_quiet_call (first | (fail))))
                        refine wpQuiet_nil ?_
                        rintro wq ⟨pq, hwq⟩
                        have hq : Below w4.heap.size w4 wq := by rw [hwq]; exact below_regrown _ _ _
                        clear hwq pq
                        go_wp2
                        go_roundw
                        case rel => exact ⟨k + 1, by omega, by go_num, hN, hbel.trans (hq.mono hsb)⟩
                        case measure => simp [intOf]; omega
                      · have g4 : (p4 == t4) = false := by simpa using h4
                        have hN := hid (hdiff.out (fun e => h4 (by simp at e; first | exact e | exact e.1 | exact e.1.1 | (obtain ⟨_, _⟩ := e; assumption) | simp_all)))
                        clear hnext hdiff
                        go_wp2_with fail
                        refine wp_region_quiet_below (by kernel_rfl) (by kernel_rfl) ?_
                        repeat (first | go_big_quiet_skip | (go_big_quiet_want; go_big_quiet_op; first | go_big_quiet_on | go_big_quiet_call (first | (fail))))
                        refine wpQuiet_nil ?_
                        rintro wq ⟨pq, hwq⟩
                        have hq : Below w4.heap.size w4 wq := by rw [hwq]; exact below_regrown _ _ _
                        clear hwq pq
                        go_wp2
                        go_ret
                        exact ⟨by simp [hN.out], C4.trans (hq.mono C4.size)⟩
                    · have g3 : (p3 == t3) = false := by simpa using h3
                      have hN := hid (hdiff.out (fun e => h3 (by simp at e; first | exact e | exact e.1 | exact e.1.1 | (obtain ⟨_, _⟩ := e; assumption) | simp_all)))
                      clear hnext hdiff
                      go_wp2_with fail
                      refine wp_region_quiet_below (by kernel_rfl) (by kernel_rfl) ?_
                      repeat (first | go_big_quiet_skip | (go_big_quiet_want; go_big_quiet_op; first | go_big_quiet_on | go_big_quiet_call (first | (fail))))
                      refine wpQuiet_nil ?_
                      rintro wq ⟨pq, hwq⟩
                      have hq : Below w4.heap.size w4 wq := by rw [hwq]; exact below_regrown _ _ _
                      clear hwq pq
                      go_wp2
                      go_ret
                      exact ⟨by simp [hN.out], C4.trans (hq.mono C4.size)⟩
                  · have g2 : (p2 == t2) = false := by simpa using h2
                    have hN := hid (hdiff.out (fun e => h2 (by simp at e; first | exact e | exact e.1 | exact e.1.1 | (obtain ⟨_, _⟩ := e; assumption) | simp_all)))
                    clear hnext hdiff
                    go_wp2_with fail
                    refine wp_region_quiet_below (by kernel_rfl) (by kernel_rfl) ?_
                    repeat (first | go_big_quiet_skip | (go_big_quiet_want; go_big_quiet_op; first | go_big_quiet_on | go_big_quiet_call (first | (fail))))
                    refine wpQuiet_nil ?_
                    rintro wq ⟨pq, hwq⟩
                    have hq : Below w4.heap.size w4 wq := by rw [hwq]; exact below_regrown _ _ _
                    clear hwq pq
                    go_wp2
                    go_ret
                    exact ⟨by simp [hN.out], C4.trans (hq.mono C4.size)⟩
                · have g1 : (p1 == t1) = false := by simpa using h1
                  have hN := hid (hdiff.out (fun e => h1 (by simp at e; first | exact e | exact e.1 | exact e.1.1 | (obtain ⟨_, _⟩ := e; assumption) | simp_all)))
                  clear hnext hdiff
                  go_wp2_with fail
                  refine wp_region_quiet_below (by kernel_rfl) (by kernel_rfl) ?_
                  repeat (first | go_big_quiet_skip | (go_big_quiet_want; go_big_quiet_op; first | go_big_quiet_on | go_big_quiet_call (first | (fail))))
                  refine wpQuiet_nil ?_
                  rintro wq ⟨pq, hwq⟩
                  have hq : Below w4.heap.size w4 wq := by rw [hwq]; exact below_regrown _ _ _
                  clear hwq pq
                  go_wp2
                  go_ret
                  exact ⟨by simp [hN.out], C4.trans (hq.mono C4.size)⟩
              · have g0 : (p0 == t0) = false := by simpa using h0
                have hN := hid (hdiff.out (fun e => h0 (by simp at e; first | exact e | exact e.1 | exact e.1.1 | (obtain ⟨_, _⟩ := e; assumption) | simp_all)))
                clear hnext hdiff
                go_wp2_with fail
                refine wp_region_quiet_below (by kernel_rfl) (by kernel_rfl) ?_
                repeat (first | go_big_quiet_skip | (go_big_quiet_want; go_big_quiet_op; first | go_big_quiet_on | go_big_quiet_call (first | (fail))))
                refine wpQuiet_nil ?_
                rintro wq ⟨pq, hwq⟩
                have hq : Below w4.heap.size w4 wq := by rw [hwq]; exact below_regrown _ _ _
                clear hwq pq
                go_wp2
                go_ret
                exact ⟨by simp [hN.out], C4.trans (hq.mono C4.size)⟩
            · have hall : eqM A2 B2 = true := eqM_yes (by have h1 := HL2.out; have h2 := hpre.out; rwa [List.take_of_length_le (by omega), List.take_of_length_le (by omega)] at h2)
              have HALL2 := hid hall
              clear hall hpre hbel hca2 hcb2
              go_wp2
              go_loopw [8] (fun i wr => ∃ k : Nat, k ≤ A3.length ∧ i = .int .i64 k ∧ Hid (A3.take k = B3.take k) ∧ Below w4.heap.size w4 wr) (fun i _ => A3.length - (intOf i).toNat)
              case atStart => exact ⟨0, Nat.zero_le _, rfl, rfl, Below.refl _ _⟩
              case round =>
                obtain ⟨k, hk, rfl, hpre, hbel⟩ := hrel
                obtain ⟨w5, hw5⟩ : ∃ y, y = wr := ⟨_, rfl⟩
                subst hw5
                have b5 := hbel
                have d5 : Below w4.heap.size w4 w5 := (Below.trans (by go_grown) (b5.mono (by first | omega | (simp; done) | (simp; omega))))
                have c5 : Below w.heap.size w w5 := c4.trans (d5.mono c4.size)
                have a0_5 : w5.cell? ⟨w.heap.size, 0, none⟩ = some (.int .i64 i0) := (by rw [b5.cell (by first | omega | (simp; done) | (simp; omega))]; go_cell)
                have a1_5 : w5.cell? ⟨w.heap.size, 1, none⟩ = some (.int .i64 i1) := (by rw [b5.cell (by first | omega | (simp; done) | (simp; omega))]; go_cell)
                have a2_5 : w5.cell? ⟨w.heap.size, 2, none⟩ = some (.int .i64 i2) := (by rw [b5.cell (by first | omega | (simp; done) | (simp; omega))]; go_cell)
                have a3_5 : w5.cell? ⟨w.heap.size, 3, none⟩ = some (.slice ao0 A0.length ac0) := (by rw [b5.cell (by first | omega | (simp; done) | (simp; omega))]; go_cell)
                have a4_5 : w5.cell? ⟨w.heap.size, 4, none⟩ = some (.slice ao1 A1.length ac1) := (by rw [b5.cell (by first | omega | (simp; done) | (simp; omega))]; go_cell)
                have a5_5 : w5.cell? ⟨w.heap.size, 5, none⟩ = some (.slice ao2 A2.length ac2) := (by rw [b5.cell (by first | omega | (simp; done) | (simp; omega))]; go_cell)
                have a6_5 : w5.cell? ⟨w.heap.size, 6, none⟩ = some (.slice ao3 A3.length ac3) := (by rw [b5.cell (by first | omega | (simp; done) | (simp; omega))]; go_cell)
                have a7_5 : w5.cell? ⟨w.heap.size, 7, none⟩ = some (.slice ao4 A4.length ac4) := (by rw [b5.cell (by first | omega | (simp; done) | (simp; omega))]; go_cell)
                have al_5 : w.heap.size < w5.heap.size := (by have := b5.size; first | omega | (revert this; simp; done) | (revert this; simp; omega))
                have b0_5 : w5.cell? ⟨w.heap.size + 1, 0, none⟩ = some (.int .i64 i0) := (by rw [b5.cell (by first | omega | (simp; done) | (simp; omega))]; go_cell)
                have b1_5 : w5.cell? ⟨w.heap.size + 1, 1, none⟩ = some (.int .i64 i1) := (by rw [b5.cell (by first | omega | (simp; done) | (simp; omega))]; go_cell)
                have b2_5 : w5.cell? ⟨w.heap.size + 1, 2, none⟩ = some (.int .i64 i2) := (by rw [b5.cell (by first | omega | (simp; done) | (simp; omega))]; go_cell)
                have b3_5 : w5.cell? ⟨w.heap.size + 1, 3, none⟩ = some (.slice bo0 B0.length bc0) := (by rw [b5.cell (by first | omega | (simp; done) | (simp; omega))]; go_cell)
                have b4_5 : w5.cell? ⟨w.heap.size + 1, 4, none⟩ = some (.slice bo1 B1.length bc1) := (by rw [b5.cell (by first | omega | (simp; done) | (simp; omega))]; go_cell)
                have b5_5 : w5.cell? ⟨w.heap.size + 1, 5, none⟩ = some (.slice bo2 B2.length bc2) := (by rw [b5.cell (by first | omega | (simp; done) | (simp; omega))]; go_cell)
                have b6_5 : w5.cell? ⟨w.heap.size + 1, 6, none⟩ = some (.slice bo3 B3.length bc3) := (by rw [b5.cell (by first | omega | (simp; done) | (simp; omega))]; go_cell)
                have b7_5 : w5.cell? ⟨w.heap.size + 1, 7, none⟩ = some (.slice bo4 B4.length bc4) := (by rw [b5.cell (by first | omega | (simp; done) | (simp; omega))]; go_cell)
                have bl_5 : w.heap.size + 1 < w5.heap.size := (by have := b5.size; first | omega | (revert this; simp; done) | (revert this; simp; omega))
                clear a0_4 a1_4 a2_4 a3_4 a4_4 a5_4 a6_4 a7_4 al_4 b0_4 b1_4 b2_4 b3_4 b4_4 b5_4 b6_4 b7_4 bl_4
                clear b5 d5
                have C5 := c5
                by_cases hlt : k < A3.length
                · have HL := HL3
                  obtain ⟨ba, oa, rfl, hba, hcca⟩ := hca3 (by omega)
                  obtain ⟨bb, ob, rfl, hbb, hccb⟩ := hcb3 (by have := HL.out; omega)
                  have hkb : (k : Int) < (B3.length : Int) := by have := HL.out; omega
                  obtain ⟨p0, p1, p2, hx, c0, c1, c2⟩ := atK_3n ((hcca k hlt).later hba C5)
                  obtain ⟨t0, t1, t2, hy, d0, d1, d2⟩ := atK_3n ((hccb k (by have := HL.out; omega)).later hbb C5)
                  have hnext : Hid (A3.getD k kd0 = B3.getD k kd0 → A3.take (k + 1) = B3.take (k + 1)) := hid (fun h => take_more A3 B3 kd0 k hlt (by have := HL.out; omega) hpre h)
                  have hdiff : Hid (¬ A3.getD k kd0 = B3.getD k kd0 → eqM A3 B3 = false) := hid (fun h => eqM_no (fun e => h (by rw [e])))
                  rw [hx, hy] at hnext hdiff
                  have hsz := (C5).size
                  clear hcca hccb hx hy
                  have hsb := hbel.size
                  clear HL hca3 hca4 hcb3 hcb4
                  have r0 := cell_regrown c0
                  have s0 := cell_regrown d0
                  have r1 := cell_regrown c1
                  have s1 := cell_regrown d1
                  have r2 := cell_regrown c2
                  have s2 := cell_regrown d2
                  have va := cell_regrown a6_5
                  have vb := cell_regrown b6_5
                  by_cases h0 : p0 = t0
                  · subst h0
                    by_cases h1 : p1 = t1
                    · subst h1
                      by_cases h2 : p2 = t2
                      · subst h2
                        have hN := hid (hnext.out rfl)
                        clear hnext hdiff
                        go_wp2_with fail
                        refine wp_region_quiet_below (by kernel_rfl) (by kernel_rfl) ?_
                        repeat (first | go_big_quiet_skip | (go_big_quiet_want; go_big_quiet_op; first | go_big_quiet_on | go_big_quiet_call (first | (fail))))
                        refine wpQuiet_nil ?_
                        rintro wq ⟨pq, hwq⟩
                        have hq : Below w5.heap.size w5 wq := by rw [hwq]; exact below_regrown _ _ _
                        clear hwq pq
                        go_wp2
                        go_roundw
                        case rel => exact ⟨k + 1, by omega, by go_num, hN, hbel.trans (hq.mono hsb)⟩
                        case measure => simp [intOf]; omega
                      · have g2 : (p2 == t2) = false := by simpa using h2
                        have hN := hid (hdiff.out (fun e => h2 (by simp at e; first | exact e | exact e.1 | exact e.1.1 | (obtain ⟨_, _⟩ := e; assumption) | simp_all)))
                        clear hnext hdiff
                        go_wp2_with fail
                        refine wp_region_quiet_below (by kernel_rfl) (by kernel_rfl) ?_
                        repeat (first | go_big_quiet_skip | (go_big_quiet_want; go_big_quiet_op; first | go_big_quiet_on | go_big_quiet_call (first | (fail))))
                        refine wpQuiet_nil ?_
                        rintro wq ⟨pq, hwq⟩
                        have hq : Below w5.heap.size w5 wq := by rw [hwq]; exact below_regrown _ _ _
                        clear hwq pq
                        go_wp2
                        go_ret
                        exact ⟨by simp [hN.out], C5.trans (hq.mono C5.size)⟩
                    · have g1 : (p1 == t1) = false := by simpa using h1
                      have hN := hid (hdiff.out (fun e => h1 (by simp at e; first | exact e | exact e.1 | exact e.1.1 | (obtain ⟨_, _⟩ := e; assumption) | simp_all)))
                      clear hnext hdiff
                      go_wp2_with fail
                      refine wp_region_quiet_below (by kernel_rfl) (by kernel_rfl) ?_
                      repeat (first | go_big_quiet_skip | (go_big_quiet_want; go_big_quiet_op; first | go_big_quiet_on | go_big_quiet_call (first | (fail))))
                      refine wpQuiet_nil ?_
                      rintro wq ⟨pq, hwq⟩
                      have hq : Below w5.heap.size w5 wq := by rw [hwq]; exact below_regrown _ _ _
                      clear hwq pq
                      go_wp2
                      go_ret
                      exact ⟨by simp [hN.out], C5.trans (hq.mono C5.size)⟩
                  · have g0 : (p0 == t0) = false := by simpa using h0
                    have hN := hid (hdiff.out (fun e => h0 (by simp at e; first | exact e | exact e.1 | exact e.1.1 | (obtain ⟨_, _⟩ := e; assumption) | simp_all)))
                    clear hnext hdiff
                    go_wp2_with fail
                    refine wp_region_quiet_below (by kernel_rfl) (by kernel_rfl) ?_
                    repeat (first | go_big_quiet_skip | (go_big_quiet_want; go_big_quiet_op; first | go_big_quiet_on | go_big_quiet_call (first | (fail))))
                    refine wpQuiet_nil ?_
                    rintro wq ⟨pq, hwq⟩
                    have hq : Below w5.heap.size w5 wq := by rw [hwq]; exact below_regrown _ _ _
                    clear hwq pq
                    go_wp2
                    go_ret
                    exact ⟨by simp [hN.out], C5.trans (hq.mono C5.size)⟩
                · have hall : eqM A3 B3 = true := eqM_yes (by have h1 := HL3.out; have h2 := hpre.out; rwa [List.take_of_length_le (by omega), List.take_of_length_le (by omega)] at h2)
                  have HALL3 := hid hall
                  clear hall hpre hbel hca3 hcb3
                  go_wp2
                  go_loopw [9] (fun i wr => ∃ k : Nat, k ≤ A4.length ∧ i = .int .i64 k ∧ Hid (A4.take k = B4.take k) ∧ Below w5.heap.size w5 wr) (fun i _ => A4.length - (intOf i).toNat)
                  case atStart => exact ⟨0, Nat.zero_le _, rfl, rfl, Below.refl _ _⟩
                  case round =>
                    obtain ⟨k, hk, rfl, hpre, hbel⟩ := hrel
                    obtain ⟨w6, hw6⟩ : ∃ y, y = wr := ⟨_, rfl⟩
                    subst hw6
                    have b6 := hbel
                    have d6 : Below w5.heap.size w5 w6 := (Below.trans (by go_grown) (b6.mono (by first | omega | (simp; done) | (simp; omega))))
                    have c6 : Below w.heap.size w w6 := c5.trans (d6.mono c5.size)
                    have a0_6 : w6.cell? ⟨w.heap.size, 0, none⟩ = some (.int .i64 i0) := (by rw [b6.cell (by first | omega | (simp; done) | (simp; omega))]; go_cell)
                    have a1_6 : w6.cell? ⟨w.heap.size, 1, none⟩ = some (.int .i64 i1) := (by rw [b6.cell (by first | omega | (simp; done) | (simp; omega))]; go_cell)
                    have a2_6 : w6.cell? ⟨w.heap.size, 2, none⟩ = some (.int .i64 i2) := (by rw [b6.cell (by first | omega | (simp; done) | (simp; omega))]; go_cell)
                    have a3_6 : w6.cell? ⟨w.heap.size, 3, none⟩ = some (.slice ao0 A0.length ac0) := (by rw [b6.cell (by first | omega | (simp; done) | (simp; omega))]; go_cell)
                    have a4_6 : w6.cell? ⟨w.heap.size, 4, none⟩ = some (.slice ao1 A1.length ac1) := (by rw [b6.cell (by first | omega | (simp; done) | (simp; omega))]; go_cell)
                    have a5_6 : w6.cell? ⟨w.heap.size, 5, none⟩ = some (.slice ao2 A2.length ac2) := (by rw [b6.cell (by first | omega | (simp; done) | (simp; omega))]; go_cell)
                    have a6_6 : w6.cell? ⟨w.heap.size, 6, none⟩ = some (.slice ao3 A3.length ac3) := (by rw [b6.cell (by first | omega | (simp; done) | (simp; omega))]; go_cell)
                    have a7_6 : w6.cell? ⟨w.heap.size, 7, none⟩ = some (.slice ao4 A4.length ac4) := (by rw [b6.cell (by first | omega | (simp; done) | (simp; omega))]; go_cell)
                    have al_6 : w.heap.size < w6.heap.size := (by have := b6.size; first | omega | (revert this; simp; done) | (revert this; simp; omega))
                    have b0_6 : w6.cell? ⟨w.heap.size + 1, 0, none⟩ = some (.int .i64 i0) := (by rw [b6.cell (by first | omega | (simp; done) | (simp; omega))]; go_cell)
                    have b1_6 : w6.cell? ⟨w.heap.size + 1, 1, none⟩ = some (.int .i64 i1) := (by rw [b6.cell (by first | omega | (simp; done) | (simp; omega))]; go_cell)
                    have b2_6 : w6.cell? ⟨w.heap.size + 1, 2, none⟩ = some (.int .i64 i2) := (by rw [b6.cell (by first | omega | (simp; done) | (simp; omega))]; go_cell)
                    have b3_6 : w6.cell? ⟨w.heap.size + 1, 3, none⟩ = some (.slice bo0 B0.length bc0) := (by rw [b6.cell (by first | omega | (simp; done) | (simp; omega))]; go_cell)
                    have b4_6 : w6.cell? ⟨w.heap.size + 1, 4, none⟩ = some (.slice bo1 B1.length bc1) := (by rw [b6.cell (by first | omega | (simp; done) | (simp; omega))]; go_cell)
                    have b5_6 : w6.cell? ⟨w.heap.size + 1, 5, none⟩ = some (.slice bo2 B2.length bc2) := (by rw [b6.cell (by first | omega | (simp; done) | (simp; omega))]; go_cell)
                    have b6_6 : w6.cell? ⟨w.heap.size + 1, 6, none⟩ = some (.slice bo3 B3.length bc3) := (by rw [b6.cell (by first | omega | (simp; done) | (simp; omega))]; go_cell)
                    have b7_6 : w6.cell? ⟨w.heap.size + 1, 7, none⟩ = some (.slice bo4 B4.length bc4) := (by rw [b6.cell (by first | omega | (simp; done) | (simp; omega))]; go_cell)
                    have bl_6 : w.heap.size + 1 < w6.heap.size := (by have := b6.size; first | omega | (revert this; simp; done) | (revert this; simp; omega))
                    clear a0_5 a1_5 a2_5 a3_5 a4_5 a5_5 a6_5 a7_5 al_5 b0_5 b1_5 b2_5 b3_5 b4_5 b5_5 b6_5 b7_5 bl_5
                    clear b6 d6
                    have C6 := c6
                    by_cases hlt : k < A4.length
                    · have HL := HL4
                      obtain ⟨ba, oa, rfl, hba, hcca⟩ := hca4 (by omega)
                      obtain ⟨bb, ob, rfl, hbb, hccb⟩ := hcb4 (by have := HL.out; omega)
                      have hkb : (k : Int) < (B4.length : Int) := by have := HL.out; omega
                      obtain ⟨p0, p1, p2, lx, ux, hx, c0, c1, c2, c3, hux⟩ := atK_3k ((hcca k hlt).later hba C6)
                      obtain ⟨t0, t1, t2, ly, uy, hy, d0, d1, d2, d3, huy⟩ := atK_3k ((hccb k (by have := HL.out; omega)).later hbb C6)
                      have hnext : Hid (A4.getD k kd0 = B4.getD k kd0 → A4.take (k + 1) = B4.take (k + 1)) := hid (fun h => take_more A4 B4 kd0 k hlt (by have := HL.out; omega) hpre h)
                      have hdiff : Hid (¬ A4.getD k kd0 = B4.getD k kd0 → eqM A4 B4 = false) := hid (fun h => eqM_no (fun e => h (by rw [e])))
                      rw [hx, hy] at hnext hdiff
                      have hsz := (C6).size
                      have HUA := hid hux
                      have HUB := hid huy
                      clear hux huy
                      clear hcca hccb hx hy
                      have hsb := hbel.size
                      clear HL hca4 hcb4
                      have r0 := cell_regrown c0
                      have s0 := cell_regrown d0
                      have r1 := cell_regrown c1
                      have s1 := cell_regrown d1
                      have r2 := cell_regrown c2
                      have s2 := cell_regrown d2
                      have r3 := cell_regrown c3
                      have s3 := cell_regrown d3
                      have va := cell_regrown a7_6
                      have vb := cell_regrown b7_6
                      by_cases h0 : p0 = t0
                      · subst h0
                        by_cases h1 : p1 = t1
                        · subst h1
                          cases hc : (p2 == t2 && eqL lx ly) with
                          | true =>
                            have hN := hid (hnext.out (eqK_iff.1 (by rw [eqK_3]; simp only [decide_true, Bool.true_and]; exact hc)))
                            clear hnext hdiff
                            go_wp2_with fail
                            refine wp_region_quiet_below (by kernel_rfl) (by kernel_rfl) ?_
                            repeat (first | go_big_quiet_skip | (go_big_quiet_want; go_big_quiet_op; first | go_big_quiet_on | go_big_quiet_call (first | (go_at_call 35; exact Calls.regrown_of (sVSame_k p2 t2 _ _ lx ly _ (HUA.out.later (below_regrown _ _ _)) (HUB.out.later (below_regrown _ _ _)) hc)))))
                            refine wpQuiet_nil ?_
                            rintro wq ⟨pq, hwq⟩
                            have hq : Below w6.heap.size w6 wq := by rw [hwq]; exact below_regrown _ _ _
                            clear hwq pq
                            go_wp2
                            go_roundw
                            case rel => exact ⟨k + 1, by omega, by go_num, hN, hbel.trans (hq.mono hsb)⟩
                            case measure => simp [intOf]; omega
                          | false =>
                            have hN := hid (hdiff.out (fun e => by have h := eqK_iff.2 e; rw [eqK_3] at h; simp only [decide_true, Bool.true_and] at h; rw [hc] at h; cases h))
                            clear hnext hdiff
                            go_wp2_with fail
                            refine wp_region_quiet_below (by kernel_rfl) (by kernel_rfl) ?_
                            repeat (first | go_big_quiet_skip | (go_big_quiet_want; go_big_quiet_op; first | go_big_quiet_on | go_big_quiet_call (first | (go_at_call 35; exact Calls.regrown_of (sVSame_k p2 t2 _ _ lx ly _ (HUA.out.later (below_regrown _ _ _)) (HUB.out.later (below_regrown _ _ _)) hc)))))
                            refine wpQuiet_nil ?_
                            rintro wq ⟨pq, hwq⟩
                            have hq : Below w6.heap.size w6 wq := by rw [hwq]; exact below_regrown _ _ _
                            clear hwq pq
                            go_wp2
                            go_ret
                            exact ⟨by simp [hN.out], C6.trans (hq.mono C6.size)⟩
                        · have g1 : (p1 != t1) = true := by simpa using h1
                          have hN := hid (hdiff.out (fun e => h1 (by simp at e; first | exact e | exact e.1 | exact e.1.1 | (obtain ⟨_, _⟩ := e; assumption) | simp_all)))
                          clear hnext hdiff
                          go_wp2_with fail
                          refine wp_region_quiet_below (by kernel_rfl) (by kernel_rfl) ?_
                          repeat (first | go_big_quiet_skip | (go_big_quiet_want; go_big_quiet_op; first | go_big_quiet_on | go_big_quiet_call (first | (fail))))
                          refine wpQuiet_nil ?_
                          rintro wq ⟨pq, hwq⟩
                          have hq : Below w6.heap.size w6 wq := by rw [hwq]; exact below_regrown _ _ _
                          clear hwq pq
                          go_wp2
                          go_ret
                          exact ⟨by simp [hN.out], C6.trans (hq.mono C6.size)⟩
                      · have g0 : (p0 != t0) = true := by simpa using h0
                        have hN := hid (hdiff.out (fun e => h0 (by simp at e; first | exact e | exact e.1 | exact e.1.1 | (obtain ⟨_, _⟩ := e; assumption) | simp_all)))
                        clear hnext hdiff
                        go_wp2_with fail
                        refine wp_region_quiet_below (by kernel_rfl) (by kernel_rfl) ?_
                        repeat (first | go_big_quiet_skip | (go_big_quiet_want; go_big_quiet_op; first | go_big_quiet_on | go_big_quiet_call (first | (fail))))
                        refine wpQuiet_nil ?_
                        rintro wq ⟨pq, hwq⟩
                        have hq : Below w6.heap.size w6 wq := by rw [hwq]; exact below_regrown _ _ _
                        clear hwq pq
                        go_wp2
                        go_ret
                        exact ⟨by simp [hN.out], C6.trans (hq.mono C6.size)⟩
                    · have hall : eqM A4 B4 = true := eqM_yes (by have h1 := HL4.out; have h2 := hpre.out; rwa [List.take_of_length_le (by omega), List.take_of_length_le (by omega)] at h2)
                      have HALL4 := hid hall
                      clear hall hpre hbel hca4 hcb4
                      go_wp2
                      go_ret
                      exact ⟨by simp [HALL0.out, HALL1.out, HALL2.out, HALL3.out, HALL4.out], c6⟩

end Go.Proofs.Ytkmhnjgncnoddaa
