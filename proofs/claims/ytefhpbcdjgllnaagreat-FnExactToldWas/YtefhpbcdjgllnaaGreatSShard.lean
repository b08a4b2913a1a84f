/- The law's own helpers of Shard: contracts. Written by a program (gs.py). -/
import Derived.Test.YtefhpbcdjgllnaaGreatKCommit
import Derived.Test.YtefhpbcdjgllnaaGreatZCommit
import Derived.Test.YtefhpbcdjgllnaaGreatTCommit
import Derived.Test.YtefhpbcdjgllnaaGreatMCommit
import Derived.Test.YtefhpbcdjgllnaaGreatKDone
import Derived.Test.YtefhpbcdjgllnaaGreatZDone
import Derived.Test.YtefhpbcdjgllnaaGreatTDone
import Derived.Test.YtefhpbcdjgllnaaGreatMDone
import Derived.Test.YtefhpbcdjgllnaaGreatKIntent
import Derived.Test.YtefhpbcdjgllnaaGreatZIntent
import Derived.Test.YtefhpbcdjgllnaaGreatTIntent
import Derived.Test.YtefhpbcdjgllnaaGreatMIntent
import Derived.Test.YtefhpbcdjgllnaaGreatKRow
import Derived.Test.YtefhpbcdjgllnaaGreatZRow
import Derived.Test.YtefhpbcdjgllnaaGreatTRow
import Derived.Test.YtefhpbcdjgllnaaGreatMRow
import Derived.Test.YtefhpbcdjgllnaaGreatKSeen
import Derived.Test.YtefhpbcdjgllnaaGreatZSeen
import Derived.Test.YtefhpbcdjgllnaaGreatTSeen
import Derived.Test.YtefhpbcdjgllnaaGreatMSeen
import Derived.Test.YtefhpbcdjgllnaaGreatGrA
namespace Go.Proofs.YtefhpbcdjgllnaaGreat
open Go.RowKit
attribute [local go_sem ↓] Go.wp_at_zero Go.wp_at_succ

set_option maxRecDepth 100000 in
set_option maxHeartbeats 2000000 in
theorem eqShard_self (i0 i1 i2 : Int) (a0 a1 a2 a3 a4 b0 b1 b2 b3 b4 : Value) (L0 L1 L2 L3 L4 : List KD) (w : World) (ha0 : RdM 3 2 true w a0 L0) (ha1 : RdM 6 6 false w a1 L1) (ha2 : RdM 5 5 false w a2 L2) (ha3 : RdM 3 3 false w a3 L3) (ha4 : RdM 4 3 true w a4 L4) (hb0 : RdM 3 2 true w b0 L0) (hb1 : RdM 6 6 false w b1 L1) (hb2 : RdM 5 5 false w b2 L2) (hb3 : RdM 3 3 false w b3 L3) (hb4 : RdM 4 3 true w b4 L4) :
    Calls Tryz.prog 10 #[.agg #[.int .i64 i0, .int .i64 i1, .int .i64 i2, a0, a1, a2, a3, a4], .agg #[.int .i64 i0, .int .i64 i1, .int .i64 i2, b0, b1, b2, b3, b4]] w fun e w' => e = .returned (.bool true) ∧ Below w.heap.size w w' := by
  have HA0 := hid ha0
  have HB0 := hid hb0
  have HA1 := hid ha1
  have HB1 := hid hb1
  have HA2 := hid ha2
  have HB2 := hid hb2
  have HA3 := hid ha3
  have HB3 := hid hb3
  have HA4 := hid ha4
  have HB4 := hid hb4
  obtain ⟨ao0, ac0, hv, _⟩ := ha0
  subst hv
  obtain ⟨ao1, ac1, hv, _⟩ := ha1
  subst hv
  obtain ⟨ao2, ac2, hv, _⟩ := ha2
  subst hv
  obtain ⟨ao3, ac3, hv, _⟩ := ha3
  subst hv
  obtain ⟨ao4, ac4, hv, _⟩ := ha4
  subst hv
  obtain ⟨bo0, bc0, hv, _⟩ := hb0
  subst hv
  obtain ⟨bo1, bc1, hv, _⟩ := hb1
  subst hv
  obtain ⟨bo2, bc2, hv, _⟩ := hb2
  subst hv
  obtain ⟨bo3, bc3, hv, _⟩ := hb3
  subst hv
  obtain ⟨bo4, bc4, hv, _⟩ := hb4
  subst hv
  go_enter Tryz.func10, Tryz.ntmps10
  go_wp2_with fail
  generalize hW1 : ((w.alloc (.cells #[.int .i64 i0, .int .i64 i1, .int .i64 i2, .slice ao0 L0.length ac0, .slice ao1 L1.length ac1, .slice ao2 L2.length ac2, .slice ao3 L3.length ac3, .slice ao4 L4.length ac4] 43)).alloc (.cells #[.int .i64 i0, .int .i64 i1, .int .i64 i2, .slice bo0 L0.length bc0, .slice bo1 L1.length bc1, .slice bo2 L2.length bc2, .slice bo3 L3.length bc3, .slice bo4 L4.length bc4] 43)) = w1
  have a0_1 : w1.cell? ⟨w.heap.size, 0, none⟩ = some (.int .i64 i0) := by subst hW1; go_cell
  have a1_1 : w1.cell? ⟨w.heap.size, 1, none⟩ = some (.int .i64 i1) := by subst hW1; go_cell
  have a2_1 : w1.cell? ⟨w.heap.size, 2, none⟩ = some (.int .i64 i2) := by subst hW1; go_cell
  have a3_1 : w1.cell? ⟨w.heap.size, 3, none⟩ = some (.slice ao0 L0.length ac0) := by subst hW1; go_cell
  have a4_1 : w1.cell? ⟨w.heap.size, 4, none⟩ = some (.slice ao1 L1.length ac1) := by subst hW1; go_cell
  have a5_1 : w1.cell? ⟨w.heap.size, 5, none⟩ = some (.slice ao2 L2.length ac2) := by subst hW1; go_cell
  have a6_1 : w1.cell? ⟨w.heap.size, 6, none⟩ = some (.slice ao3 L3.length ac3) := by subst hW1; go_cell
  have a7_1 : w1.cell? ⟨w.heap.size, 7, none⟩ = some (.slice ao4 L4.length ac4) := by subst hW1; go_cell
  have al_1 : w.heap.size < w1.heap.size := by subst hW1; first | (simp; done) | (simp; omega)
  have b0_1 : w1.cell? ⟨w.heap.size + 1, 0, none⟩ = some (.int .i64 i0) := by subst hW1; go_cell
  have b1_1 : w1.cell? ⟨w.heap.size + 1, 1, none⟩ = some (.int .i64 i1) := by subst hW1; go_cell
  have b2_1 : w1.cell? ⟨w.heap.size + 1, 2, none⟩ = some (.int .i64 i2) := by subst hW1; go_cell
  have b3_1 : w1.cell? ⟨w.heap.size + 1, 3, none⟩ = some (.slice bo0 L0.length bc0) := by subst hW1; go_cell
  have b4_1 : w1.cell? ⟨w.heap.size + 1, 4, none⟩ = some (.slice bo1 L1.length bc1) := by subst hW1; go_cell
  have b5_1 : w1.cell? ⟨w.heap.size + 1, 5, none⟩ = some (.slice bo2 L2.length bc2) := by subst hW1; go_cell
  have b6_1 : w1.cell? ⟨w.heap.size + 1, 6, none⟩ = some (.slice bo3 L3.length bc3) := by subst hW1; go_cell
  have b7_1 : w1.cell? ⟨w.heap.size + 1, 7, none⟩ = some (.slice bo4 L4.length bc4) := by subst hW1; go_cell
  have bl_1 : w.heap.size + 1 < w1.heap.size := by subst hW1; first | (simp; done) | (simp; omega)
  have c1 : Below w.heap.size w w1 := by subst hW1; go_grown
  have s1 : w1.heap.size = w.heap.size + 2 := by subst hW1; simp
  clear hW1
  have qa0_1 := cell_regrown a0_1
  have qa1_1 := cell_regrown a1_1
  have qa2_1 := cell_regrown a2_1
  have qa3_1 := cell_regrown a3_1
  have qa4_1 := cell_regrown a4_1
  have qa5_1 := cell_regrown a5_1
  have qa6_1 := cell_regrown a6_1
  have qa7_1 := cell_regrown a7_1
  have qb0_1 := cell_regrown b0_1
  have qb1_1 := cell_regrown b1_1
  have qb2_1 := cell_regrown b2_1
  have qb3_1 := cell_regrown b3_1
  have qb4_1 := cell_regrown b4_1
  have qb5_1 := cell_regrown b5_1
  have qb6_1 := cell_regrown b6_1
  have qb7_1 := cell_regrown b7_1
  refine (eqRowS_any _ _ L0 L0 _ (HA0.out.later c1) (HB0.out.later c1)).mono ?_
  rintro e w2 ⟨rfl, b2⟩
  rw [eqM_refl]
  have d2 : Below w1.heap.size w1 w2 := (Below.trans (by go_grown) (b2.mono (by first | omega | (simp; done) | (simp; omega))))
  have c2 : Below w.heap.size w w2 := c1.trans (d2.mono c1.size)
  have a0_2 : w2.cell? ⟨w.heap.size, 0, none⟩ = some (.int .i64 i0) := (by rw [b2.cell (by first | omega | (simp; done) | (simp; omega))]; go_cell)
  have a1_2 : w2.cell? ⟨w.heap.size, 1, none⟩ = some (.int .i64 i1) := (by rw [b2.cell (by first | omega | (simp; done) | (simp; omega))]; go_cell)
  have a2_2 : w2.cell? ⟨w.heap.size, 2, none⟩ = some (.int .i64 i2) := (by rw [b2.cell (by first | omega | (simp; done) | (simp; omega))]; go_cell)
  have a3_2 : w2.cell? ⟨w.heap.size, 3, none⟩ = some (.slice ao0 L0.length ac0) := (by rw [b2.cell (by first | omega | (simp; done) | (simp; omega))]; go_cell)
  have a4_2 : w2.cell? ⟨w.heap.size, 4, none⟩ = some (.slice ao1 L1.length ac1) := (by rw [b2.cell (by first | omega | (simp; done) | (simp; omega))]; go_cell)
  have a5_2 : w2.cell? ⟨w.heap.size, 5, none⟩ = some (.slice ao2 L2.length ac2) := (by rw [b2.cell (by first | omega | (simp; done) | (simp; omega))]; go_cell)
  have a6_2 : w2.cell? ⟨w.heap.size, 6, none⟩ = some (.slice ao3 L3.length ac3) := (by rw [b2.cell (by first | omega | (simp; done) | (simp; omega))]; go_cell)
  have a7_2 : w2.cell? ⟨w.heap.size, 7, none⟩ = some (.slice ao4 L4.length ac4) := (by rw [b2.cell (by first | omega | (simp; done) | (simp; omega))]; go_cell)
  have al_2 : w.heap.size < w2.heap.size := (by have := b2.size; first | omega | (revert this; simp; done) | (revert this; simp; omega))
  have b0_2 : w2.cell? ⟨w.heap.size + 1, 0, none⟩ = some (.int .i64 i0) := (by rw [b2.cell (by first | omega | (simp; done) | (simp; omega))]; go_cell)
  have b1_2 : w2.cell? ⟨w.heap.size + 1, 1, none⟩ = some (.int .i64 i1) := (by rw [b2.cell (by first | omega | (simp; done) | (simp; omega))]; go_cell)
  have b2_2 : w2.cell? ⟨w.heap.size + 1, 2, none⟩ = some (.int .i64 i2) := (by rw [b2.cell (by first | omega | (simp; done) | (simp; omega))]; go_cell)
  have b3_2 : w2.cell? ⟨w.heap.size + 1, 3, none⟩ = some (.slice bo0 L0.length bc0) := (by rw [b2.cell (by first | omega | (simp; done) | (simp; omega))]; go_cell)
  have b4_2 : w2.cell? ⟨w.heap.size + 1, 4, none⟩ = some (.slice bo1 L1.length bc1) := (by rw [b2.cell (by first | omega | (simp; done) | (simp; omega))]; go_cell)
  have b5_2 : w2.cell? ⟨w.heap.size + 1, 5, none⟩ = some (.slice bo2 L2.length bc2) := (by rw [b2.cell (by first | omega | (simp; done) | (simp; omega))]; go_cell)
  have b6_2 : w2.cell? ⟨w.heap.size + 1, 6, none⟩ = some (.slice bo3 L3.length bc3) := (by rw [b2.cell (by first | omega | (simp; done) | (simp; omega))]; go_cell)
  have b7_2 : w2.cell? ⟨w.heap.size + 1, 7, none⟩ = some (.slice bo4 L4.length bc4) := (by rw [b2.cell (by first | omega | (simp; done) | (simp; omega))]; go_cell)
  have bl_2 : w.heap.size + 1 < w2.heap.size := (by have := b2.size; first | omega | (revert this; simp; done) | (revert this; simp; omega))
  clear a0_1 a1_1 a2_1 a3_1 a4_1 a5_1 a6_1 a7_1 al_1 b0_1 b1_1 b2_1 b3_1 b4_1 b5_1 b6_1 b7_1 bl_1
  clear b2 d2
  go_wp2_with fail
  refine (eqDoneS_any _ _ L1 L1 _ (HA1.out.later c2) (HB1.out.later c2)).mono ?_
  rintro e w3 ⟨rfl, b3⟩
  rw [eqM_refl]
  have d3 : Below w2.heap.size w2 w3 := (Below.trans (by go_grown) (b3.mono (by first | omega | (simp; done) | (simp; omega))))
  have c3 : Below w.heap.size w w3 := c2.trans (d3.mono c2.size)
  have a0_3 : w3.cell? ⟨w.heap.size, 0, none⟩ = some (.int .i64 i0) := (by rw [b3.cell (by first | omega | (simp; done) | (simp; omega))]; go_cell)
  have a1_3 : w3.cell? ⟨w.heap.size, 1, none⟩ = some (.int .i64 i1) := (by rw [b3.cell (by first | omega | (simp; done) | (simp; omega))]; go_cell)
  have a2_3 : w3.cell? ⟨w.heap.size, 2, none⟩ = some (.int .i64 i2) := (by rw [b3.cell (by first | omega | (simp; done) | (simp; omega))]; go_cell)
  have a3_3 : w3.cell? ⟨w.heap.size, 3, none⟩ = some (.slice ao0 L0.length ac0) := (by rw [b3.cell (by first | omega | (simp; done) | (simp; omega))]; go_cell)
  have a4_3 : w3.cell? ⟨w.heap.size, 4, none⟩ = some (.slice ao1 L1.length ac1) := (by rw [b3.cell (by first | omega | (simp; done) | (simp; omega))]; go_cell)
  have a5_3 : w3.cell? ⟨w.heap.size, 5, none⟩ = some (.slice ao2 L2.length ac2) := (by rw [b3.cell (by first | omega | (simp; done) | (simp; omega))]; go_cell)
  have a6_3 : w3.cell? ⟨w.heap.size, 6, none⟩ = some (.slice ao3 L3.length ac3) := (by rw [b3.cell (by first | omega | (simp; done) | (simp; omega))]; go_cell)
  have a7_3 : w3.cell? ⟨w.heap.size, 7, none⟩ = some (.slice ao4 L4.length ac4) := (by rw [b3.cell (by first | omega | (simp; done) | (simp; omega))]; go_cell)
  have al_3 : w.heap.size < w3.heap.size := (by have := b3.size; first | omega | (revert this; simp; done) | (revert this; simp; omega))
  have b0_3 : w3.cell? ⟨w.heap.size + 1, 0, none⟩ = some (.int .i64 i0) := (by rw [b3.cell (by first | omega | (simp; done) | (simp; omega))]; go_cell)
  have b1_3 : w3.cell? ⟨w.heap.size + 1, 1, none⟩ = some (.int .i64 i1) := (by rw [b3.cell (by first | omega | (simp; done) | (simp; omega))]; go_cell)
  have b2_3 : w3.cell? ⟨w.heap.size + 1, 2, none⟩ = some (.int .i64 i2) := (by rw [b3.cell (by first | omega | (simp; done) | (simp; omega))]; go_cell)
  have b3_3 : w3.cell? ⟨w.heap.size + 1, 3, none⟩ = some (.slice bo0 L0.length bc0) := (by rw [b3.cell (by first | omega | (simp; done) | (simp; omega))]; go_cell)
  have b4_3 : w3.cell? ⟨w.heap.size + 1, 4, none⟩ = some (.slice bo1 L1.length bc1) := (by rw [b3.cell (by first | omega | (simp; done) | (simp; omega))]; go_cell)
  have b5_3 : w3.cell? ⟨w.heap.size + 1, 5, none⟩ = some (.slice bo2 L2.length bc2) := (by rw [b3.cell (by first | omega | (simp; done) | (simp; omega))]; go_cell)
  have b6_3 : w3.cell? ⟨w.heap.size + 1, 6, none⟩ = some (.slice bo3 L3.length bc3) := (by rw [b3.cell (by first | omega | (simp; done) | (simp; omega))]; go_cell)
  have b7_3 : w3.cell? ⟨w.heap.size + 1, 7, none⟩ = some (.slice bo4 L4.length bc4) := (by rw [b3.cell (by first | omega | (simp; done) | (simp; omega))]; go_cell)
  have bl_3 : w.heap.size + 1 < w3.heap.size := (by have := b3.size; first | omega | (revert this; simp; done) | (revert this; simp; omega))
  clear a0_2 a1_2 a2_2 a3_2 a4_2 a5_2 a6_2 a7_2 al_2 b0_2 b1_2 b2_2 b3_2 b4_2 b5_2 b6_2 b7_2 bl_2
  clear b3 d3
  go_wp2_with fail
  refine (eqIntentS_any _ _ L2 L2 _ (HA2.out.later c3) (HB2.out.later c3)).mono ?_
  rintro e w4 ⟨rfl, b4⟩
  rw [eqM_refl]
  have d4 : Below w3.heap.size w3 w4 := (Below.trans (by go_grown) (b4.mono (by first | omega | (simp; done) | (simp; omega))))
  have c4 : Below w.heap.size w w4 := c3.trans (d4.mono c3.size)
  have a0_4 : w4.cell? ⟨w.heap.size, 0, none⟩ = some (.int .i64 i0) := (by rw [b4.cell (by first | omega | (simp; done) | (simp; omega))]; go_cell)
  have a1_4 : w4.cell? ⟨w.heap.size, 1, none⟩ = some (.int .i64 i1) := (by rw [b4.cell (by first | omega | (simp; done) | (simp; omega))]; go_cell)
  have a2_4 : w4.cell? ⟨w.heap.size, 2, none⟩ = some (.int .i64 i2) := (by rw [b4.cell (by first | omega | (simp; done) | (simp; omega))]; go_cell)
  have a3_4 : w4.cell? ⟨w.heap.size, 3, none⟩ = some (.slice ao0 L0.length ac0) := (by rw [b4.cell (by first | omega | (simp; done) | (simp; omega))]; go_cell)
  have a4_4 : w4.cell? ⟨w.heap.size, 4, none⟩ = some (.slice ao1 L1.length ac1) := (by rw [b4.cell (by first | omega | (simp; done) | (simp; omega))]; go_cell)
  have a5_4 : w4.cell? ⟨w.heap.size, 5, none⟩ = some (.slice ao2 L2.length ac2) := (by rw [b4.cell (by first | omega | (simp; done) | (simp; omega))]; go_cell)
  have a6_4 : w4.cell? ⟨w.heap.size, 6, none⟩ = some (.slice ao3 L3.length ac3) := (by rw [b4.cell (by first | omega | (simp; done) | (simp; omega))]; go_cell)
  have a7_4 : w4.cell? ⟨w.heap.size, 7, none⟩ = some (.slice ao4 L4.length ac4) := (by rw [b4.cell (by first | omega | (simp; done) | (simp; omega))]; go_cell)
  have al_4 : w.heap.size < w4.heap.size := (by have := b4.size; first | omega | (revert this; simp; done) | (revert this; simp; omega))
  have b0_4 : w4.cell? ⟨w.heap.size + 1, 0, none⟩ = some (.int .i64 i0) := (by rw [b4.cell (by first | omega | (simp; done) | (simp; omega))]; go_cell)
  have b1_4 : w4.cell? ⟨w.heap.size + 1, 1, none⟩ = some (.int .i64 i1) := (by rw [b4.cell (by first | omega | (simp; done) | (simp; omega))]; go_cell)
  have b2_4 : w4.cell? ⟨w.heap.size + 1, 2, none⟩ = some (.int .i64 i2) := (by rw [b4.cell (by first | omega | (simp; done) | (simp; omega))]; go_cell)
  have b3_4 : w4.cell? ⟨w.heap.size + 1, 3, none⟩ = some (.slice bo0 L0.length bc0) := (by rw [b4.cell (by first | omega | (simp; done) | (simp; omega))]; go_cell)
  have b4_4 : w4.cell? ⟨w.heap.size + 1, 4, none⟩ = some (.slice bo1 L1.length bc1) := (by rw [b4.cell (by first | omega | (simp; done) | (simp; omega))]; go_cell)
  have b5_4 : w4.cell? ⟨w.heap.size + 1, 5, none⟩ = some (.slice bo2 L2.length bc2) := (by rw [b4.cell (by first | omega | (simp; done) | (simp; omega))]; go_cell)
  have b6_4 : w4.cell? ⟨w.heap.size + 1, 6, none⟩ = some (.slice bo3 L3.length bc3) := (by rw [b4.cell (by first | omega | (simp; done) | (simp; omega))]; go_cell)
  have b7_4 : w4.cell? ⟨w.heap.size + 1, 7, none⟩ = some (.slice bo4 L4.length bc4) := (by rw [b4.cell (by first | omega | (simp; done) | (simp; omega))]; go_cell)
  have bl_4 : w.heap.size + 1 < w4.heap.size := (by have := b4.size; first | omega | (revert this; simp; done) | (revert this; simp; omega))
  clear a0_3 a1_3 a2_3 a3_3 a4_3 a5_3 a6_3 a7_3 al_3 b0_3 b1_3 b2_3 b3_3 b4_3 b5_3 b6_3 b7_3 bl_3
  clear b4 d4
  go_wp2_with fail
  refine (eqSeenS_any _ _ L3 L3 _ (HA3.out.later c4) (HB3.out.later c4)).mono ?_
  rintro e w5 ⟨rfl, b5⟩
  rw [eqM_refl]
  have d5 : Below w4.heap.size w4 w5 := (Below.trans (by go_grown) (b5.mono (by first | omega | (simp; done) | (simp; omega))))
  have c5 : Below w.heap.size w w5 := c4.trans (d5.mono c4.size)
  have a0_5 : w5.cell? ⟨w.heap.size, 0, none⟩ = some (.int .i64 i0) := (by rw [b5.cell (by first | omega | (simp; done) | (simp; omega))]; go_cell)
  have a1_5 : w5.cell? ⟨w.heap.size, 1, none⟩ = some (.int .i64 i1) := (by rw [b5.cell (by first | omega | (simp; done) | (simp; omega))]; go_cell)
  have a2_5 : w5.cell? ⟨w.heap.size, 2, none⟩ = some (.int .i64 i2) := (by rw [b5.cell (by first | omega | (simp; done) | (simp; omega))]; go_cell)
  have a3_5 : w5.cell? ⟨w.heap.size, 3, none⟩ = some (.slice ao0 L0.length ac0) := (by rw [b5.cell (by first | omega | (simp; done) | (simp; omega))]; go_cell)
  have a4_5 : w5.cell? ⟨w.heap.size, 4, none⟩ = some (.slice ao1 L1.length ac1) := (by rw [b5.cell (by first | omega | (simp; done) | (simp; omega))]; go_cell)
  have a5_5 : w5.cell? ⟨w.heap.size, 5, none⟩ = some (.slice ao2 L2.length ac2) := (by rw [b5.cell (by first | omega | (simp; done) | (simp; omega))]; go_cell)
  have a6_5 : w5.cell? ⟨w.heap.size, 6, none⟩ = some (.slice ao3 L3.length ac3) := (by rw [b5.cell (by first | omega | (simp; done) | (simp; omega))]; go_cell)
  have a7_5 : w5.cell? ⟨w.heap.size, 7, none⟩ = some (.slice ao4 L4.length ac4) := (by rw [b5.cell (by first | omega | (simp; done) | (simp; omega))]; go_cell)
  have al_5 : w.heap.size < w5.heap.size := (by have := b5.size; first | omega | (revert this; simp; done) | (revert this; simp; omega))
  have b0_5 : w5.cell? ⟨w.heap.size + 1, 0, none⟩ = some (.int .i64 i0) := (by rw [b5.cell (by first | omega | (simp; done) | (simp; omega))]; go_cell)
  have b1_5 : w5.cell? ⟨w.heap.size + 1, 1, none⟩ = some (.int .i64 i1) := (by rw [b5.cell (by first | omega | (simp; done) | (simp; omega))]; go_cell)
  have b2_5 : w5.cell? ⟨w.heap.size + 1, 2, none⟩ = some (.int .i64 i2) := (by rw [b5.cell (by first | omega | (simp; done) | (simp; omega))]; go_cell)
  have b3_5 : w5.cell? ⟨w.heap.size + 1, 3, none⟩ = some (.slice bo0 L0.length bc0) := (by rw [b5.cell (by first | omega | (simp; done) | (simp; omega))]; go_cell)
  have b4_5 : w5.cell? ⟨w.heap.size + 1, 4, none⟩ = some (.slice bo1 L1.length bc1) := (by rw [b5.cell (by first | omega | (simp; done) | (simp; omega))]; go_cell)
  have b5_5 : w5.cell? ⟨w.heap.size + 1, 5, none⟩ = some (.slice bo2 L2.length bc2) := (by rw [b5.cell (by first | omega | (simp; done) | (simp; omega))]; go_cell)
  have b6_5 : w5.cell? ⟨w.heap.size + 1, 6, none⟩ = some (.slice bo3 L3.length bc3) := (by rw [b5.cell (by first | omega | (simp; done) | (simp; omega))]; go_cell)
  have b7_5 : w5.cell? ⟨w.heap.size + 1, 7, none⟩ = some (.slice bo4 L4.length bc4) := (by rw [b5.cell (by first | omega | (simp; done) | (simp; omega))]; go_cell)
  have bl_5 : w.heap.size + 1 < w5.heap.size := (by have := b5.size; first | omega | (revert this; simp; done) | (revert this; simp; omega))
  clear a0_4 a1_4 a2_4 a3_4 a4_4 a5_4 a6_4 a7_4 al_4 b0_4 b1_4 b2_4 b3_4 b4_4 b5_4 b6_4 b7_4 bl_4
  clear b5 d5
  go_wp2_with fail
  refine (eqCommitS_any _ _ L4 L4 _ (HA4.out.later c5) (HB4.out.later c5)).mono ?_
  rintro e w6 ⟨rfl, b6⟩
  rw [eqM_refl]
  have d6 : Below w5.heap.size w5 w6 := (Below.trans (by go_grown) (b6.mono (by first | omega | (simp; done) | (simp; omega))))
  have c6 : Below w.heap.size w w6 := c5.trans (d6.mono c5.size)
  have a0_6 : w6.cell? ⟨w.heap.size, 0, none⟩ = some (.int .i64 i0) := (by rw [b6.cell (by first | omega | (simp; done) | (simp; omega))]; go_cell)
  have a1_6 : w6.cell? ⟨w.heap.size, 1, none⟩ = some (.int .i64 i1) := (by rw [b6.cell (by first | omega | (simp; done) | (simp; omega))]; go_cell)
  have a2_6 : w6.cell? ⟨w.heap.size, 2, none⟩ = some (.int .i64 i2) := (by rw [b6.cell (by first | omega | (simp; done) | (simp; omega))]; go_cell)
  have a3_6 : w6.cell? ⟨w.heap.size, 3, none⟩ = some (.slice ao0 L0.length ac0) := (by rw [b6.cell (by first | omega | (simp; done) | (simp; omega))]; go_cell)
  have a4_6 : w6.cell? ⟨w.heap.size, 4, none⟩ = some (.slice ao1 L1.length ac1) := (by rw [b6.cell (by first | omega | (simp; done) | (simp; omega))]; go_cell)
  have a5_6 : w6.cell? ⟨w.heap.size, 5, none⟩ = some (.slice ao2 L2.length ac2) := (by rw [b6.cell (by first | omega | (simp; done) | (simp; omega))]; go_cell)
  have a6_6 : w6.cell? ⟨w.heap.size, 6, none⟩ = some (.slice ao3 L3.length ac3) := (by rw [b6.cell (by first | omega | (simp; done) | (simp; omega))]; go_cell)
  have a7_6 : w6.cell? ⟨w.heap.size, 7, none⟩ = some (.slice ao4 L4.length ac4) := (by rw [b6.cell (by first | omega | (simp; done) | (simp; omega))]; go_cell)
  have al_6 : w.heap.size < w6.heap.size := (by have := b6.size; first | omega | (revert this; simp; done) | (revert this; simp; omega))
  have b0_6 : w6.cell? ⟨w.heap.size + 1, 0, none⟩ = some (.int .i64 i0) := (by rw [b6.cell (by first | omega | (simp; done) | (simp; omega))]; go_cell)
  have b1_6 : w6.cell? ⟨w.heap.size + 1, 1, none⟩ = some (.int .i64 i1) := (by rw [b6.cell (by first | omega | (simp; done) | (simp; omega))]; go_cell)
  have b2_6 : w6.cell? ⟨w.heap.size + 1, 2, none⟩ = some (.int .i64 i2) := (by rw [b6.cell (by first | omega | (simp; done) | (simp; omega))]; go_cell)
  have b3_6 : w6.cell? ⟨w.heap.size + 1, 3, none⟩ = some (.slice bo0 L0.length bc0) := (by rw [b6.cell (by first | omega | (simp; done) | (simp; omega))]; go_cell)
  have b4_6 : w6.cell? ⟨w.heap.size + 1, 4, none⟩ = some (.slice bo1 L1.length bc1) := (by rw [b6.cell (by first | omega | (simp; done) | (simp; omega))]; go_cell)
  have b5_6 : w6.cell? ⟨w.heap.size + 1, 5, none⟩ = some (.slice bo2 L2.length bc2) := (by rw [b6.cell (by first | omega | (simp; done) | (simp; omega))]; go_cell)
  have b6_6 : w6.cell? ⟨w.heap.size + 1, 6, none⟩ = some (.slice bo3 L3.length bc3) := (by rw [b6.cell (by first | omega | (simp; done) | (simp; omega))]; go_cell)
  have b7_6 : w6.cell? ⟨w.heap.size + 1, 7, none⟩ = some (.slice bo4 L4.length bc4) := (by rw [b6.cell (by first | omega | (simp; done) | (simp; omega))]; go_cell)
  have bl_6 : w.heap.size + 1 < w6.heap.size := (by have := b6.size; first | omega | (revert this; simp; done) | (revert this; simp; omega))
  clear a0_5 a1_5 a2_5 a3_5 a4_5 a5_5 a6_5 a7_5 al_5 b0_5 b1_5 b2_5 b3_5 b4_5 b5_5 b6_5 b7_5 bl_5
  clear b6 d6
  go_wp2
  go_ret
  exact ⟨by simp, c6⟩

set_option maxRecDepth 100000 in
set_option maxHeartbeats 2000000 in
theorem szShard_all (i0 i1 i2 : Int) (a0 a1 a2 a3 a4 : Value) (L0 L1 L2 L3 L4 : List KD) (left : Int) (w : World) (ha0 : RdM 3 2 true w a0 L0) (ha1 : RdM 6 6 false w a1 L1) (ha2 : RdM 5 5 false w a2 L2) (ha3 : RdM 3 3 false w a3 L3) (ha4 : RdM 4 3 true w a4 L4) (h0 : 0 ≤ left) (h1 : left ≤ 1048576) :
    Calls Tryz.prog 4 #[.agg #[.int .i64 i0, .int .i64 i1, .int .i64 i2, a0, a1, a2, a3, a4], .int .i64 left] w fun e w' => SzD [L0, L1, L2, L3, L4] left e ∧ Below w.heap.size w w' := by
  have HA0 := hid ha0
  have HA1 := hid ha1
  have HA2 := hid ha2
  have HA3 := hid ha3
  have HA4 := hid ha4
  obtain ⟨ao0, ac0, hv, _⟩ := ha0
  subst hv
  obtain ⟨ao1, ac1, hv, _⟩ := ha1
  subst hv
  obtain ⟨ao2, ac2, hv, _⟩ := ha2
  subst hv
  obtain ⟨ao3, ac3, hv, _⟩ := ha3
  subst hv
  obtain ⟨ao4, ac4, hv, _⟩ := ha4
  subst hv
  go_enter Tryz.func4, Tryz.ntmps4
  go_wp2_with fail
  generalize hW1 : (w.alloc (.cells #[.int .i64 i0, .int .i64 i1, .int .i64 i2, .slice ao0 L0.length ac0, .slice ao1 L1.length ac1, .slice ao2 L2.length ac2, .slice ao3 L3.length ac3, .slice ao4 L4.length ac4] 28)) = w1
  have a0_1 : w1.cell? ⟨w.heap.size, 0, none⟩ = some (.int .i64 i0) := by subst hW1; go_cell
  have a1_1 : w1.cell? ⟨w.heap.size, 1, none⟩ = some (.int .i64 i1) := by subst hW1; go_cell
  have a2_1 : w1.cell? ⟨w.heap.size, 2, none⟩ = some (.int .i64 i2) := by subst hW1; go_cell
  have a3_1 : w1.cell? ⟨w.heap.size, 3, none⟩ = some (.slice ao0 L0.length ac0) := by subst hW1; go_cell
  have a4_1 : w1.cell? ⟨w.heap.size, 4, none⟩ = some (.slice ao1 L1.length ac1) := by subst hW1; go_cell
  have a5_1 : w1.cell? ⟨w.heap.size, 5, none⟩ = some (.slice ao2 L2.length ac2) := by subst hW1; go_cell
  have a6_1 : w1.cell? ⟨w.heap.size, 6, none⟩ = some (.slice ao3 L3.length ac3) := by subst hW1; go_cell
  have a7_1 : w1.cell? ⟨w.heap.size, 7, none⟩ = some (.slice ao4 L4.length ac4) := by subst hW1; go_cell
  have al_1 : w.heap.size < w1.heap.size := by subst hW1; first | (simp; done) | (simp; omega)
  have c1 : Below w.heap.size w w1 := by subst hW1; go_grown
  have s1 : w1.heap.size = w.heap.size + 1 := by subst hW1; simp
  clear hW1
  have qa0_1 := cell_regrown a0_1
  have qa1_1 := cell_regrown a1_1
  have qa2_1 := cell_regrown a2_1
  have qa3_1 := cell_regrown a3_1
  have qa4_1 := cell_regrown a4_1
  have qa5_1 := cell_regrown a5_1
  have qa6_1 := cell_regrown a6_1
  have qa7_1 := cell_regrown a7_1
  refine (szRowS_any _ L0 left _ (HA0.out.later c1) (by omega) (by omega)).mono ?_
  rintro e w2 ⟨hs, b2⟩
  have d2 : Below w1.heap.size w1 w2 := (Below.trans (by go_grown) (b2.mono (by first | omega | (simp; done) | (simp; omega))))
  have c2 : Below w.heap.size w w2 := c1.trans (d2.mono c1.size)
  have a0_2 : w2.cell? ⟨w.heap.size, 0, none⟩ = some (.int .i64 i0) := (by rw [b2.cell (by first | omega | (simp; done) | (simp; omega))]; go_cell)
  have a1_2 : w2.cell? ⟨w.heap.size, 1, none⟩ = some (.int .i64 i1) := (by rw [b2.cell (by first | omega | (simp; done) | (simp; omega))]; go_cell)
  have a2_2 : w2.cell? ⟨w.heap.size, 2, none⟩ = some (.int .i64 i2) := (by rw [b2.cell (by first | omega | (simp; done) | (simp; omega))]; go_cell)
  have a3_2 : w2.cell? ⟨w.heap.size, 3, none⟩ = some (.slice ao0 L0.length ac0) := (by rw [b2.cell (by first | omega | (simp; done) | (simp; omega))]; go_cell)
  have a4_2 : w2.cell? ⟨w.heap.size, 4, none⟩ = some (.slice ao1 L1.length ac1) := (by rw [b2.cell (by first | omega | (simp; done) | (simp; omega))]; go_cell)
  have a5_2 : w2.cell? ⟨w.heap.size, 5, none⟩ = some (.slice ao2 L2.length ac2) := (by rw [b2.cell (by first | omega | (simp; done) | (simp; omega))]; go_cell)
  have a6_2 : w2.cell? ⟨w.heap.size, 6, none⟩ = some (.slice ao3 L3.length ac3) := (by rw [b2.cell (by first | omega | (simp; done) | (simp; omega))]; go_cell)
  have a7_2 : w2.cell? ⟨w.heap.size, 7, none⟩ = some (.slice ao4 L4.length ac4) := (by rw [b2.cell (by first | omega | (simp; done) | (simp; omega))]; go_cell)
  have al_2 : w.heap.size < w2.heap.size := (by have := b2.size; first | omega | (revert this; simp; done) | (revert this; simp; omega))
  clear a0_1 a1_1 a2_1 a3_1 a4_1 a5_1 a6_1 a7_1 al_1
  clear b2 d2
  rcases hs with ⟨rfl, hs⟩ | ⟨rfl, hs⟩
  · have HS0 := hid (show L0.length + bulkM L0 ≤ 1048576 by omega)
    have hn0 : ¬ (left - (L0.length : Int) - (bulkM L0 : Int) < 0) := by omega
    have hn0' : left - (L0.length : Int) - (bulkM L0 : Int) ≤ 1048576 := by omega
    have hle0 : left - (L0.length : Int) - (bulkM L0 : Int) ≤ left := by omega
    obtain ⟨r0, hr0⟩ : ∃ r : Int, left - (L0.length : Int) - (bulkM L0 : Int) = r := ⟨_, rfl⟩
    rw [hr0] at hn0 hn0' hle0 ⊢
    clear hr0 hs
    go_wp2_with fail
    refine (szDoneS_any _ L1 r0 _ (HA1.out.later c2) (by omega) (by omega)).mono ?_
    rintro e w3 ⟨hs, b3⟩
    have d3 : Below w2.heap.size w2 w3 := (Below.trans (by go_grown) (b3.mono (by first | omega | (simp; done) | (simp; omega))))
    have c3 : Below w.heap.size w w3 := c2.trans (d3.mono c2.size)
    have a0_3 : w3.cell? ⟨w.heap.size, 0, none⟩ = some (.int .i64 i0) := (by rw [b3.cell (by first | omega | (simp; done) | (simp; omega))]; go_cell)
    have a1_3 : w3.cell? ⟨w.heap.size, 1, none⟩ = some (.int .i64 i1) := (by rw [b3.cell (by first | omega | (simp; done) | (simp; omega))]; go_cell)
    have a2_3 : w3.cell? ⟨w.heap.size, 2, none⟩ = some (.int .i64 i2) := (by rw [b3.cell (by first | omega | (simp; done) | (simp; omega))]; go_cell)
    have a3_3 : w3.cell? ⟨w.heap.size, 3, none⟩ = some (.slice ao0 L0.length ac0) := (by rw [b3.cell (by first | omega | (simp; done) | (simp; omega))]; go_cell)
    have a4_3 : w3.cell? ⟨w.heap.size, 4, none⟩ = some (.slice ao1 L1.length ac1) := (by rw [b3.cell (by first | omega | (simp; done) | (simp; omega))]; go_cell)
    have a5_3 : w3.cell? ⟨w.heap.size, 5, none⟩ = some (.slice ao2 L2.length ac2) := (by rw [b3.cell (by first | omega | (simp; done) | (simp; omega))]; go_cell)
    have a6_3 : w3.cell? ⟨w.heap.size, 6, none⟩ = some (.slice ao3 L3.length ac3) := (by rw [b3.cell (by first | omega | (simp; done) | (simp; omega))]; go_cell)
    have a7_3 : w3.cell? ⟨w.heap.size, 7, none⟩ = some (.slice ao4 L4.length ac4) := (by rw [b3.cell (by first | omega | (simp; done) | (simp; omega))]; go_cell)
    have al_3 : w.heap.size < w3.heap.size := (by have := b3.size; first | omega | (revert this; simp; done) | (revert this; simp; omega))
    clear a0_2 a1_2 a2_2 a3_2 a4_2 a5_2 a6_2 a7_2 al_2
    clear b3 d3
    rcases hs with ⟨rfl, hs⟩ | ⟨rfl, hs⟩
    · have HS1 := hid (show L1.length + bulkM L1 ≤ 1048576 by omega)
      have hn1 : ¬ (r0 - (L1.length : Int) - (bulkM L1 : Int) < 0) := by omega
      have hn1' : r0 - (L1.length : Int) - (bulkM L1 : Int) ≤ 1048576 := by omega
      have hle1 : r0 - (L1.length : Int) - (bulkM L1 : Int) ≤ left := by omega
      obtain ⟨r1, hr1⟩ : ∃ r : Int, r0 - (L1.length : Int) - (bulkM L1 : Int) = r := ⟨_, rfl⟩
      rw [hr1] at hn1 hn1' hle1 ⊢
      clear hr1 hs
      go_wp2_with fail
      refine (szIntentS_any _ L2 r1 _ (HA2.out.later c3) (by omega) (by omega)).mono ?_
      rintro e w4 ⟨hs, b4⟩
      have d4 : Below w3.heap.size w3 w4 := (Below.trans (by go_grown) (b4.mono (by first | omega | (simp; done) | (simp; omega))))
      have c4 : Below w.heap.size w w4 := c3.trans (d4.mono c3.size)
      have a0_4 : w4.cell? ⟨w.heap.size, 0, none⟩ = some (.int .i64 i0) := (by rw [b4.cell (by first | omega | (simp; done) | (simp; omega))]; go_cell)
      have a1_4 : w4.cell? ⟨w.heap.size, 1, none⟩ = some (.int .i64 i1) := (by rw [b4.cell (by first | omega | (simp; done) | (simp; omega))]; go_cell)
      have a2_4 : w4.cell? ⟨w.heap.size, 2, none⟩ = some (.int .i64 i2) := (by rw [b4.cell (by first | omega | (simp; done) | (simp; omega))]; go_cell)
      have a3_4 : w4.cell? ⟨w.heap.size, 3, none⟩ = some (.slice ao0 L0.length ac0) := (by rw [b4.cell (by first | omega | (simp; done) | (simp; omega))]; go_cell)
      have a4_4 : w4.cell? ⟨w.heap.size, 4, none⟩ = some (.slice ao1 L1.length ac1) := (by rw [b4.cell (by first | omega | (simp; done) | (simp; omega))]; go_cell)
      have a5_4 : w4.cell? ⟨w.heap.size, 5, none⟩ = some (.slice ao2 L2.length ac2) := (by rw [b4.cell (by first | omega | (simp; done) | (simp; omega))]; go_cell)
      have a6_4 : w4.cell? ⟨w.heap.size, 6, none⟩ = some (.slice ao3 L3.length ac3) := (by rw [b4.cell (by first | omega | (simp; done) | (simp; omega))]; go_cell)
      have a7_4 : w4.cell? ⟨w.heap.size, 7, none⟩ = some (.slice ao4 L4.length ac4) := (by rw [b4.cell (by first | omega | (simp; done) | (simp; omega))]; go_cell)
      have al_4 : w.heap.size < w4.heap.size := (by have := b4.size; first | omega | (revert this; simp; done) | (revert this; simp; omega))
      clear a0_3 a1_3 a2_3 a3_3 a4_3 a5_3 a6_3 a7_3 al_3
      clear b4 d4
      rcases hs with ⟨rfl, hs⟩ | ⟨rfl, hs⟩
      · have HS2 := hid (show L2.length + bulkM L2 ≤ 1048576 by omega)
        have hn2 : ¬ (r1 - (L2.length : Int) - (bulkM L2 : Int) < 0) := by omega
        have hn2' : r1 - (L2.length : Int) - (bulkM L2 : Int) ≤ 1048576 := by omega
        have hle2 : r1 - (L2.length : Int) - (bulkM L2 : Int) ≤ left := by omega
        obtain ⟨r2, hr2⟩ : ∃ r : Int, r1 - (L2.length : Int) - (bulkM L2 : Int) = r := ⟨_, rfl⟩
        rw [hr2] at hn2 hn2' hle2 ⊢
        clear hr2 hs
        go_wp2_with fail
        refine (szSeenS_any _ L3 r2 _ (HA3.out.later c4) (by omega) (by omega)).mono ?_
        rintro e w5 ⟨hs, b5⟩
        have d5 : Below w4.heap.size w4 w5 := (Below.trans (by go_grown) (b5.mono (by first | omega | (simp; done) | (simp; omega))))
        have c5 : Below w.heap.size w w5 := c4.trans (d5.mono c4.size)
        have a0_5 : w5.cell? ⟨w.heap.size, 0, none⟩ = some (.int .i64 i0) := (by rw [b5.cell (by first | omega | (simp; done) | (simp; omega))]; go_cell)
        have a1_5 : w5.cell? ⟨w.heap.size, 1, none⟩ = some (.int .i64 i1) := (by rw [b5.cell (by first | omega | (simp; done) | (simp; omega))]; go_cell)
        have a2_5 : w5.cell? ⟨w.heap.size, 2, none⟩ = some (.int .i64 i2) := (by rw [b5.cell (by first | omega | (simp; done) | (simp; omega))]; go_cell)
        have a3_5 : w5.cell? ⟨w.heap.size, 3, none⟩ = some (.slice ao0 L0.length ac0) := (by rw [b5.cell (by first | omega | (simp; done) | (simp; omega))]; go_cell)
        have a4_5 : w5.cell? ⟨w.heap.size, 4, none⟩ = some (.slice ao1 L1.length ac1) := (by rw [b5.cell (by first | omega | (simp; done) | (simp; omega))]; go_cell)
        have a5_5 : w5.cell? ⟨w.heap.size, 5, none⟩ = some (.slice ao2 L2.length ac2) := (by rw [b5.cell (by first | omega | (simp; done) | (simp; omega))]; go_cell)
        have a6_5 : w5.cell? ⟨w.heap.size, 6, none⟩ = some (.slice ao3 L3.length ac3) := (by rw [b5.cell (by first | omega | (simp; done) | (simp; omega))]; go_cell)
        have a7_5 : w5.cell? ⟨w.heap.size, 7, none⟩ = some (.slice ao4 L4.length ac4) := (by rw [b5.cell (by first | omega | (simp; done) | (simp; omega))]; go_cell)
        have al_5 : w.heap.size < w5.heap.size := (by have := b5.size; first | omega | (revert this; simp; done) | (revert this; simp; omega))
        clear a0_4 a1_4 a2_4 a3_4 a4_4 a5_4 a6_4 a7_4 al_4
        clear b5 d5
        rcases hs with ⟨rfl, hs⟩ | ⟨rfl, hs⟩
        · have HS3 := hid (show L3.length + bulkM L3 ≤ 1048576 by omega)
          have hn3 : ¬ (r2 - (L3.length : Int) - (bulkM L3 : Int) < 0) := by omega
          have hn3' : r2 - (L3.length : Int) - (bulkM L3 : Int) ≤ 1048576 := by omega
          have hle3 : r2 - (L3.length : Int) - (bulkM L3 : Int) ≤ left := by omega
          obtain ⟨r3, hr3⟩ : ∃ r : Int, r2 - (L3.length : Int) - (bulkM L3 : Int) = r := ⟨_, rfl⟩
          rw [hr3] at hn3 hn3' hle3 ⊢
          clear hr3 hs
          go_wp2_with fail
          refine (szCommitS_any _ L4 r3 _ (HA4.out.later c5) (by omega) (by omega)).mono ?_
          rintro e w6 ⟨hs, b6⟩
          have d6 : Below w5.heap.size w5 w6 := (Below.trans (by go_grown) (b6.mono (by first | omega | (simp; done) | (simp; omega))))
          have c6 : Below w.heap.size w w6 := c5.trans (d6.mono c5.size)
          have a0_6 : w6.cell? ⟨w.heap.size, 0, none⟩ = some (.int .i64 i0) := (by rw [b6.cell (by first | omega | (simp; done) | (simp; omega))]; go_cell)
          have a1_6 : w6.cell? ⟨w.heap.size, 1, none⟩ = some (.int .i64 i1) := (by rw [b6.cell (by first | omega | (simp; done) | (simp; omega))]; go_cell)
          have a2_6 : w6.cell? ⟨w.heap.size, 2, none⟩ = some (.int .i64 i2) := (by rw [b6.cell (by first | omega | (simp; done) | (simp; omega))]; go_cell)
          have a3_6 : w6.cell? ⟨w.heap.size, 3, none⟩ = some (.slice ao0 L0.length ac0) := (by rw [b6.cell (by first | omega | (simp; done) | (simp; omega))]; go_cell)
          have a4_6 : w6.cell? ⟨w.heap.size, 4, none⟩ = some (.slice ao1 L1.length ac1) := (by rw [b6.cell (by first | omega | (simp; done) | (simp; omega))]; go_cell)
          have a5_6 : w6.cell? ⟨w.heap.size, 5, none⟩ = some (.slice ao2 L2.length ac2) := (by rw [b6.cell (by first | omega | (simp; done) | (simp; omega))]; go_cell)
          have a6_6 : w6.cell? ⟨w.heap.size, 6, none⟩ = some (.slice ao3 L3.length ac3) := (by rw [b6.cell (by first | omega | (simp; done) | (simp; omega))]; go_cell)
          have a7_6 : w6.cell? ⟨w.heap.size, 7, none⟩ = some (.slice ao4 L4.length ac4) := (by rw [b6.cell (by first | omega | (simp; done) | (simp; omega))]; go_cell)
          have al_6 : w.heap.size < w6.heap.size := (by have := b6.size; first | omega | (revert this; simp; done) | (revert this; simp; omega))
          clear a0_5 a1_5 a2_5 a3_5 a4_5 a5_5 a6_5 a7_5 al_5
          clear b6 d6
          rcases hs with ⟨rfl, hs⟩ | ⟨rfl, hs⟩
          · have HS4 := hid (show L4.length + bulkM L4 ≤ 1048576 by omega)
            have hn4 : ¬ (r3 - (L4.length : Int) - (bulkM L4 : Int) < 0) := by omega
            have hn4' : r3 - (L4.length : Int) - (bulkM L4 : Int) ≤ 1048576 := by omega
            have hle4 : r3 - (L4.length : Int) - (bulkM L4 : Int) ≤ left := by omega
            obtain ⟨r4, hr4⟩ : ∃ r : Int, r3 - (L4.length : Int) - (bulkM L4 : Int) = r := ⟨_, rfl⟩
            rw [hr4] at hn4 hn4' hle4 ⊢
            clear hr4 hs
            go_wp2
            go_ret
            exact ⟨Or.inl ⟨r4, by simp, by omega, hle4, fun L hL => by
              simp only [List.mem_cons, List.not_mem_nil, or_false] at hL
              rcases hL with rfl | rfl | rfl | rfl | rfl
              · exact HS0.out
              · exact HS1.out
              · exact HS2.out
              · exact HS3.out
              · exact HS4.out⟩, c6⟩
          · clear hs
            go_wp2
            go_ret
            exact ⟨Or.inr (by simp), c6⟩
        · clear hs
          go_wp2
          go_ret
          exact ⟨Or.inr (by simp), c5⟩
      · clear hs
        go_wp2
        go_ret
        exact ⟨Or.inr (by simp), c4⟩
    · clear hs
      go_wp2
      go_ret
      exact ⟨Or.inr (by simp), c3⟩
  · clear hs
    go_wp2
    go_ret
    exact ⟨Or.inr (by simp), c2⟩

def ToShard (w w' : World) (i0 i1 i2 : Int) (L0 L1 L2 L3 L4 : List KD) (e : Ending) : Prop :=
  ∃ (v0 v1 v2 v3 v4 : Value) (B1 B2 B3 B4 : Nat), e = .returned (.agg #[.int .i64 i0, .int .i64 i1, .int .i64 i2, v0, v1, v2, v3, v4]) ∧ OwnM 86 3 2 true w' (Span w.heap.size B1) v0 L0 ∧ OwnM 91 6 6 false w' (Span B1 B2) v1 L1 ∧ OwnM 99 5 5 false w' (Span B2 B3) v2 L2 ∧ OwnM 105 3 3 false w' (Span B3 B4) v3 L3 ∧ OwnM 64 4 3 true w' (Span B4 w'.heap.size) v4 L4 ∧ w.heap.size ≤ B1 ∧ B1 ≤ B2 ∧ B2 ≤ B3 ∧ B3 ≤ B4 ∧ B4 ≤ w'.heap.size
set_option maxRecDepth 100000 in
set_option maxHeartbeats 4000000 in
theorem toShard_own (i0 i1 i2 : Int) (a0 a1 a2 a3 a4 : Value) (L0 L1 L2 L3 L4 : List KD) (w : World) (ha0 : RdM 3 2 true w a0 L0) (ha1 : RdM 6 6 false w a1 L1) (ha2 : RdM 5 5 false w a2 L2) (ha3 : RdM 3 3 false w a3 L3) (ha4 : RdM 4 3 true w a4 L4) (hl0 : L0.length ≤ 1048576) (hl1 : L1.length ≤ 1048576) (hl2 : L2.length ≤ 1048576) (hl3 : L3.length ≤ 1048576) (hl4 : L4.length ≤ 1048576) (hk0 : ∀ i, i < L0.length → (L0.getD i kd0).2.length ≤ 1048576) (hk4 : ∀ i, i < L4.length → (L4.getD i kd0).2.length ≤ 1048576) :
    Calls Tryz.prog 7 #[.agg #[.int .i64 i0, .int .i64 i1, .int .i64 i2, a0, a1, a2, a3, a4]] w fun e w' => ToShard w w' i0 i1 i2 L0 L1 L2 L3 L4 e ∧ Below w.heap.size w w' := by
  have HA0 := hid ha0
  have HK0 := hid hk0
  clear hk0
  have HA1 := hid ha1
  have HA2 := hid ha2
  have HA3 := hid ha3
  have HA4 := hid ha4
  have HK4 := hid hk4
  clear hk4
  obtain ⟨ao0, ac0, hv, _⟩ := ha0
  subst hv
  obtain ⟨ao1, ac1, hv, _⟩ := ha1
  subst hv
  obtain ⟨ao2, ac2, hv, _⟩ := ha2
  subst hv
  obtain ⟨ao3, ac3, hv, _⟩ := ha3
  subst hv
  obtain ⟨ao4, ac4, hv, _⟩ := ha4
  subst hv
  go_enter Tryz.func7, Tryz.ntmps7
  go_wp2_with fail
  have a0_1 : (((w.alloc (.cells #[.int .i64 i0, .int .i64 i1, .int .i64 i2, .slice ao0 L0.length ac0, .slice ao1 L1.length ac1, .slice ao2 L2.length ac2, .slice ao3 L3.length ac3, .slice ao4 L4.length ac4] 28)).alloc (.cells #[.int .i64 0, .int .i64 0, .int .i64 0, .slice none 0 0, .slice none 0 0, .slice none 0 0, .slice none 0 0, .slice none 0 0] 43)).alloc (.cells #[.int .i64 i0, .int .i64 i1, .int .i64 i2, .slice none 0 0, .slice none 0 0, .slice none 0 0, .slice none 0 0, .slice none 0 0] 43)).cell? ⟨w.heap.size, 0, none⟩ = some (.int .i64 i0) := by go_cell
  have a1_1 : (((w.alloc (.cells #[.int .i64 i0, .int .i64 i1, .int .i64 i2, .slice ao0 L0.length ac0, .slice ao1 L1.length ac1, .slice ao2 L2.length ac2, .slice ao3 L3.length ac3, .slice ao4 L4.length ac4] 28)).alloc (.cells #[.int .i64 0, .int .i64 0, .int .i64 0, .slice none 0 0, .slice none 0 0, .slice none 0 0, .slice none 0 0, .slice none 0 0] 43)).alloc (.cells #[.int .i64 i0, .int .i64 i1, .int .i64 i2, .slice none 0 0, .slice none 0 0, .slice none 0 0, .slice none 0 0, .slice none 0 0] 43)).cell? ⟨w.heap.size, 1, none⟩ = some (.int .i64 i1) := by go_cell
  have a2_1 : (((w.alloc (.cells #[.int .i64 i0, .int .i64 i1, .int .i64 i2, .slice ao0 L0.length ac0, .slice ao1 L1.length ac1, .slice ao2 L2.length ac2, .slice ao3 L3.length ac3, .slice ao4 L4.length ac4] 28)).alloc (.cells #[.int .i64 0, .int .i64 0, .int .i64 0, .slice none 0 0, .slice none 0 0, .slice none 0 0, .slice none 0 0, .slice none 0 0] 43)).alloc (.cells #[.int .i64 i0, .int .i64 i1, .int .i64 i2, .slice none 0 0, .slice none 0 0, .slice none 0 0, .slice none 0 0, .slice none 0 0] 43)).cell? ⟨w.heap.size, 2, none⟩ = some (.int .i64 i2) := by go_cell
  have a3_1 : (((w.alloc (.cells #[.int .i64 i0, .int .i64 i1, .int .i64 i2, .slice ao0 L0.length ac0, .slice ao1 L1.length ac1, .slice ao2 L2.length ac2, .slice ao3 L3.length ac3, .slice ao4 L4.length ac4] 28)).alloc (.cells #[.int .i64 0, .int .i64 0, .int .i64 0, .slice none 0 0, .slice none 0 0, .slice none 0 0, .slice none 0 0, .slice none 0 0] 43)).alloc (.cells #[.int .i64 i0, .int .i64 i1, .int .i64 i2, .slice none 0 0, .slice none 0 0, .slice none 0 0, .slice none 0 0, .slice none 0 0] 43)).cell? ⟨w.heap.size, 3, none⟩ = some (.slice ao0 L0.length ac0) := by go_cell
  have a4_1 : (((w.alloc (.cells #[.int .i64 i0, .int .i64 i1, .int .i64 i2, .slice ao0 L0.length ac0, .slice ao1 L1.length ac1, .slice ao2 L2.length ac2, .slice ao3 L3.length ac3, .slice ao4 L4.length ac4] 28)).alloc (.cells #[.int .i64 0, .int .i64 0, .int .i64 0, .slice none 0 0, .slice none 0 0, .slice none 0 0, .slice none 0 0, .slice none 0 0] 43)).alloc (.cells #[.int .i64 i0, .int .i64 i1, .int .i64 i2, .slice none 0 0, .slice none 0 0, .slice none 0 0, .slice none 0 0, .slice none 0 0] 43)).cell? ⟨w.heap.size, 4, none⟩ = some (.slice ao1 L1.length ac1) := by go_cell
  have a5_1 : (((w.alloc (.cells #[.int .i64 i0, .int .i64 i1, .int .i64 i2, .slice ao0 L0.length ac0, .slice ao1 L1.length ac1, .slice ao2 L2.length ac2, .slice ao3 L3.length ac3, .slice ao4 L4.length ac4] 28)).alloc (.cells #[.int .i64 0, .int .i64 0, .int .i64 0, .slice none 0 0, .slice none 0 0, .slice none 0 0, .slice none 0 0, .slice none 0 0] 43)).alloc (.cells #[.int .i64 i0, .int .i64 i1, .int .i64 i2, .slice none 0 0, .slice none 0 0, .slice none 0 0, .slice none 0 0, .slice none 0 0] 43)).cell? ⟨w.heap.size, 5, none⟩ = some (.slice ao2 L2.length ac2) := by go_cell
  have a6_1 : (((w.alloc (.cells #[.int .i64 i0, .int .i64 i1, .int .i64 i2, .slice ao0 L0.length ac0, .slice ao1 L1.length ac1, .slice ao2 L2.length ac2, .slice ao3 L3.length ac3, .slice ao4 L4.length ac4] 28)).alloc (.cells #[.int .i64 0, .int .i64 0, .int .i64 0, .slice none 0 0, .slice none 0 0, .slice none 0 0, .slice none 0 0, .slice none 0 0] 43)).alloc (.cells #[.int .i64 i0, .int .i64 i1, .int .i64 i2, .slice none 0 0, .slice none 0 0, .slice none 0 0, .slice none 0 0, .slice none 0 0] 43)).cell? ⟨w.heap.size, 6, none⟩ = some (.slice ao3 L3.length ac3) := by go_cell
  have a7_1 : (((w.alloc (.cells #[.int .i64 i0, .int .i64 i1, .int .i64 i2, .slice ao0 L0.length ac0, .slice ao1 L1.length ac1, .slice ao2 L2.length ac2, .slice ao3 L3.length ac3, .slice ao4 L4.length ac4] 28)).alloc (.cells #[.int .i64 0, .int .i64 0, .int .i64 0, .slice none 0 0, .slice none 0 0, .slice none 0 0, .slice none 0 0, .slice none 0 0] 43)).alloc (.cells #[.int .i64 i0, .int .i64 i1, .int .i64 i2, .slice none 0 0, .slice none 0 0, .slice none 0 0, .slice none 0 0, .slice none 0 0] 43)).cell? ⟨w.heap.size, 7, none⟩ = some (.slice ao4 L4.length ac4) := by go_cell
  have r0_1 : (((w.alloc (.cells #[.int .i64 i0, .int .i64 i1, .int .i64 i2, .slice ao0 L0.length ac0, .slice ao1 L1.length ac1, .slice ao2 L2.length ac2, .slice ao3 L3.length ac3, .slice ao4 L4.length ac4] 28)).alloc (.cells #[.int .i64 0, .int .i64 0, .int .i64 0, .slice none 0 0, .slice none 0 0, .slice none 0 0, .slice none 0 0, .slice none 0 0] 43)).alloc (.cells #[.int .i64 i0, .int .i64 i1, .int .i64 i2, .slice none 0 0, .slice none 0 0, .slice none 0 0, .slice none 0 0, .slice none 0 0] 43)).cell? ⟨w.heap.size + 1, 0, none⟩ = some (.int .i64 0) := by go_cell
  have rf0_1 : (((w.alloc (.cells #[.int .i64 i0, .int .i64 i1, .int .i64 i2, .slice ao0 L0.length ac0, .slice ao1 L1.length ac1, .slice ao2 L2.length ac2, .slice ao3 L3.length ac3, .slice ao4 L4.length ac4] 28)).alloc (.cells #[.int .i64 0, .int .i64 0, .int .i64 0, .slice none 0 0, .slice none 0 0, .slice none 0 0, .slice none 0 0, .slice none 0 0] 43)).alloc (.cells #[.int .i64 i0, .int .i64 i1, .int .i64 i2, .slice none 0 0, .slice none 0 0, .slice none 0 0, .slice none 0 0, .slice none 0 0] 43)).frozen? ⟨w.heap.size + 1, 0, none⟩ = false := by (first | go_cell | (simp [World.frozen?, World.alloc]; done) | rfl)
  have r1_1 : (((w.alloc (.cells #[.int .i64 i0, .int .i64 i1, .int .i64 i2, .slice ao0 L0.length ac0, .slice ao1 L1.length ac1, .slice ao2 L2.length ac2, .slice ao3 L3.length ac3, .slice ao4 L4.length ac4] 28)).alloc (.cells #[.int .i64 0, .int .i64 0, .int .i64 0, .slice none 0 0, .slice none 0 0, .slice none 0 0, .slice none 0 0, .slice none 0 0] 43)).alloc (.cells #[.int .i64 i0, .int .i64 i1, .int .i64 i2, .slice none 0 0, .slice none 0 0, .slice none 0 0, .slice none 0 0, .slice none 0 0] 43)).cell? ⟨w.heap.size + 1, 1, none⟩ = some (.int .i64 0) := by go_cell
  have rf1_1 : (((w.alloc (.cells #[.int .i64 i0, .int .i64 i1, .int .i64 i2, .slice ao0 L0.length ac0, .slice ao1 L1.length ac1, .slice ao2 L2.length ac2, .slice ao3 L3.length ac3, .slice ao4 L4.length ac4] 28)).alloc (.cells #[.int .i64 0, .int .i64 0, .int .i64 0, .slice none 0 0, .slice none 0 0, .slice none 0 0, .slice none 0 0, .slice none 0 0] 43)).alloc (.cells #[.int .i64 i0, .int .i64 i1, .int .i64 i2, .slice none 0 0, .slice none 0 0, .slice none 0 0, .slice none 0 0, .slice none 0 0] 43)).frozen? ⟨w.heap.size + 1, 1, none⟩ = false := by (first | go_cell | (simp [World.frozen?, World.alloc]; done) | rfl)
  have r2_1 : (((w.alloc (.cells #[.int .i64 i0, .int .i64 i1, .int .i64 i2, .slice ao0 L0.length ac0, .slice ao1 L1.length ac1, .slice ao2 L2.length ac2, .slice ao3 L3.length ac3, .slice ao4 L4.length ac4] 28)).alloc (.cells #[.int .i64 0, .int .i64 0, .int .i64 0, .slice none 0 0, .slice none 0 0, .slice none 0 0, .slice none 0 0, .slice none 0 0] 43)).alloc (.cells #[.int .i64 i0, .int .i64 i1, .int .i64 i2, .slice none 0 0, .slice none 0 0, .slice none 0 0, .slice none 0 0, .slice none 0 0] 43)).cell? ⟨w.heap.size + 1, 2, none⟩ = some (.int .i64 0) := by go_cell
  have rf2_1 : (((w.alloc (.cells #[.int .i64 i0, .int .i64 i1, .int .i64 i2, .slice ao0 L0.length ac0, .slice ao1 L1.length ac1, .slice ao2 L2.length ac2, .slice ao3 L3.length ac3, .slice ao4 L4.length ac4] 28)).alloc (.cells #[.int .i64 0, .int .i64 0, .int .i64 0, .slice none 0 0, .slice none 0 0, .slice none 0 0, .slice none 0 0, .slice none 0 0] 43)).alloc (.cells #[.int .i64 i0, .int .i64 i1, .int .i64 i2, .slice none 0 0, .slice none 0 0, .slice none 0 0, .slice none 0 0, .slice none 0 0] 43)).frozen? ⟨w.heap.size + 1, 2, none⟩ = false := by (first | go_cell | (simp [World.frozen?, World.alloc]; done) | rfl)
  have r3_1 : (((w.alloc (.cells #[.int .i64 i0, .int .i64 i1, .int .i64 i2, .slice ao0 L0.length ac0, .slice ao1 L1.length ac1, .slice ao2 L2.length ac2, .slice ao3 L3.length ac3, .slice ao4 L4.length ac4] 28)).alloc (.cells #[.int .i64 0, .int .i64 0, .int .i64 0, .slice none 0 0, .slice none 0 0, .slice none 0 0, .slice none 0 0, .slice none 0 0] 43)).alloc (.cells #[.int .i64 i0, .int .i64 i1, .int .i64 i2, .slice none 0 0, .slice none 0 0, .slice none 0 0, .slice none 0 0, .slice none 0 0] 43)).cell? ⟨w.heap.size + 1, 3, none⟩ = some (.slice none 0 0) := by go_cell
  have rf3_1 : (((w.alloc (.cells #[.int .i64 i0, .int .i64 i1, .int .i64 i2, .slice ao0 L0.length ac0, .slice ao1 L1.length ac1, .slice ao2 L2.length ac2, .slice ao3 L3.length ac3, .slice ao4 L4.length ac4] 28)).alloc (.cells #[.int .i64 0, .int .i64 0, .int .i64 0, .slice none 0 0, .slice none 0 0, .slice none 0 0, .slice none 0 0, .slice none 0 0] 43)).alloc (.cells #[.int .i64 i0, .int .i64 i1, .int .i64 i2, .slice none 0 0, .slice none 0 0, .slice none 0 0, .slice none 0 0, .slice none 0 0] 43)).frozen? ⟨w.heap.size + 1, 3, none⟩ = false := by (first | go_cell | (simp [World.frozen?, World.alloc]; done) | rfl)
  have r4_1 : (((w.alloc (.cells #[.int .i64 i0, .int .i64 i1, .int .i64 i2, .slice ao0 L0.length ac0, .slice ao1 L1.length ac1, .slice ao2 L2.length ac2, .slice ao3 L3.length ac3, .slice ao4 L4.length ac4] 28)).alloc (.cells #[.int .i64 0, .int .i64 0, .int .i64 0, .slice none 0 0, .slice none 0 0, .slice none 0 0, .slice none 0 0, .slice none 0 0] 43)).alloc (.cells #[.int .i64 i0, .int .i64 i1, .int .i64 i2, .slice none 0 0, .slice none 0 0, .slice none 0 0, .slice none 0 0, .slice none 0 0] 43)).cell? ⟨w.heap.size + 1, 4, none⟩ = some (.slice none 0 0) := by go_cell
  have rf4_1 : (((w.alloc (.cells #[.int .i64 i0, .int .i64 i1, .int .i64 i2, .slice ao0 L0.length ac0, .slice ao1 L1.length ac1, .slice ao2 L2.length ac2, .slice ao3 L3.length ac3, .slice ao4 L4.length ac4] 28)).alloc (.cells #[.int .i64 0, .int .i64 0, .int .i64 0, .slice none 0 0, .slice none 0 0, .slice none 0 0, .slice none 0 0, .slice none 0 0] 43)).alloc (.cells #[.int .i64 i0, .int .i64 i1, .int .i64 i2, .slice none 0 0, .slice none 0 0, .slice none 0 0, .slice none 0 0, .slice none 0 0] 43)).frozen? ⟨w.heap.size + 1, 4, none⟩ = false := by (first | go_cell | (simp [World.frozen?, World.alloc]; done) | rfl)
  have r5_1 : (((w.alloc (.cells #[.int .i64 i0, .int .i64 i1, .int .i64 i2, .slice ao0 L0.length ac0, .slice ao1 L1.length ac1, .slice ao2 L2.length ac2, .slice ao3 L3.length ac3, .slice ao4 L4.length ac4] 28)).alloc (.cells #[.int .i64 0, .int .i64 0, .int .i64 0, .slice none 0 0, .slice none 0 0, .slice none 0 0, .slice none 0 0, .slice none 0 0] 43)).alloc (.cells #[.int .i64 i0, .int .i64 i1, .int .i64 i2, .slice none 0 0, .slice none 0 0, .slice none 0 0, .slice none 0 0, .slice none 0 0] 43)).cell? ⟨w.heap.size + 1, 5, none⟩ = some (.slice none 0 0) := by go_cell
  have rf5_1 : (((w.alloc (.cells #[.int .i64 i0, .int .i64 i1, .int .i64 i2, .slice ao0 L0.length ac0, .slice ao1 L1.length ac1, .slice ao2 L2.length ac2, .slice ao3 L3.length ac3, .slice ao4 L4.length ac4] 28)).alloc (.cells #[.int .i64 0, .int .i64 0, .int .i64 0, .slice none 0 0, .slice none 0 0, .slice none 0 0, .slice none 0 0, .slice none 0 0] 43)).alloc (.cells #[.int .i64 i0, .int .i64 i1, .int .i64 i2, .slice none 0 0, .slice none 0 0, .slice none 0 0, .slice none 0 0, .slice none 0 0] 43)).frozen? ⟨w.heap.size + 1, 5, none⟩ = false := by (first | go_cell | (simp [World.frozen?, World.alloc]; done) | rfl)
  have r6_1 : (((w.alloc (.cells #[.int .i64 i0, .int .i64 i1, .int .i64 i2, .slice ao0 L0.length ac0, .slice ao1 L1.length ac1, .slice ao2 L2.length ac2, .slice ao3 L3.length ac3, .slice ao4 L4.length ac4] 28)).alloc (.cells #[.int .i64 0, .int .i64 0, .int .i64 0, .slice none 0 0, .slice none 0 0, .slice none 0 0, .slice none 0 0, .slice none 0 0] 43)).alloc (.cells #[.int .i64 i0, .int .i64 i1, .int .i64 i2, .slice none 0 0, .slice none 0 0, .slice none 0 0, .slice none 0 0, .slice none 0 0] 43)).cell? ⟨w.heap.size + 1, 6, none⟩ = some (.slice none 0 0) := by go_cell
  have rf6_1 : (((w.alloc (.cells #[.int .i64 i0, .int .i64 i1, .int .i64 i2, .slice ao0 L0.length ac0, .slice ao1 L1.length ac1, .slice ao2 L2.length ac2, .slice ao3 L3.length ac3, .slice ao4 L4.length ac4] 28)).alloc (.cells #[.int .i64 0, .int .i64 0, .int .i64 0, .slice none 0 0, .slice none 0 0, .slice none 0 0, .slice none 0 0, .slice none 0 0] 43)).alloc (.cells #[.int .i64 i0, .int .i64 i1, .int .i64 i2, .slice none 0 0, .slice none 0 0, .slice none 0 0, .slice none 0 0, .slice none 0 0] 43)).frozen? ⟨w.heap.size + 1, 6, none⟩ = false := by (first | go_cell | (simp [World.frozen?, World.alloc]; done) | rfl)
  have r7_1 : (((w.alloc (.cells #[.int .i64 i0, .int .i64 i1, .int .i64 i2, .slice ao0 L0.length ac0, .slice ao1 L1.length ac1, .slice ao2 L2.length ac2, .slice ao3 L3.length ac3, .slice ao4 L4.length ac4] 28)).alloc (.cells #[.int .i64 0, .int .i64 0, .int .i64 0, .slice none 0 0, .slice none 0 0, .slice none 0 0, .slice none 0 0, .slice none 0 0] 43)).alloc (.cells #[.int .i64 i0, .int .i64 i1, .int .i64 i2, .slice none 0 0, .slice none 0 0, .slice none 0 0, .slice none 0 0, .slice none 0 0] 43)).cell? ⟨w.heap.size + 1, 7, none⟩ = some (.slice none 0 0) := by go_cell
  have rf7_1 : (((w.alloc (.cells #[.int .i64 i0, .int .i64 i1, .int .i64 i2, .slice ao0 L0.length ac0, .slice ao1 L1.length ac1, .slice ao2 L2.length ac2, .slice ao3 L3.length ac3, .slice ao4 L4.length ac4] 28)).alloc (.cells #[.int .i64 0, .int .i64 0, .int .i64 0, .slice none 0 0, .slice none 0 0, .slice none 0 0, .slice none 0 0, .slice none 0 0] 43)).alloc (.cells #[.int .i64 i0, .int .i64 i1, .int .i64 i2, .slice none 0 0, .slice none 0 0, .slice none 0 0, .slice none 0 0, .slice none 0 0] 43)).frozen? ⟨w.heap.size + 1, 7, none⟩ = false := by (first | go_cell | (simp [World.frozen?, World.alloc]; done) | rfl)
  have o0_1 : (((w.alloc (.cells #[.int .i64 i0, .int .i64 i1, .int .i64 i2, .slice ao0 L0.length ac0, .slice ao1 L1.length ac1, .slice ao2 L2.length ac2, .slice ao3 L3.length ac3, .slice ao4 L4.length ac4] 28)).alloc (.cells #[.int .i64 0, .int .i64 0, .int .i64 0, .slice none 0 0, .slice none 0 0, .slice none 0 0, .slice none 0 0, .slice none 0 0] 43)).alloc (.cells #[.int .i64 i0, .int .i64 i1, .int .i64 i2, .slice none 0 0, .slice none 0 0, .slice none 0 0, .slice none 0 0, .slice none 0 0] 43)).cell? ⟨w.heap.size + 1 + 1, 0, none⟩ = some (.int .i64 i0) := by go_cell
  have of0_1 : (((w.alloc (.cells #[.int .i64 i0, .int .i64 i1, .int .i64 i2, .slice ao0 L0.length ac0, .slice ao1 L1.length ac1, .slice ao2 L2.length ac2, .slice ao3 L3.length ac3, .slice ao4 L4.length ac4] 28)).alloc (.cells #[.int .i64 0, .int .i64 0, .int .i64 0, .slice none 0 0, .slice none 0 0, .slice none 0 0, .slice none 0 0, .slice none 0 0] 43)).alloc (.cells #[.int .i64 i0, .int .i64 i1, .int .i64 i2, .slice none 0 0, .slice none 0 0, .slice none 0 0, .slice none 0 0, .slice none 0 0] 43)).frozen? ⟨w.heap.size + 1 + 1, 0, none⟩ = false := by (first | go_cell | (simp [World.frozen?, World.alloc]; done) | rfl)
  have o1_1 : (((w.alloc (.cells #[.int .i64 i0, .int .i64 i1, .int .i64 i2, .slice ao0 L0.length ac0, .slice ao1 L1.length ac1, .slice ao2 L2.length ac2, .slice ao3 L3.length ac3, .slice ao4 L4.length ac4] 28)).alloc (.cells #[.int .i64 0, .int .i64 0, .int .i64 0, .slice none 0 0, .slice none 0 0, .slice none 0 0, .slice none 0 0, .slice none 0 0] 43)).alloc (.cells #[.int .i64 i0, .int .i64 i1, .int .i64 i2, .slice none 0 0, .slice none 0 0, .slice none 0 0, .slice none 0 0, .slice none 0 0] 43)).cell? ⟨w.heap.size + 1 + 1, 1, none⟩ = some (.int .i64 i1) := by go_cell
  have of1_1 : (((w.alloc (.cells #[.int .i64 i0, .int .i64 i1, .int .i64 i2, .slice ao0 L0.length ac0, .slice ao1 L1.length ac1, .slice ao2 L2.length ac2, .slice ao3 L3.length ac3, .slice ao4 L4.length ac4] 28)).alloc (.cells #[.int .i64 0, .int .i64 0, .int .i64 0, .slice none 0 0, .slice none 0 0, .slice none 0 0, .slice none 0 0, .slice none 0 0] 43)).alloc (.cells #[.int .i64 i0, .int .i64 i1, .int .i64 i2, .slice none 0 0, .slice none 0 0, .slice none 0 0, .slice none 0 0, .slice none 0 0] 43)).frozen? ⟨w.heap.size + 1 + 1, 1, none⟩ = false := by (first | go_cell | (simp [World.frozen?, World.alloc]; done) | rfl)
  have o2_1 : (((w.alloc (.cells #[.int .i64 i0, .int .i64 i1, .int .i64 i2, .slice ao0 L0.length ac0, .slice ao1 L1.length ac1, .slice ao2 L2.length ac2, .slice ao3 L3.length ac3, .slice ao4 L4.length ac4] 28)).alloc (.cells #[.int .i64 0, .int .i64 0, .int .i64 0, .slice none 0 0, .slice none 0 0, .slice none 0 0, .slice none 0 0, .slice none 0 0] 43)).alloc (.cells #[.int .i64 i0, .int .i64 i1, .int .i64 i2, .slice none 0 0, .slice none 0 0, .slice none 0 0, .slice none 0 0, .slice none 0 0] 43)).cell? ⟨w.heap.size + 1 + 1, 2, none⟩ = some (.int .i64 i2) := by go_cell
  have of2_1 : (((w.alloc (.cells #[.int .i64 i0, .int .i64 i1, .int .i64 i2, .slice ao0 L0.length ac0, .slice ao1 L1.length ac1, .slice ao2 L2.length ac2, .slice ao3 L3.length ac3, .slice ao4 L4.length ac4] 28)).alloc (.cells #[.int .i64 0, .int .i64 0, .int .i64 0, .slice none 0 0, .slice none 0 0, .slice none 0 0, .slice none 0 0, .slice none 0 0] 43)).alloc (.cells #[.int .i64 i0, .int .i64 i1, .int .i64 i2, .slice none 0 0, .slice none 0 0, .slice none 0 0, .slice none 0 0, .slice none 0 0] 43)).frozen? ⟨w.heap.size + 1 + 1, 2, none⟩ = false := by (first | go_cell | (simp [World.frozen?, World.alloc]; done) | rfl)
  have o3_1 : (((w.alloc (.cells #[.int .i64 i0, .int .i64 i1, .int .i64 i2, .slice ao0 L0.length ac0, .slice ao1 L1.length ac1, .slice ao2 L2.length ac2, .slice ao3 L3.length ac3, .slice ao4 L4.length ac4] 28)).alloc (.cells #[.int .i64 0, .int .i64 0, .int .i64 0, .slice none 0 0, .slice none 0 0, .slice none 0 0, .slice none 0 0, .slice none 0 0] 43)).alloc (.cells #[.int .i64 i0, .int .i64 i1, .int .i64 i2, .slice none 0 0, .slice none 0 0, .slice none 0 0, .slice none 0 0, .slice none 0 0] 43)).cell? ⟨w.heap.size + 1 + 1, 3, none⟩ = some (.slice none 0 0) := by go_cell
  have of3_1 : (((w.alloc (.cells #[.int .i64 i0, .int .i64 i1, .int .i64 i2, .slice ao0 L0.length ac0, .slice ao1 L1.length ac1, .slice ao2 L2.length ac2, .slice ao3 L3.length ac3, .slice ao4 L4.length ac4] 28)).alloc (.cells #[.int .i64 0, .int .i64 0, .int .i64 0, .slice none 0 0, .slice none 0 0, .slice none 0 0, .slice none 0 0, .slice none 0 0] 43)).alloc (.cells #[.int .i64 i0, .int .i64 i1, .int .i64 i2, .slice none 0 0, .slice none 0 0, .slice none 0 0, .slice none 0 0, .slice none 0 0] 43)).frozen? ⟨w.heap.size + 1 + 1, 3, none⟩ = false := by (first | go_cell | (simp [World.frozen?, World.alloc]; done) | rfl)
  have o4_1 : (((w.alloc (.cells #[.int .i64 i0, .int .i64 i1, .int .i64 i2, .slice ao0 L0.length ac0, .slice ao1 L1.length ac1, .slice ao2 L2.length ac2, .slice ao3 L3.length ac3, .slice ao4 L4.length ac4] 28)).alloc (.cells #[.int .i64 0, .int .i64 0, .int .i64 0, .slice none 0 0, .slice none 0 0, .slice none 0 0, .slice none 0 0, .slice none 0 0] 43)).alloc (.cells #[.int .i64 i0, .int .i64 i1, .int .i64 i2, .slice none 0 0, .slice none 0 0, .slice none 0 0, .slice none 0 0, .slice none 0 0] 43)).cell? ⟨w.heap.size + 1 + 1, 4, none⟩ = some (.slice none 0 0) := by go_cell
  have of4_1 : (((w.alloc (.cells #[.int .i64 i0, .int .i64 i1, .int .i64 i2, .slice ao0 L0.length ac0, .slice ao1 L1.length ac1, .slice ao2 L2.length ac2, .slice ao3 L3.length ac3, .slice ao4 L4.length ac4] 28)).alloc (.cells #[.int .i64 0, .int .i64 0, .int .i64 0, .slice none 0 0, .slice none 0 0, .slice none 0 0, .slice none 0 0, .slice none 0 0] 43)).alloc (.cells #[.int .i64 i0, .int .i64 i1, .int .i64 i2, .slice none 0 0, .slice none 0 0, .slice none 0 0, .slice none 0 0, .slice none 0 0] 43)).frozen? ⟨w.heap.size + 1 + 1, 4, none⟩ = false := by (first | go_cell | (simp [World.frozen?, World.alloc]; done) | rfl)
  have o5_1 : (((w.alloc (.cells #[.int .i64 i0, .int .i64 i1, .int .i64 i2, .slice ao0 L0.length ac0, .slice ao1 L1.length ac1, .slice ao2 L2.length ac2, .slice ao3 L3.length ac3, .slice ao4 L4.length ac4] 28)).alloc (.cells #[.int .i64 0, .int .i64 0, .int .i64 0, .slice none 0 0, .slice none 0 0, .slice none 0 0, .slice none 0 0, .slice none 0 0] 43)).alloc (.cells #[.int .i64 i0, .int .i64 i1, .int .i64 i2, .slice none 0 0, .slice none 0 0, .slice none 0 0, .slice none 0 0, .slice none 0 0] 43)).cell? ⟨w.heap.size + 1 + 1, 5, none⟩ = some (.slice none 0 0) := by go_cell
  have of5_1 : (((w.alloc (.cells #[.int .i64 i0, .int .i64 i1, .int .i64 i2, .slice ao0 L0.length ac0, .slice ao1 L1.length ac1, .slice ao2 L2.length ac2, .slice ao3 L3.length ac3, .slice ao4 L4.length ac4] 28)).alloc (.cells #[.int .i64 0, .int .i64 0, .int .i64 0, .slice none 0 0, .slice none 0 0, .slice none 0 0, .slice none 0 0, .slice none 0 0] 43)).alloc (.cells #[.int .i64 i0, .int .i64 i1, .int .i64 i2, .slice none 0 0, .slice none 0 0, .slice none 0 0, .slice none 0 0, .slice none 0 0] 43)).frozen? ⟨w.heap.size + 1 + 1, 5, none⟩ = false := by (first | go_cell | (simp [World.frozen?, World.alloc]; done) | rfl)
  have o6_1 : (((w.alloc (.cells #[.int .i64 i0, .int .i64 i1, .int .i64 i2, .slice ao0 L0.length ac0, .slice ao1 L1.length ac1, .slice ao2 L2.length ac2, .slice ao3 L3.length ac3, .slice ao4 L4.length ac4] 28)).alloc (.cells #[.int .i64 0, .int .i64 0, .int .i64 0, .slice none 0 0, .slice none 0 0, .slice none 0 0, .slice none 0 0, .slice none 0 0] 43)).alloc (.cells #[.int .i64 i0, .int .i64 i1, .int .i64 i2, .slice none 0 0, .slice none 0 0, .slice none 0 0, .slice none 0 0, .slice none 0 0] 43)).cell? ⟨w.heap.size + 1 + 1, 6, none⟩ = some (.slice none 0 0) := by go_cell
  have of6_1 : (((w.alloc (.cells #[.int .i64 i0, .int .i64 i1, .int .i64 i2, .slice ao0 L0.length ac0, .slice ao1 L1.length ac1, .slice ao2 L2.length ac2, .slice ao3 L3.length ac3, .slice ao4 L4.length ac4] 28)).alloc (.cells #[.int .i64 0, .int .i64 0, .int .i64 0, .slice none 0 0, .slice none 0 0, .slice none 0 0, .slice none 0 0, .slice none 0 0] 43)).alloc (.cells #[.int .i64 i0, .int .i64 i1, .int .i64 i2, .slice none 0 0, .slice none 0 0, .slice none 0 0, .slice none 0 0, .slice none 0 0] 43)).frozen? ⟨w.heap.size + 1 + 1, 6, none⟩ = false := by (first | go_cell | (simp [World.frozen?, World.alloc]; done) | rfl)
  have o7_1 : (((w.alloc (.cells #[.int .i64 i0, .int .i64 i1, .int .i64 i2, .slice ao0 L0.length ac0, .slice ao1 L1.length ac1, .slice ao2 L2.length ac2, .slice ao3 L3.length ac3, .slice ao4 L4.length ac4] 28)).alloc (.cells #[.int .i64 0, .int .i64 0, .int .i64 0, .slice none 0 0, .slice none 0 0, .slice none 0 0, .slice none 0 0, .slice none 0 0] 43)).alloc (.cells #[.int .i64 i0, .int .i64 i1, .int .i64 i2, .slice none 0 0, .slice none 0 0, .slice none 0 0, .slice none 0 0, .slice none 0 0] 43)).cell? ⟨w.heap.size + 1 + 1, 7, none⟩ = some (.slice none 0 0) := by go_cell
  have of7_1 : (((w.alloc (.cells #[.int .i64 i0, .int .i64 i1, .int .i64 i2, .slice ao0 L0.length ac0, .slice ao1 L1.length ac1, .slice ao2 L2.length ac2, .slice ao3 L3.length ac3, .slice ao4 L4.length ac4] 28)).alloc (.cells #[.int .i64 0, .int .i64 0, .int .i64 0, .slice none 0 0, .slice none 0 0, .slice none 0 0, .slice none 0 0, .slice none 0 0] 43)).alloc (.cells #[.int .i64 i0, .int .i64 i1, .int .i64 i2, .slice none 0 0, .slice none 0 0, .slice none 0 0, .slice none 0 0, .slice none 0 0] 43)).frozen? ⟨w.heap.size + 1 + 1, 7, none⟩ = false := by (first | go_cell | (simp [World.frozen?, World.alloc]; done) | rfl)
  have c1 : Below w.heap.size w (((w.alloc (.cells #[.int .i64 i0, .int .i64 i1, .int .i64 i2, .slice ao0 L0.length ac0, .slice ao1 L1.length ac1, .slice ao2 L2.length ac2, .slice ao3 L3.length ac3, .slice ao4 L4.length ac4] 28)).alloc (.cells #[.int .i64 0, .int .i64 0, .int .i64 0, .slice none 0 0, .slice none 0 0, .slice none 0 0, .slice none 0 0, .slice none 0 0] 43)).alloc (.cells #[.int .i64 i0, .int .i64 i1, .int .i64 i2, .slice none 0 0, .slice none 0 0, .slice none 0 0, .slice none 0 0, .slice none 0 0] 43)) := by go_grown
  have s1 : (((w.alloc (.cells #[.int .i64 i0, .int .i64 i1, .int .i64 i2, .slice ao0 L0.length ac0, .slice ao1 L1.length ac1, .slice ao2 L2.length ac2, .slice ao3 L3.length ac3, .slice ao4 L4.length ac4] 28)).alloc (.cells #[.int .i64 0, .int .i64 0, .int .i64 0, .slice none 0 0, .slice none 0 0, .slice none 0 0, .slice none 0 0, .slice none 0 0] 43)).alloc (.cells #[.int .i64 i0, .int .i64 i1, .int .i64 i2, .slice none 0 0, .slice none 0 0, .slice none 0 0, .slice none 0 0, .slice none 0 0] 43)).heap.size = w.heap.size + 3 := by simp
  generalize (((w.alloc (.cells #[.int .i64 i0, .int .i64 i1, .int .i64 i2, .slice ao0 L0.length ac0, .slice ao1 L1.length ac1, .slice ao2 L2.length ac2, .slice ao3 L3.length ac3, .slice ao4 L4.length ac4] 28)).alloc (.cells #[.int .i64 0, .int .i64 0, .int .i64 0, .slice none 0 0, .slice none 0 0, .slice none 0 0, .slice none 0 0, .slice none 0 0] 43)).alloc (.cells #[.int .i64 i0, .int .i64 i1, .int .i64 i2, .slice none 0 0, .slice none 0 0, .slice none 0 0, .slice none 0 0, .slice none 0 0] 43)) = w1 at a0_1 a1_1 a2_1 a3_1 a4_1 a5_1 a6_1 a7_1 r0_1 rf0_1 r1_1 rf1_1 r2_1 rf2_1 r3_1 rf3_1 r4_1 rf4_1 r5_1 rf5_1 r6_1 rf6_1 r7_1 rf7_1 o0_1 of0_1 o1_1 of1_1 o2_1 of2_1 o3_1 of3_1 o4_1 of4_1 o5_1 of5_1 o6_1 of6_1 o7_1 of7_1 c1 s1 ⊢
  have al_1 : w.heap.size < w1.heap.size := by omega
  have rl_1 : w.heap.size + 1 < w1.heap.size := by omega
  have ol_1 : w.heap.size + 1 + 1 < w1.heap.size := by omega
  clear s1
  have hz1 : w.heap.size + 3 ≤ w1.heap.size := by omega
  refine (toRowS_own _ L0 _ (HA0.out.later c1) hl0 HK0.out).mono ?_
  rintro e w2 ⟨x0, rfl, ho, b2⟩
  have hx0 := ho.rd'
  obtain ⟨xo0, xc0, hv, _⟩ := hx0
  subst hv
  have hz2 : w1.heap.size ≤ w2.heap.size := b2.size
  have d2 : Below w1.heap.size w1 w2 := (Below.trans (by go_grown) (b2.mono (by first | omega | (simp; done) | (simp; omega))))
  have c2 : Below w.heap.size w w2 := c1.trans (d2.mono c1.size)
  have a0_2 : w2.cell? ⟨w.heap.size, 0, none⟩ = some (.int .i64 i0) := (by rw [b2.cell (by first | omega | (simp; done) | (simp; omega))]; go_cell)
  have a1_2 : w2.cell? ⟨w.heap.size, 1, none⟩ = some (.int .i64 i1) := (by rw [b2.cell (by first | omega | (simp; done) | (simp; omega))]; go_cell)
  have a2_2 : w2.cell? ⟨w.heap.size, 2, none⟩ = some (.int .i64 i2) := (by rw [b2.cell (by first | omega | (simp; done) | (simp; omega))]; go_cell)
  have a3_2 : w2.cell? ⟨w.heap.size, 3, none⟩ = some (.slice ao0 L0.length ac0) := (by rw [b2.cell (by first | omega | (simp; done) | (simp; omega))]; go_cell)
  have a4_2 : w2.cell? ⟨w.heap.size, 4, none⟩ = some (.slice ao1 L1.length ac1) := (by rw [b2.cell (by first | omega | (simp; done) | (simp; omega))]; go_cell)
  have a5_2 : w2.cell? ⟨w.heap.size, 5, none⟩ = some (.slice ao2 L2.length ac2) := (by rw [b2.cell (by first | omega | (simp; done) | (simp; omega))]; go_cell)
  have a6_2 : w2.cell? ⟨w.heap.size, 6, none⟩ = some (.slice ao3 L3.length ac3) := (by rw [b2.cell (by first | omega | (simp; done) | (simp; omega))]; go_cell)
  have a7_2 : w2.cell? ⟨w.heap.size, 7, none⟩ = some (.slice ao4 L4.length ac4) := (by rw [b2.cell (by first | omega | (simp; done) | (simp; omega))]; go_cell)
  have al_2 : w.heap.size < w2.heap.size := (by have := b2.size; first | omega | (revert this; simp; done) | (revert this; simp; omega))
  have r0_2 : w2.cell? ⟨w.heap.size + 1, 0, none⟩ = some (.int .i64 0) := (by rw [b2.cell (by first | omega | (simp; done) | (simp; omega))]; go_cell)
  have rf0_2 : w2.frozen? ⟨w.heap.size + 1, 0, none⟩ = false := (by rw [b2.frozen (by first | omega | (simp; done) | (simp; omega))]; (first | go_cell | (simp [World.frozen?, World.alloc]; done) | rfl))
  have r1_2 : w2.cell? ⟨w.heap.size + 1, 1, none⟩ = some (.int .i64 0) := (by rw [b2.cell (by first | omega | (simp; done) | (simp; omega))]; go_cell)
  have rf1_2 : w2.frozen? ⟨w.heap.size + 1, 1, none⟩ = false := (by rw [b2.frozen (by first | omega | (simp; done) | (simp; omega))]; (first | go_cell | (simp [World.frozen?, World.alloc]; done) | rfl))
  have r2_2 : w2.cell? ⟨w.heap.size + 1, 2, none⟩ = some (.int .i64 0) := (by rw [b2.cell (by first | omega | (simp; done) | (simp; omega))]; go_cell)
  have rf2_2 : w2.frozen? ⟨w.heap.size + 1, 2, none⟩ = false := (by rw [b2.frozen (by first | omega | (simp; done) | (simp; omega))]; (first | go_cell | (simp [World.frozen?, World.alloc]; done) | rfl))
  have r3_2 : w2.cell? ⟨w.heap.size + 1, 3, none⟩ = some (.slice none 0 0) := (by rw [b2.cell (by first | omega | (simp; done) | (simp; omega))]; go_cell)
  have rf3_2 : w2.frozen? ⟨w.heap.size + 1, 3, none⟩ = false := (by rw [b2.frozen (by first | omega | (simp; done) | (simp; omega))]; (first | go_cell | (simp [World.frozen?, World.alloc]; done) | rfl))
  have r4_2 : w2.cell? ⟨w.heap.size + 1, 4, none⟩ = some (.slice none 0 0) := (by rw [b2.cell (by first | omega | (simp; done) | (simp; omega))]; go_cell)
  have rf4_2 : w2.frozen? ⟨w.heap.size + 1, 4, none⟩ = false := (by rw [b2.frozen (by first | omega | (simp; done) | (simp; omega))]; (first | go_cell | (simp [World.frozen?, World.alloc]; done) | rfl))
  have r5_2 : w2.cell? ⟨w.heap.size + 1, 5, none⟩ = some (.slice none 0 0) := (by rw [b2.cell (by first | omega | (simp; done) | (simp; omega))]; go_cell)
  have rf5_2 : w2.frozen? ⟨w.heap.size + 1, 5, none⟩ = false := (by rw [b2.frozen (by first | omega | (simp; done) | (simp; omega))]; (first | go_cell | (simp [World.frozen?, World.alloc]; done) | rfl))
  have r6_2 : w2.cell? ⟨w.heap.size + 1, 6, none⟩ = some (.slice none 0 0) := (by rw [b2.cell (by first | omega | (simp; done) | (simp; omega))]; go_cell)
  have rf6_2 : w2.frozen? ⟨w.heap.size + 1, 6, none⟩ = false := (by rw [b2.frozen (by first | omega | (simp; done) | (simp; omega))]; (first | go_cell | (simp [World.frozen?, World.alloc]; done) | rfl))
  have r7_2 : w2.cell? ⟨w.heap.size + 1, 7, none⟩ = some (.slice none 0 0) := (by rw [b2.cell (by first | omega | (simp; done) | (simp; omega))]; go_cell)
  have rf7_2 : w2.frozen? ⟨w.heap.size + 1, 7, none⟩ = false := (by rw [b2.frozen (by first | omega | (simp; done) | (simp; omega))]; (first | go_cell | (simp [World.frozen?, World.alloc]; done) | rfl))
  have rl_2 : w.heap.size + 1 < w2.heap.size := (by have := b2.size; first | omega | (revert this; simp; done) | (revert this; simp; omega))
  have o0_2 : w2.cell? ⟨w.heap.size + 1 + 1, 0, none⟩ = some (.int .i64 i0) := (by rw [b2.cell (by first | omega | (simp; done) | (simp; omega))]; go_cell)
  have of0_2 : w2.frozen? ⟨w.heap.size + 1 + 1, 0, none⟩ = false := (by rw [b2.frozen (by first | omega | (simp; done) | (simp; omega))]; (first | go_cell | (simp [World.frozen?, World.alloc]; done) | rfl))
  have o1_2 : w2.cell? ⟨w.heap.size + 1 + 1, 1, none⟩ = some (.int .i64 i1) := (by rw [b2.cell (by first | omega | (simp; done) | (simp; omega))]; go_cell)
  have of1_2 : w2.frozen? ⟨w.heap.size + 1 + 1, 1, none⟩ = false := (by rw [b2.frozen (by first | omega | (simp; done) | (simp; omega))]; (first | go_cell | (simp [World.frozen?, World.alloc]; done) | rfl))
  have o2_2 : w2.cell? ⟨w.heap.size + 1 + 1, 2, none⟩ = some (.int .i64 i2) := (by rw [b2.cell (by first | omega | (simp; done) | (simp; omega))]; go_cell)
  have of2_2 : w2.frozen? ⟨w.heap.size + 1 + 1, 2, none⟩ = false := (by rw [b2.frozen (by first | omega | (simp; done) | (simp; omega))]; (first | go_cell | (simp [World.frozen?, World.alloc]; done) | rfl))
  have o3_2 : w2.cell? ⟨w.heap.size + 1 + 1, 3, none⟩ = some (.slice none 0 0) := (by rw [b2.cell (by first | omega | (simp; done) | (simp; omega))]; go_cell)
  have of3_2 : w2.frozen? ⟨w.heap.size + 1 + 1, 3, none⟩ = false := (by rw [b2.frozen (by first | omega | (simp; done) | (simp; omega))]; (first | go_cell | (simp [World.frozen?, World.alloc]; done) | rfl))
  have o4_2 : w2.cell? ⟨w.heap.size + 1 + 1, 4, none⟩ = some (.slice none 0 0) := (by rw [b2.cell (by first | omega | (simp; done) | (simp; omega))]; go_cell)
  have of4_2 : w2.frozen? ⟨w.heap.size + 1 + 1, 4, none⟩ = false := (by rw [b2.frozen (by first | omega | (simp; done) | (simp; omega))]; (first | go_cell | (simp [World.frozen?, World.alloc]; done) | rfl))
  have o5_2 : w2.cell? ⟨w.heap.size + 1 + 1, 5, none⟩ = some (.slice none 0 0) := (by rw [b2.cell (by first | omega | (simp; done) | (simp; omega))]; go_cell)
  have of5_2 : w2.frozen? ⟨w.heap.size + 1 + 1, 5, none⟩ = false := (by rw [b2.frozen (by first | omega | (simp; done) | (simp; omega))]; (first | go_cell | (simp [World.frozen?, World.alloc]; done) | rfl))
  have o6_2 : w2.cell? ⟨w.heap.size + 1 + 1, 6, none⟩ = some (.slice none 0 0) := (by rw [b2.cell (by first | omega | (simp; done) | (simp; omega))]; go_cell)
  have of6_2 : w2.frozen? ⟨w.heap.size + 1 + 1, 6, none⟩ = false := (by rw [b2.frozen (by first | omega | (simp; done) | (simp; omega))]; (first | go_cell | (simp [World.frozen?, World.alloc]; done) | rfl))
  have o7_2 : w2.cell? ⟨w.heap.size + 1 + 1, 7, none⟩ = some (.slice none 0 0) := (by rw [b2.cell (by first | omega | (simp; done) | (simp; omega))]; go_cell)
  have of7_2 : w2.frozen? ⟨w.heap.size + 1 + 1, 7, none⟩ = false := (by rw [b2.frozen (by first | omega | (simp; done) | (simp; omega))]; (first | go_cell | (simp [World.frozen?, World.alloc]; done) | rfl))
  have ol_2 : w.heap.size + 1 + 1 < w2.heap.size := (by have := b2.size; first | omega | (revert this; simp; done) | (revert this; simp; omega))
  clear a0_1 a1_1 a2_1 a3_1 a4_1 a5_1 a6_1 a7_1 al_1 r0_1 rf0_1 r1_1 rf1_1 r2_1 rf2_1 r3_1 rf3_1 r4_1 rf4_1 r5_1 rf5_1 r6_1 rf6_1 r7_1 rf7_1 rl_1 o0_1 of0_1 o1_1 of1_1 o2_1 of2_1 o3_1 of3_1 o4_1 of4_1 o5_1 of5_1 o6_1 of6_1 o7_1 of7_1 ol_1
  have HO0_2 := hid ho
  clear ho b2 d2
  go_wp2_with fail
  have a0_3 : (w2.setCell ⟨w.heap.size + 1 + 1, 3, none⟩ (.slice xo0 L0.length xc0)).cell? ⟨w.heap.size, 0, none⟩ = some (.int .i64 i0) := by go_cell
  have a1_3 : (w2.setCell ⟨w.heap.size + 1 + 1, 3, none⟩ (.slice xo0 L0.length xc0)).cell? ⟨w.heap.size, 1, none⟩ = some (.int .i64 i1) := by go_cell
  have a2_3 : (w2.setCell ⟨w.heap.size + 1 + 1, 3, none⟩ (.slice xo0 L0.length xc0)).cell? ⟨w.heap.size, 2, none⟩ = some (.int .i64 i2) := by go_cell
  have a3_3 : (w2.setCell ⟨w.heap.size + 1 + 1, 3, none⟩ (.slice xo0 L0.length xc0)).cell? ⟨w.heap.size, 3, none⟩ = some (.slice ao0 L0.length ac0) := by go_cell
  have a4_3 : (w2.setCell ⟨w.heap.size + 1 + 1, 3, none⟩ (.slice xo0 L0.length xc0)).cell? ⟨w.heap.size, 4, none⟩ = some (.slice ao1 L1.length ac1) := by go_cell
  have a5_3 : (w2.setCell ⟨w.heap.size + 1 + 1, 3, none⟩ (.slice xo0 L0.length xc0)).cell? ⟨w.heap.size, 5, none⟩ = some (.slice ao2 L2.length ac2) := by go_cell
  have a6_3 : (w2.setCell ⟨w.heap.size + 1 + 1, 3, none⟩ (.slice xo0 L0.length xc0)).cell? ⟨w.heap.size, 6, none⟩ = some (.slice ao3 L3.length ac3) := by go_cell
  have a7_3 : (w2.setCell ⟨w.heap.size + 1 + 1, 3, none⟩ (.slice xo0 L0.length xc0)).cell? ⟨w.heap.size, 7, none⟩ = some (.slice ao4 L4.length ac4) := by go_cell
  have r0_3 : (w2.setCell ⟨w.heap.size + 1 + 1, 3, none⟩ (.slice xo0 L0.length xc0)).cell? ⟨w.heap.size + 1, 0, none⟩ = some (.int .i64 0) := by go_cell
  have rf0_3 : (w2.setCell ⟨w.heap.size + 1 + 1, 3, none⟩ (.slice xo0 L0.length xc0)).frozen? ⟨w.heap.size + 1, 0, none⟩ = false := by (first | go_cell | (simp [World.frozen?, World.alloc]; done) | rfl)
  have r1_3 : (w2.setCell ⟨w.heap.size + 1 + 1, 3, none⟩ (.slice xo0 L0.length xc0)).cell? ⟨w.heap.size + 1, 1, none⟩ = some (.int .i64 0) := by go_cell
  have rf1_3 : (w2.setCell ⟨w.heap.size + 1 + 1, 3, none⟩ (.slice xo0 L0.length xc0)).frozen? ⟨w.heap.size + 1, 1, none⟩ = false := by (first | go_cell | (simp [World.frozen?, World.alloc]; done) | rfl)
  have r2_3 : (w2.setCell ⟨w.heap.size + 1 + 1, 3, none⟩ (.slice xo0 L0.length xc0)).cell? ⟨w.heap.size + 1, 2, none⟩ = some (.int .i64 0) := by go_cell
  have rf2_3 : (w2.setCell ⟨w.heap.size + 1 + 1, 3, none⟩ (.slice xo0 L0.length xc0)).frozen? ⟨w.heap.size + 1, 2, none⟩ = false := by (first | go_cell | (simp [World.frozen?, World.alloc]; done) | rfl)
  have r3_3 : (w2.setCell ⟨w.heap.size + 1 + 1, 3, none⟩ (.slice xo0 L0.length xc0)).cell? ⟨w.heap.size + 1, 3, none⟩ = some (.slice none 0 0) := by go_cell
  have rf3_3 : (w2.setCell ⟨w.heap.size + 1 + 1, 3, none⟩ (.slice xo0 L0.length xc0)).frozen? ⟨w.heap.size + 1, 3, none⟩ = false := by (first | go_cell | (simp [World.frozen?, World.alloc]; done) | rfl)
  have r4_3 : (w2.setCell ⟨w.heap.size + 1 + 1, 3, none⟩ (.slice xo0 L0.length xc0)).cell? ⟨w.heap.size + 1, 4, none⟩ = some (.slice none 0 0) := by go_cell
  have rf4_3 : (w2.setCell ⟨w.heap.size + 1 + 1, 3, none⟩ (.slice xo0 L0.length xc0)).frozen? ⟨w.heap.size + 1, 4, none⟩ = false := by (first | go_cell | (simp [World.frozen?, World.alloc]; done) | rfl)
  have r5_3 : (w2.setCell ⟨w.heap.size + 1 + 1, 3, none⟩ (.slice xo0 L0.length xc0)).cell? ⟨w.heap.size + 1, 5, none⟩ = some (.slice none 0 0) := by go_cell
  have rf5_3 : (w2.setCell ⟨w.heap.size + 1 + 1, 3, none⟩ (.slice xo0 L0.length xc0)).frozen? ⟨w.heap.size + 1, 5, none⟩ = false := by (first | go_cell | (simp [World.frozen?, World.alloc]; done) | rfl)
  have r6_3 : (w2.setCell ⟨w.heap.size + 1 + 1, 3, none⟩ (.slice xo0 L0.length xc0)).cell? ⟨w.heap.size + 1, 6, none⟩ = some (.slice none 0 0) := by go_cell
  have rf6_3 : (w2.setCell ⟨w.heap.size + 1 + 1, 3, none⟩ (.slice xo0 L0.length xc0)).frozen? ⟨w.heap.size + 1, 6, none⟩ = false := by (first | go_cell | (simp [World.frozen?, World.alloc]; done) | rfl)
  have r7_3 : (w2.setCell ⟨w.heap.size + 1 + 1, 3, none⟩ (.slice xo0 L0.length xc0)).cell? ⟨w.heap.size + 1, 7, none⟩ = some (.slice none 0 0) := by go_cell
  have rf7_3 : (w2.setCell ⟨w.heap.size + 1 + 1, 3, none⟩ (.slice xo0 L0.length xc0)).frozen? ⟨w.heap.size + 1, 7, none⟩ = false := by (first | go_cell | (simp [World.frozen?, World.alloc]; done) | rfl)
  have o0_3 : (w2.setCell ⟨w.heap.size + 1 + 1, 3, none⟩ (.slice xo0 L0.length xc0)).cell? ⟨w.heap.size + 1 + 1, 0, none⟩ = some (.int .i64 i0) := by go_cell
  have of0_3 : (w2.setCell ⟨w.heap.size + 1 + 1, 3, none⟩ (.slice xo0 L0.length xc0)).frozen? ⟨w.heap.size + 1 + 1, 0, none⟩ = false := by (first | go_cell | (simp [World.frozen?, World.alloc]; done) | rfl)
  have o1_3 : (w2.setCell ⟨w.heap.size + 1 + 1, 3, none⟩ (.slice xo0 L0.length xc0)).cell? ⟨w.heap.size + 1 + 1, 1, none⟩ = some (.int .i64 i1) := by go_cell
  have of1_3 : (w2.setCell ⟨w.heap.size + 1 + 1, 3, none⟩ (.slice xo0 L0.length xc0)).frozen? ⟨w.heap.size + 1 + 1, 1, none⟩ = false := by (first | go_cell | (simp [World.frozen?, World.alloc]; done) | rfl)
  have o2_3 : (w2.setCell ⟨w.heap.size + 1 + 1, 3, none⟩ (.slice xo0 L0.length xc0)).cell? ⟨w.heap.size + 1 + 1, 2, none⟩ = some (.int .i64 i2) := by go_cell
  have of2_3 : (w2.setCell ⟨w.heap.size + 1 + 1, 3, none⟩ (.slice xo0 L0.length xc0)).frozen? ⟨w.heap.size + 1 + 1, 2, none⟩ = false := by (first | go_cell | (simp [World.frozen?, World.alloc]; done) | rfl)
  have o3_3 : (w2.setCell ⟨w.heap.size + 1 + 1, 3, none⟩ (.slice xo0 L0.length xc0)).cell? ⟨w.heap.size + 1 + 1, 3, none⟩ = some (.slice xo0 L0.length xc0) := by go_cell
  have of3_3 : (w2.setCell ⟨w.heap.size + 1 + 1, 3, none⟩ (.slice xo0 L0.length xc0)).frozen? ⟨w.heap.size + 1 + 1, 3, none⟩ = false := by (first | go_cell | (simp [World.frozen?, World.alloc]; done) | rfl)
  have o4_3 : (w2.setCell ⟨w.heap.size + 1 + 1, 3, none⟩ (.slice xo0 L0.length xc0)).cell? ⟨w.heap.size + 1 + 1, 4, none⟩ = some (.slice none 0 0) := by go_cell
  have of4_3 : (w2.setCell ⟨w.heap.size + 1 + 1, 3, none⟩ (.slice xo0 L0.length xc0)).frozen? ⟨w.heap.size + 1 + 1, 4, none⟩ = false := by (first | go_cell | (simp [World.frozen?, World.alloc]; done) | rfl)
  have o5_3 : (w2.setCell ⟨w.heap.size + 1 + 1, 3, none⟩ (.slice xo0 L0.length xc0)).cell? ⟨w.heap.size + 1 + 1, 5, none⟩ = some (.slice none 0 0) := by go_cell
  have of5_3 : (w2.setCell ⟨w.heap.size + 1 + 1, 3, none⟩ (.slice xo0 L0.length xc0)).frozen? ⟨w.heap.size + 1 + 1, 5, none⟩ = false := by (first | go_cell | (simp [World.frozen?, World.alloc]; done) | rfl)
  have o6_3 : (w2.setCell ⟨w.heap.size + 1 + 1, 3, none⟩ (.slice xo0 L0.length xc0)).cell? ⟨w.heap.size + 1 + 1, 6, none⟩ = some (.slice none 0 0) := by go_cell
  have of6_3 : (w2.setCell ⟨w.heap.size + 1 + 1, 3, none⟩ (.slice xo0 L0.length xc0)).frozen? ⟨w.heap.size + 1 + 1, 6, none⟩ = false := by (first | go_cell | (simp [World.frozen?, World.alloc]; done) | rfl)
  have o7_3 : (w2.setCell ⟨w.heap.size + 1 + 1, 3, none⟩ (.slice xo0 L0.length xc0)).cell? ⟨w.heap.size + 1 + 1, 7, none⟩ = some (.slice none 0 0) := by go_cell
  have of7_3 : (w2.setCell ⟨w.heap.size + 1 + 1, 3, none⟩ (.slice xo0 L0.length xc0)).frozen? ⟨w.heap.size + 1 + 1, 7, none⟩ = false := by (first | go_cell | (simp [World.frozen?, World.alloc]; done) | rfl)
  have HO0_3 := hid (HO0_2.out.set (p := ⟨w.heap.size + 1 + 1, 3, none⟩) (fun q => by have := q.1; first | omega | (simp only at this; omega)) (.slice xo0 L0.length xc0))
  clear HO0_2
  have c3 := c2.setCell (p := ⟨w.heap.size + 1 + 1, 3, none⟩) (by show w.heap.size ≤ w.heap.size + 1 + 1; omega) (.slice xo0 L0.length xc0)
  have s3 : (w2.setCell ⟨w.heap.size + 1 + 1, 3, none⟩ (.slice xo0 L0.length xc0)).heap.size = w2.heap.size := by simp
  clear a0_2 a1_2 a2_2 a3_2 a4_2 a5_2 a6_2 a7_2 r0_2 r1_2 r2_2 r3_2 r4_2 r5_2 r6_2 r7_2 rf0_2 rf1_2 rf2_2 rf3_2 rf4_2 rf5_2 rf6_2 rf7_2 o0_2 o1_2 o2_2 o3_2 o4_2 o5_2 o6_2 o7_2 of0_2 of1_2 of2_2 of3_2 of4_2 of5_2 of6_2 of7_2
  generalize (w2.setCell ⟨w.heap.size + 1 + 1, 3, none⟩ (.slice xo0 L0.length xc0)) = w3 at a0_3 a1_3 a2_3 a3_3 a4_3 a5_3 a6_3 a7_3 r0_3 rf0_3 r1_3 rf1_3 r2_3 rf2_3 r3_3 rf3_3 r4_3 rf4_3 r5_3 rf5_3 r6_3 rf6_3 r7_3 rf7_3 o0_3 of0_3 o1_3 of1_3 o2_3 of2_3 o3_3 of3_3 o4_3 of4_3 o5_3 of5_3 o6_3 of6_3 o7_3 of7_3 HO0_3 c3 s3 ⊢
  have al_3 : w.heap.size < w3.heap.size := by omega
  have rl_3 : w.heap.size + 1 < w3.heap.size := by omega
  have ol_3 : w.heap.size + 1 + 1 < w3.heap.size := by omega
  refine (toDoneS_own _ L1 _ (HA1.out.later c3) hl1).mono ?_
  rintro e w4 ⟨x1, rfl, ho, b4⟩
  have hx1 := ho.rd'
  obtain ⟨xo1, xc1, hv, _⟩ := hx1
  subst hv
  have hz4 : w3.heap.size ≤ w4.heap.size := b4.size
  have d4 : Below w3.heap.size w3 w4 := (Below.trans (by go_grown) (b4.mono (by first | omega | (simp; done) | (simp; omega))))
  have c4 : Below w.heap.size w w4 := c3.trans (d4.mono c3.size)
  have a0_4 : w4.cell? ⟨w.heap.size, 0, none⟩ = some (.int .i64 i0) := (by rw [b4.cell (by first | omega | (simp; done) | (simp; omega))]; go_cell)
  have a1_4 : w4.cell? ⟨w.heap.size, 1, none⟩ = some (.int .i64 i1) := (by rw [b4.cell (by first | omega | (simp; done) | (simp; omega))]; go_cell)
  have a2_4 : w4.cell? ⟨w.heap.size, 2, none⟩ = some (.int .i64 i2) := (by rw [b4.cell (by first | omega | (simp; done) | (simp; omega))]; go_cell)
  have a3_4 : w4.cell? ⟨w.heap.size, 3, none⟩ = some (.slice ao0 L0.length ac0) := (by rw [b4.cell (by first | omega | (simp; done) | (simp; omega))]; go_cell)
  have a4_4 : w4.cell? ⟨w.heap.size, 4, none⟩ = some (.slice ao1 L1.length ac1) := (by rw [b4.cell (by first | omega | (simp; done) | (simp; omega))]; go_cell)
  have a5_4 : w4.cell? ⟨w.heap.size, 5, none⟩ = some (.slice ao2 L2.length ac2) := (by rw [b4.cell (by first | omega | (simp; done) | (simp; omega))]; go_cell)
  have a6_4 : w4.cell? ⟨w.heap.size, 6, none⟩ = some (.slice ao3 L3.length ac3) := (by rw [b4.cell (by first | omega | (simp; done) | (simp; omega))]; go_cell)
  have a7_4 : w4.cell? ⟨w.heap.size, 7, none⟩ = some (.slice ao4 L4.length ac4) := (by rw [b4.cell (by first | omega | (simp; done) | (simp; omega))]; go_cell)
  have al_4 : w.heap.size < w4.heap.size := (by have := b4.size; first | omega | (revert this; simp; done) | (revert this; simp; omega))
  have r0_4 : w4.cell? ⟨w.heap.size + 1, 0, none⟩ = some (.int .i64 0) := (by rw [b4.cell (by first | omega | (simp; done) | (simp; omega))]; go_cell)
  have rf0_4 : w4.frozen? ⟨w.heap.size + 1, 0, none⟩ = false := (by rw [b4.frozen (by first | omega | (simp; done) | (simp; omega))]; (first | go_cell | (simp [World.frozen?, World.alloc]; done) | rfl))
  have r1_4 : w4.cell? ⟨w.heap.size + 1, 1, none⟩ = some (.int .i64 0) := (by rw [b4.cell (by first | omega | (simp; done) | (simp; omega))]; go_cell)
  have rf1_4 : w4.frozen? ⟨w.heap.size + 1, 1, none⟩ = false := (by rw [b4.frozen (by first | omega | (simp; done) | (simp; omega))]; (first | go_cell | (simp [World.frozen?, World.alloc]; done) | rfl))
  have r2_4 : w4.cell? ⟨w.heap.size + 1, 2, none⟩ = some (.int .i64 0) := (by rw [b4.cell (by first | omega | (simp; done) | (simp; omega))]; go_cell)
  have rf2_4 : w4.frozen? ⟨w.heap.size + 1, 2, none⟩ = false := (by rw [b4.frozen (by first | omega | (simp; done) | (simp; omega))]; (first | go_cell | (simp [World.frozen?, World.alloc]; done) | rfl))
  have r3_4 : w4.cell? ⟨w.heap.size + 1, 3, none⟩ = some (.slice none 0 0) := (by rw [b4.cell (by first | omega | (simp; done) | (simp; omega))]; go_cell)
  have rf3_4 : w4.frozen? ⟨w.heap.size + 1, 3, none⟩ = false := (by rw [b4.frozen (by first | omega | (simp; done) | (simp; omega))]; (first | go_cell | (simp [World.frozen?, World.alloc]; done) | rfl))
  have r4_4 : w4.cell? ⟨w.heap.size + 1, 4, none⟩ = some (.slice none 0 0) := (by rw [b4.cell (by first | omega | (simp; done) | (simp; omega))]; go_cell)
  have rf4_4 : w4.frozen? ⟨w.heap.size + 1, 4, none⟩ = false := (by rw [b4.frozen (by first | omega | (simp; done) | (simp; omega))]; (first | go_cell | (simp [World.frozen?, World.alloc]; done) | rfl))
  have r5_4 : w4.cell? ⟨w.heap.size + 1, 5, none⟩ = some (.slice none 0 0) := (by rw [b4.cell (by first | omega | (simp; done) | (simp; omega))]; go_cell)
  have rf5_4 : w4.frozen? ⟨w.heap.size + 1, 5, none⟩ = false := (by rw [b4.frozen (by first | omega | (simp; done) | (simp; omega))]; (first | go_cell | (simp [World.frozen?, World.alloc]; done) | rfl))
  have r6_4 : w4.cell? ⟨w.heap.size + 1, 6, none⟩ = some (.slice none 0 0) := (by rw [b4.cell (by first | omega | (simp; done) | (simp; omega))]; go_cell)
  have rf6_4 : w4.frozen? ⟨w.heap.size + 1, 6, none⟩ = false := (by rw [b4.frozen (by first | omega | (simp; done) | (simp; omega))]; (first | go_cell | (simp [World.frozen?, World.alloc]; done) | rfl))
  have r7_4 : w4.cell? ⟨w.heap.size + 1, 7, none⟩ = some (.slice none 0 0) := (by rw [b4.cell (by first | omega | (simp; done) | (simp; omega))]; go_cell)
  have rf7_4 : w4.frozen? ⟨w.heap.size + 1, 7, none⟩ = false := (by rw [b4.frozen (by first | omega | (simp; done) | (simp; omega))]; (first | go_cell | (simp [World.frozen?, World.alloc]; done) | rfl))
  have rl_4 : w.heap.size + 1 < w4.heap.size := (by have := b4.size; first | omega | (revert this; simp; done) | (revert this; simp; omega))
  have o0_4 : w4.cell? ⟨w.heap.size + 1 + 1, 0, none⟩ = some (.int .i64 i0) := (by rw [b4.cell (by first | omega | (simp; done) | (simp; omega))]; go_cell)
  have of0_4 : w4.frozen? ⟨w.heap.size + 1 + 1, 0, none⟩ = false := (by rw [b4.frozen (by first | omega | (simp; done) | (simp; omega))]; (first | go_cell | (simp [World.frozen?, World.alloc]; done) | rfl))
  have o1_4 : w4.cell? ⟨w.heap.size + 1 + 1, 1, none⟩ = some (.int .i64 i1) := (by rw [b4.cell (by first | omega | (simp; done) | (simp; omega))]; go_cell)
  have of1_4 : w4.frozen? ⟨w.heap.size + 1 + 1, 1, none⟩ = false := (by rw [b4.frozen (by first | omega | (simp; done) | (simp; omega))]; (first | go_cell | (simp [World.frozen?, World.alloc]; done) | rfl))
  have o2_4 : w4.cell? ⟨w.heap.size + 1 + 1, 2, none⟩ = some (.int .i64 i2) := (by rw [b4.cell (by first | omega | (simp; done) | (simp; omega))]; go_cell)
  have of2_4 : w4.frozen? ⟨w.heap.size + 1 + 1, 2, none⟩ = false := (by rw [b4.frozen (by first | omega | (simp; done) | (simp; omega))]; (first | go_cell | (simp [World.frozen?, World.alloc]; done) | rfl))
  have o3_4 : w4.cell? ⟨w.heap.size + 1 + 1, 3, none⟩ = some (.slice xo0 L0.length xc0) := (by rw [b4.cell (by first | omega | (simp; done) | (simp; omega))]; go_cell)
  have of3_4 : w4.frozen? ⟨w.heap.size + 1 + 1, 3, none⟩ = false := (by rw [b4.frozen (by first | omega | (simp; done) | (simp; omega))]; (first | go_cell | (simp [World.frozen?, World.alloc]; done) | rfl))
  have o4_4 : w4.cell? ⟨w.heap.size + 1 + 1, 4, none⟩ = some (.slice none 0 0) := (by rw [b4.cell (by first | omega | (simp; done) | (simp; omega))]; go_cell)
  have of4_4 : w4.frozen? ⟨w.heap.size + 1 + 1, 4, none⟩ = false := (by rw [b4.frozen (by first | omega | (simp; done) | (simp; omega))]; (first | go_cell | (simp [World.frozen?, World.alloc]; done) | rfl))
  have o5_4 : w4.cell? ⟨w.heap.size + 1 + 1, 5, none⟩ = some (.slice none 0 0) := (by rw [b4.cell (by first | omega | (simp; done) | (simp; omega))]; go_cell)
  have of5_4 : w4.frozen? ⟨w.heap.size + 1 + 1, 5, none⟩ = false := (by rw [b4.frozen (by first | omega | (simp; done) | (simp; omega))]; (first | go_cell | (simp [World.frozen?, World.alloc]; done) | rfl))
  have o6_4 : w4.cell? ⟨w.heap.size + 1 + 1, 6, none⟩ = some (.slice none 0 0) := (by rw [b4.cell (by first | omega | (simp; done) | (simp; omega))]; go_cell)
  have of6_4 : w4.frozen? ⟨w.heap.size + 1 + 1, 6, none⟩ = false := (by rw [b4.frozen (by first | omega | (simp; done) | (simp; omega))]; (first | go_cell | (simp [World.frozen?, World.alloc]; done) | rfl))
  have o7_4 : w4.cell? ⟨w.heap.size + 1 + 1, 7, none⟩ = some (.slice none 0 0) := (by rw [b4.cell (by first | omega | (simp; done) | (simp; omega))]; go_cell)
  have of7_4 : w4.frozen? ⟨w.heap.size + 1 + 1, 7, none⟩ = false := (by rw [b4.frozen (by first | omega | (simp; done) | (simp; omega))]; (first | go_cell | (simp [World.frozen?, World.alloc]; done) | rfl))
  have ol_4 : w.heap.size + 1 + 1 < w4.heap.size := (by have := b4.size; first | omega | (revert this; simp; done) | (revert this; simp; omega))
  clear a0_3 a1_3 a2_3 a3_3 a4_3 a5_3 a6_3 a7_3 al_3 r0_3 rf0_3 r1_3 rf1_3 r2_3 rf2_3 r3_3 rf3_3 r4_3 rf4_3 r5_3 rf5_3 r6_3 rf6_3 r7_3 rf7_3 rl_3 o0_3 of0_3 o1_3 of1_3 o2_3 of2_3 o3_3 of3_3 o4_3 of4_3 o5_3 of5_3 o6_3 of6_3 o7_3 of7_3 ol_3
  have HO0_4 := hid (HO0_3.out.later d4)
  clear HO0_3
  have HO1_4 := hid ho
  clear ho b4 d4
  go_wp2_with fail
  have a0_5 : (w4.setCell ⟨w.heap.size + 1 + 1, 4, none⟩ (.slice xo1 L1.length xc1)).cell? ⟨w.heap.size, 0, none⟩ = some (.int .i64 i0) := by go_cell
  have a1_5 : (w4.setCell ⟨w.heap.size + 1 + 1, 4, none⟩ (.slice xo1 L1.length xc1)).cell? ⟨w.heap.size, 1, none⟩ = some (.int .i64 i1) := by go_cell
  have a2_5 : (w4.setCell ⟨w.heap.size + 1 + 1, 4, none⟩ (.slice xo1 L1.length xc1)).cell? ⟨w.heap.size, 2, none⟩ = some (.int .i64 i2) := by go_cell
  have a3_5 : (w4.setCell ⟨w.heap.size + 1 + 1, 4, none⟩ (.slice xo1 L1.length xc1)).cell? ⟨w.heap.size, 3, none⟩ = some (.slice ao0 L0.length ac0) := by go_cell
  have a4_5 : (w4.setCell ⟨w.heap.size + 1 + 1, 4, none⟩ (.slice xo1 L1.length xc1)).cell? ⟨w.heap.size, 4, none⟩ = some (.slice ao1 L1.length ac1) := by go_cell
  have a5_5 : (w4.setCell ⟨w.heap.size + 1 + 1, 4, none⟩ (.slice xo1 L1.length xc1)).cell? ⟨w.heap.size, 5, none⟩ = some (.slice ao2 L2.length ac2) := by go_cell
  have a6_5 : (w4.setCell ⟨w.heap.size + 1 + 1, 4, none⟩ (.slice xo1 L1.length xc1)).cell? ⟨w.heap.size, 6, none⟩ = some (.slice ao3 L3.length ac3) := by go_cell
  have a7_5 : (w4.setCell ⟨w.heap.size + 1 + 1, 4, none⟩ (.slice xo1 L1.length xc1)).cell? ⟨w.heap.size, 7, none⟩ = some (.slice ao4 L4.length ac4) := by go_cell
  have r0_5 : (w4.setCell ⟨w.heap.size + 1 + 1, 4, none⟩ (.slice xo1 L1.length xc1)).cell? ⟨w.heap.size + 1, 0, none⟩ = some (.int .i64 0) := by go_cell
  have rf0_5 : (w4.setCell ⟨w.heap.size + 1 + 1, 4, none⟩ (.slice xo1 L1.length xc1)).frozen? ⟨w.heap.size + 1, 0, none⟩ = false := by (first | go_cell | (simp [World.frozen?, World.alloc]; done) | rfl)
  have r1_5 : (w4.setCell ⟨w.heap.size + 1 + 1, 4, none⟩ (.slice xo1 L1.length xc1)).cell? ⟨w.heap.size + 1, 1, none⟩ = some (.int .i64 0) := by go_cell
  have rf1_5 : (w4.setCell ⟨w.heap.size + 1 + 1, 4, none⟩ (.slice xo1 L1.length xc1)).frozen? ⟨w.heap.size + 1, 1, none⟩ = false := by (first | go_cell | (simp [World.frozen?, World.alloc]; done) | rfl)
  have r2_5 : (w4.setCell ⟨w.heap.size + 1 + 1, 4, none⟩ (.slice xo1 L1.length xc1)).cell? ⟨w.heap.size + 1, 2, none⟩ = some (.int .i64 0) := by go_cell
  have rf2_5 : (w4.setCell ⟨w.heap.size + 1 + 1, 4, none⟩ (.slice xo1 L1.length xc1)).frozen? ⟨w.heap.size + 1, 2, none⟩ = false := by (first | go_cell | (simp [World.frozen?, World.alloc]; done) | rfl)
  have r3_5 : (w4.setCell ⟨w.heap.size + 1 + 1, 4, none⟩ (.slice xo1 L1.length xc1)).cell? ⟨w.heap.size + 1, 3, none⟩ = some (.slice none 0 0) := by go_cell
  have rf3_5 : (w4.setCell ⟨w.heap.size + 1 + 1, 4, none⟩ (.slice xo1 L1.length xc1)).frozen? ⟨w.heap.size + 1, 3, none⟩ = false := by (first | go_cell | (simp [World.frozen?, World.alloc]; done) | rfl)
  have r4_5 : (w4.setCell ⟨w.heap.size + 1 + 1, 4, none⟩ (.slice xo1 L1.length xc1)).cell? ⟨w.heap.size + 1, 4, none⟩ = some (.slice none 0 0) := by go_cell
  have rf4_5 : (w4.setCell ⟨w.heap.size + 1 + 1, 4, none⟩ (.slice xo1 L1.length xc1)).frozen? ⟨w.heap.size + 1, 4, none⟩ = false := by (first | go_cell | (simp [World.frozen?, World.alloc]; done) | rfl)
  have r5_5 : (w4.setCell ⟨w.heap.size + 1 + 1, 4, none⟩ (.slice xo1 L1.length xc1)).cell? ⟨w.heap.size + 1, 5, none⟩ = some (.slice none 0 0) := by go_cell
  have rf5_5 : (w4.setCell ⟨w.heap.size + 1 + 1, 4, none⟩ (.slice xo1 L1.length xc1)).frozen? ⟨w.heap.size + 1, 5, none⟩ = false := by (first | go_cell | (simp [World.frozen?, World.alloc]; done) | rfl)
  have r6_5 : (w4.setCell ⟨w.heap.size + 1 + 1, 4, none⟩ (.slice xo1 L1.length xc1)).cell? ⟨w.heap.size + 1, 6, none⟩ = some (.slice none 0 0) := by go_cell
  have rf6_5 : (w4.setCell ⟨w.heap.size + 1 + 1, 4, none⟩ (.slice xo1 L1.length xc1)).frozen? ⟨w.heap.size + 1, 6, none⟩ = false := by (first | go_cell | (simp [World.frozen?, World.alloc]; done) | rfl)
  have r7_5 : (w4.setCell ⟨w.heap.size + 1 + 1, 4, none⟩ (.slice xo1 L1.length xc1)).cell? ⟨w.heap.size + 1, 7, none⟩ = some (.slice none 0 0) := by go_cell
  have rf7_5 : (w4.setCell ⟨w.heap.size + 1 + 1, 4, none⟩ (.slice xo1 L1.length xc1)).frozen? ⟨w.heap.size + 1, 7, none⟩ = false := by (first | go_cell | (simp [World.frozen?, World.alloc]; done) | rfl)
  have o0_5 : (w4.setCell ⟨w.heap.size + 1 + 1, 4, none⟩ (.slice xo1 L1.length xc1)).cell? ⟨w.heap.size + 1 + 1, 0, none⟩ = some (.int .i64 i0) := by go_cell
  have of0_5 : (w4.setCell ⟨w.heap.size + 1 + 1, 4, none⟩ (.slice xo1 L1.length xc1)).frozen? ⟨w.heap.size + 1 + 1, 0, none⟩ = false := by (first | go_cell | (simp [World.frozen?, World.alloc]; done) | rfl)
  have o1_5 : (w4.setCell ⟨w.heap.size + 1 + 1, 4, none⟩ (.slice xo1 L1.length xc1)).cell? ⟨w.heap.size + 1 + 1, 1, none⟩ = some (.int .i64 i1) := by go_cell
  have of1_5 : (w4.setCell ⟨w.heap.size + 1 + 1, 4, none⟩ (.slice xo1 L1.length xc1)).frozen? ⟨w.heap.size + 1 + 1, 1, none⟩ = false := by (first | go_cell | (simp [World.frozen?, World.alloc]; done) | rfl)
  have o2_5 : (w4.setCell ⟨w.heap.size + 1 + 1, 4, none⟩ (.slice xo1 L1.length xc1)).cell? ⟨w.heap.size + 1 + 1, 2, none⟩ = some (.int .i64 i2) := by go_cell
  have of2_5 : (w4.setCell ⟨w.heap.size + 1 + 1, 4, none⟩ (.slice xo1 L1.length xc1)).frozen? ⟨w.heap.size + 1 + 1, 2, none⟩ = false := by (first | go_cell | (simp [World.frozen?, World.alloc]; done) | rfl)
  have o3_5 : (w4.setCell ⟨w.heap.size + 1 + 1, 4, none⟩ (.slice xo1 L1.length xc1)).cell? ⟨w.heap.size + 1 + 1, 3, none⟩ = some (.slice xo0 L0.length xc0) := by go_cell
  have of3_5 : (w4.setCell ⟨w.heap.size + 1 + 1, 4, none⟩ (.slice xo1 L1.length xc1)).frozen? ⟨w.heap.size + 1 + 1, 3, none⟩ = false := by (first | go_cell | (simp [World.frozen?, World.alloc]; done) | rfl)
  have o4_5 : (w4.setCell ⟨w.heap.size + 1 + 1, 4, none⟩ (.slice xo1 L1.length xc1)).cell? ⟨w.heap.size + 1 + 1, 4, none⟩ = some (.slice xo1 L1.length xc1) := by go_cell
  have of4_5 : (w4.setCell ⟨w.heap.size + 1 + 1, 4, none⟩ (.slice xo1 L1.length xc1)).frozen? ⟨w.heap.size + 1 + 1, 4, none⟩ = false := by (first | go_cell | (simp [World.frozen?, World.alloc]; done) | rfl)
  have o5_5 : (w4.setCell ⟨w.heap.size + 1 + 1, 4, none⟩ (.slice xo1 L1.length xc1)).cell? ⟨w.heap.size + 1 + 1, 5, none⟩ = some (.slice none 0 0) := by go_cell
  have of5_5 : (w4.setCell ⟨w.heap.size + 1 + 1, 4, none⟩ (.slice xo1 L1.length xc1)).frozen? ⟨w.heap.size + 1 + 1, 5, none⟩ = false := by (first | go_cell | (simp [World.frozen?, World.alloc]; done) | rfl)
  have o6_5 : (w4.setCell ⟨w.heap.size + 1 + 1, 4, none⟩ (.slice xo1 L1.length xc1)).cell? ⟨w.heap.size + 1 + 1, 6, none⟩ = some (.slice none 0 0) := by go_cell
  have of6_5 : (w4.setCell ⟨w.heap.size + 1 + 1, 4, none⟩ (.slice xo1 L1.length xc1)).frozen? ⟨w.heap.size + 1 + 1, 6, none⟩ = false := by (first | go_cell | (simp [World.frozen?, World.alloc]; done) | rfl)
  have o7_5 : (w4.setCell ⟨w.heap.size + 1 + 1, 4, none⟩ (.slice xo1 L1.length xc1)).cell? ⟨w.heap.size + 1 + 1, 7, none⟩ = some (.slice none 0 0) := by go_cell
  have of7_5 : (w4.setCell ⟨w.heap.size + 1 + 1, 4, none⟩ (.slice xo1 L1.length xc1)).frozen? ⟨w.heap.size + 1 + 1, 7, none⟩ = false := by (first | go_cell | (simp [World.frozen?, World.alloc]; done) | rfl)
  have HO0_5 := hid (HO0_4.out.set (p := ⟨w.heap.size + 1 + 1, 4, none⟩) (fun q => by have := q.1; first | omega | (simp only at this; omega)) (.slice xo1 L1.length xc1))
  clear HO0_4
  have HO1_5 := hid (HO1_4.out.set (p := ⟨w.heap.size + 1 + 1, 4, none⟩) (fun q => by have := q.1; first | omega | (simp only at this; omega)) (.slice xo1 L1.length xc1))
  clear HO1_4
  have c5 := c4.setCell (p := ⟨w.heap.size + 1 + 1, 4, none⟩) (by show w.heap.size ≤ w.heap.size + 1 + 1; omega) (.slice xo1 L1.length xc1)
  have s5 : (w4.setCell ⟨w.heap.size + 1 + 1, 4, none⟩ (.slice xo1 L1.length xc1)).heap.size = w4.heap.size := by simp
  clear a0_4 a1_4 a2_4 a3_4 a4_4 a5_4 a6_4 a7_4 r0_4 r1_4 r2_4 r3_4 r4_4 r5_4 r6_4 r7_4 rf0_4 rf1_4 rf2_4 rf3_4 rf4_4 rf5_4 rf6_4 rf7_4 o0_4 o1_4 o2_4 o3_4 o4_4 o5_4 o6_4 o7_4 of0_4 of1_4 of2_4 of3_4 of4_4 of5_4 of6_4 of7_4
  generalize (w4.setCell ⟨w.heap.size + 1 + 1, 4, none⟩ (.slice xo1 L1.length xc1)) = w5 at a0_5 a1_5 a2_5 a3_5 a4_5 a5_5 a6_5 a7_5 r0_5 rf0_5 r1_5 rf1_5 r2_5 rf2_5 r3_5 rf3_5 r4_5 rf4_5 r5_5 rf5_5 r6_5 rf6_5 r7_5 rf7_5 o0_5 of0_5 o1_5 of1_5 o2_5 of2_5 o3_5 of3_5 o4_5 of4_5 o5_5 of5_5 o6_5 of6_5 o7_5 of7_5 HO0_5 HO1_5 c5 s5 ⊢
  have al_5 : w.heap.size < w5.heap.size := by omega
  have rl_5 : w.heap.size + 1 < w5.heap.size := by omega
  have ol_5 : w.heap.size + 1 + 1 < w5.heap.size := by omega
  refine (toIntentS_own _ L2 _ (HA2.out.later c5) hl2).mono ?_
  rintro e w6 ⟨x2, rfl, ho, b6⟩
  have hx2 := ho.rd'
  obtain ⟨xo2, xc2, hv, _⟩ := hx2
  subst hv
  have hz6 : w5.heap.size ≤ w6.heap.size := b6.size
  have d6 : Below w5.heap.size w5 w6 := (Below.trans (by go_grown) (b6.mono (by first | omega | (simp; done) | (simp; omega))))
  have c6 : Below w.heap.size w w6 := c5.trans (d6.mono c5.size)
  have a0_6 : w6.cell? ⟨w.heap.size, 0, none⟩ = some (.int .i64 i0) := (by rw [b6.cell (by first | omega | (simp; done) | (simp; omega))]; go_cell)
  have a1_6 : w6.cell? ⟨w.heap.size, 1, none⟩ = some (.int .i64 i1) := (by rw [b6.cell (by first | omega | (simp; done) | (simp; omega))]; go_cell)
  have a2_6 : w6.cell? ⟨w.heap.size, 2, none⟩ = some (.int .i64 i2) := (by rw [b6.cell (by first | omega | (simp; done) | (simp; omega))]; go_cell)
  have a3_6 : w6.cell? ⟨w.heap.size, 3, none⟩ = some (.slice ao0 L0.length ac0) := (by rw [b6.cell (by first | omega | (simp; done) | (simp; omega))]; go_cell)
  have a4_6 : w6.cell? ⟨w.heap.size, 4, none⟩ = some (.slice ao1 L1.length ac1) := (by rw [b6.cell (by first | omega | (simp; done) | (simp; omega))]; go_cell)
  have a5_6 : w6.cell? ⟨w.heap.size, 5, none⟩ = some (.slice ao2 L2.length ac2) := (by rw [b6.cell (by first | omega | (simp; done) | (simp; omega))]; go_cell)
  have a6_6 : w6.cell? ⟨w.heap.size, 6, none⟩ = some (.slice ao3 L3.length ac3) := (by rw [b6.cell (by first | omega | (simp; done) | (simp; omega))]; go_cell)
  have a7_6 : w6.cell? ⟨w.heap.size, 7, none⟩ = some (.slice ao4 L4.length ac4) := (by rw [b6.cell (by first | omega | (simp; done) | (simp; omega))]; go_cell)
  have al_6 : w.heap.size < w6.heap.size := (by have := b6.size; first | omega | (revert this; simp; done) | (revert this; simp; omega))
  have r0_6 : w6.cell? ⟨w.heap.size + 1, 0, none⟩ = some (.int .i64 0) := (by rw [b6.cell (by first | omega | (simp; done) | (simp; omega))]; go_cell)
  have rf0_6 : w6.frozen? ⟨w.heap.size + 1, 0, none⟩ = false := (by rw [b6.frozen (by first | omega | (simp; done) | (simp; omega))]; (first | go_cell | (simp [World.frozen?, World.alloc]; done) | rfl))
  have r1_6 : w6.cell? ⟨w.heap.size + 1, 1, none⟩ = some (.int .i64 0) := (by rw [b6.cell (by first | omega | (simp; done) | (simp; omega))]; go_cell)
  have rf1_6 : w6.frozen? ⟨w.heap.size + 1, 1, none⟩ = false := (by rw [b6.frozen (by first | omega | (simp; done) | (simp; omega))]; (first | go_cell | (simp [World.frozen?, World.alloc]; done) | rfl))
  have r2_6 : w6.cell? ⟨w.heap.size + 1, 2, none⟩ = some (.int .i64 0) := (by rw [b6.cell (by first | omega | (simp; done) | (simp; omega))]; go_cell)
  have rf2_6 : w6.frozen? ⟨w.heap.size + 1, 2, none⟩ = false := (by rw [b6.frozen (by first | omega | (simp; done) | (simp; omega))]; (first | go_cell | (simp [World.frozen?, World.alloc]; done) | rfl))
  have r3_6 : w6.cell? ⟨w.heap.size + 1, 3, none⟩ = some (.slice none 0 0) := (by rw [b6.cell (by first | omega | (simp; done) | (simp; omega))]; go_cell)
  have rf3_6 : w6.frozen? ⟨w.heap.size + 1, 3, none⟩ = false := (by rw [b6.frozen (by first | omega | (simp; done) | (simp; omega))]; (first | go_cell | (simp [World.frozen?, World.alloc]; done) | rfl))
  have r4_6 : w6.cell? ⟨w.heap.size + 1, 4, none⟩ = some (.slice none 0 0) := (by rw [b6.cell (by first | omega | (simp; done) | (simp; omega))]; go_cell)
  have rf4_6 : w6.frozen? ⟨w.heap.size + 1, 4, none⟩ = false := (by rw [b6.frozen (by first | omega | (simp; done) | (simp; omega))]; (first | go_cell | (simp [World.frozen?, World.alloc]; done) | rfl))
  have r5_6 : w6.cell? ⟨w.heap.size + 1, 5, none⟩ = some (.slice none 0 0) := (by rw [b6.cell (by first | omega | (simp; done) | (simp; omega))]; go_cell)
  have rf5_6 : w6.frozen? ⟨w.heap.size + 1, 5, none⟩ = false := (by rw [b6.frozen (by first | omega | (simp; done) | (simp; omega))]; (first | go_cell | (simp [World.frozen?, World.alloc]; done) | rfl))
  have r6_6 : w6.cell? ⟨w.heap.size + 1, 6, none⟩ = some (.slice none 0 0) := (by rw [b6.cell (by first | omega | (simp; done) | (simp; omega))]; go_cell)
  have rf6_6 : w6.frozen? ⟨w.heap.size + 1, 6, none⟩ = false := (by rw [b6.frozen (by first | omega | (simp; done) | (simp; omega))]; (first | go_cell | (simp [World.frozen?, World.alloc]; done) | rfl))
  have r7_6 : w6.cell? ⟨w.heap.size + 1, 7, none⟩ = some (.slice none 0 0) := (by rw [b6.cell (by first | omega | (simp; done) | (simp; omega))]; go_cell)
  have rf7_6 : w6.frozen? ⟨w.heap.size + 1, 7, none⟩ = false := (by rw [b6.frozen (by first | omega | (simp; done) | (simp; omega))]; (first | go_cell | (simp [World.frozen?, World.alloc]; done) | rfl))
  have rl_6 : w.heap.size + 1 < w6.heap.size := (by have := b6.size; first | omega | (revert this; simp; done) | (revert this; simp; omega))
  have o0_6 : w6.cell? ⟨w.heap.size + 1 + 1, 0, none⟩ = some (.int .i64 i0) := (by rw [b6.cell (by first | omega | (simp; done) | (simp; omega))]; go_cell)
  have of0_6 : w6.frozen? ⟨w.heap.size + 1 + 1, 0, none⟩ = false := (by rw [b6.frozen (by first | omega | (simp; done) | (simp; omega))]; (first | go_cell | (simp [World.frozen?, World.alloc]; done) | rfl))
  have o1_6 : w6.cell? ⟨w.heap.size + 1 + 1, 1, none⟩ = some (.int .i64 i1) := (by rw [b6.cell (by first | omega | (simp; done) | (simp; omega))]; go_cell)
  have of1_6 : w6.frozen? ⟨w.heap.size + 1 + 1, 1, none⟩ = false := (by rw [b6.frozen (by first | omega | (simp; done) | (simp; omega))]; (first | go_cell | (simp [World.frozen?, World.alloc]; done) | rfl))
  have o2_6 : w6.cell? ⟨w.heap.size + 1 + 1, 2, none⟩ = some (.int .i64 i2) := (by rw [b6.cell (by first | omega | (simp; done) | (simp; omega))]; go_cell)
  have of2_6 : w6.frozen? ⟨w.heap.size + 1 + 1, 2, none⟩ = false := (by rw [b6.frozen (by first | omega | (simp; done) | (simp; omega))]; (first | go_cell | (simp [World.frozen?, World.alloc]; done) | rfl))
  have o3_6 : w6.cell? ⟨w.heap.size + 1 + 1, 3, none⟩ = some (.slice xo0 L0.length xc0) := (by rw [b6.cell (by first | omega | (simp; done) | (simp; omega))]; go_cell)
  have of3_6 : w6.frozen? ⟨w.heap.size + 1 + 1, 3, none⟩ = false := (by rw [b6.frozen (by first | omega | (simp; done) | (simp; omega))]; (first | go_cell | (simp [World.frozen?, World.alloc]; done) | rfl))
  have o4_6 : w6.cell? ⟨w.heap.size + 1 + 1, 4, none⟩ = some (.slice xo1 L1.length xc1) := (by rw [b6.cell (by first | omega | (simp; done) | (simp; omega))]; go_cell)
  have of4_6 : w6.frozen? ⟨w.heap.size + 1 + 1, 4, none⟩ = false := (by rw [b6.frozen (by first | omega | (simp; done) | (simp; omega))]; (first | go_cell | (simp [World.frozen?, World.alloc]; done) | rfl))
  have o5_6 : w6.cell? ⟨w.heap.size + 1 + 1, 5, none⟩ = some (.slice none 0 0) := (by rw [b6.cell (by first | omega | (simp; done) | (simp; omega))]; go_cell)
  have of5_6 : w6.frozen? ⟨w.heap.size + 1 + 1, 5, none⟩ = false := (by rw [b6.frozen (by first | omega | (simp; done) | (simp; omega))]; (first | go_cell | (simp [World.frozen?, World.alloc]; done) | rfl))
  have o6_6 : w6.cell? ⟨w.heap.size + 1 + 1, 6, none⟩ = some (.slice none 0 0) := (by rw [b6.cell (by first | omega | (simp; done) | (simp; omega))]; go_cell)
  have of6_6 : w6.frozen? ⟨w.heap.size + 1 + 1, 6, none⟩ = false := (by rw [b6.frozen (by first | omega | (simp; done) | (simp; omega))]; (first | go_cell | (simp [World.frozen?, World.alloc]; done) | rfl))
  have o7_6 : w6.cell? ⟨w.heap.size + 1 + 1, 7, none⟩ = some (.slice none 0 0) := (by rw [b6.cell (by first | omega | (simp; done) | (simp; omega))]; go_cell)
  have of7_6 : w6.frozen? ⟨w.heap.size + 1 + 1, 7, none⟩ = false := (by rw [b6.frozen (by first | omega | (simp; done) | (simp; omega))]; (first | go_cell | (simp [World.frozen?, World.alloc]; done) | rfl))
  have ol_6 : w.heap.size + 1 + 1 < w6.heap.size := (by have := b6.size; first | omega | (revert this; simp; done) | (revert this; simp; omega))
  clear a0_5 a1_5 a2_5 a3_5 a4_5 a5_5 a6_5 a7_5 al_5 r0_5 rf0_5 r1_5 rf1_5 r2_5 rf2_5 r3_5 rf3_5 r4_5 rf4_5 r5_5 rf5_5 r6_5 rf6_5 r7_5 rf7_5 rl_5 o0_5 of0_5 o1_5 of1_5 o2_5 of2_5 o3_5 of3_5 o4_5 of4_5 o5_5 of5_5 o6_5 of6_5 o7_5 of7_5 ol_5
  have HO0_6 := hid (HO0_5.out.later d6)
  clear HO0_5
  have HO1_6 := hid (HO1_5.out.later d6)
  clear HO1_5
  have HO2_6 := hid ho
  clear ho b6 d6
  go_wp2_with fail
  have a0_7 : (w6.setCell ⟨w.heap.size + 1 + 1, 5, none⟩ (.slice xo2 L2.length xc2)).cell? ⟨w.heap.size, 0, none⟩ = some (.int .i64 i0) := by go_cell
  have a1_7 : (w6.setCell ⟨w.heap.size + 1 + 1, 5, none⟩ (.slice xo2 L2.length xc2)).cell? ⟨w.heap.size, 1, none⟩ = some (.int .i64 i1) := by go_cell
  have a2_7 : (w6.setCell ⟨w.heap.size + 1 + 1, 5, none⟩ (.slice xo2 L2.length xc2)).cell? ⟨w.heap.size, 2, none⟩ = some (.int .i64 i2) := by go_cell
  have a3_7 : (w6.setCell ⟨w.heap.size + 1 + 1, 5, none⟩ (.slice xo2 L2.length xc2)).cell? ⟨w.heap.size, 3, none⟩ = some (.slice ao0 L0.length ac0) := by go_cell
  have a4_7 : (w6.setCell ⟨w.heap.size + 1 + 1, 5, none⟩ (.slice xo2 L2.length xc2)).cell? ⟨w.heap.size, 4, none⟩ = some (.slice ao1 L1.length ac1) := by go_cell
  have a5_7 : (w6.setCell ⟨w.heap.size + 1 + 1, 5, none⟩ (.slice xo2 L2.length xc2)).cell? ⟨w.heap.size, 5, none⟩ = some (.slice ao2 L2.length ac2) := by go_cell
  have a6_7 : (w6.setCell ⟨w.heap.size + 1 + 1, 5, none⟩ (.slice xo2 L2.length xc2)).cell? ⟨w.heap.size, 6, none⟩ = some (.slice ao3 L3.length ac3) := by go_cell
  have a7_7 : (w6.setCell ⟨w.heap.size + 1 + 1, 5, none⟩ (.slice xo2 L2.length xc2)).cell? ⟨w.heap.size, 7, none⟩ = some (.slice ao4 L4.length ac4) := by go_cell
  have r0_7 : (w6.setCell ⟨w.heap.size + 1 + 1, 5, none⟩ (.slice xo2 L2.length xc2)).cell? ⟨w.heap.size + 1, 0, none⟩ = some (.int .i64 0) := by go_cell
  have rf0_7 : (w6.setCell ⟨w.heap.size + 1 + 1, 5, none⟩ (.slice xo2 L2.length xc2)).frozen? ⟨w.heap.size + 1, 0, none⟩ = false := by (first | go_cell | (simp [World.frozen?, World.alloc]; done) | rfl)
  have r1_7 : (w6.setCell ⟨w.heap.size + 1 + 1, 5, none⟩ (.slice xo2 L2.length xc2)).cell? ⟨w.heap.size + 1, 1, none⟩ = some (.int .i64 0) := by go_cell
  have rf1_7 : (w6.setCell ⟨w.heap.size + 1 + 1, 5, none⟩ (.slice xo2 L2.length xc2)).frozen? ⟨w.heap.size + 1, 1, none⟩ = false := by (first | go_cell | (simp [World.frozen?, World.alloc]; done) | rfl)
  have r2_7 : (w6.setCell ⟨w.heap.size + 1 + 1, 5, none⟩ (.slice xo2 L2.length xc2)).cell? ⟨w.heap.size + 1, 2, none⟩ = some (.int .i64 0) := by go_cell
  have rf2_7 : (w6.setCell ⟨w.heap.size + 1 + 1, 5, none⟩ (.slice xo2 L2.length xc2)).frozen? ⟨w.heap.size + 1, 2, none⟩ = false := by (first | go_cell | (simp [World.frozen?, World.alloc]; done) | rfl)
  have r3_7 : (w6.setCell ⟨w.heap.size + 1 + 1, 5, none⟩ (.slice xo2 L2.length xc2)).cell? ⟨w.heap.size + 1, 3, none⟩ = some (.slice none 0 0) := by go_cell
  have rf3_7 : (w6.setCell ⟨w.heap.size + 1 + 1, 5, none⟩ (.slice xo2 L2.length xc2)).frozen? ⟨w.heap.size + 1, 3, none⟩ = false := by (first | go_cell | (simp [World.frozen?, World.alloc]; done) | rfl)
  have r4_7 : (w6.setCell ⟨w.heap.size + 1 + 1, 5, none⟩ (.slice xo2 L2.length xc2)).cell? ⟨w.heap.size + 1, 4, none⟩ = some (.slice none 0 0) := by go_cell
  have rf4_7 : (w6.setCell ⟨w.heap.size + 1 + 1, 5, none⟩ (.slice xo2 L2.length xc2)).frozen? ⟨w.heap.size + 1, 4, none⟩ = false := by (first | go_cell | (simp [World.frozen?, World.alloc]; done) | rfl)
  have r5_7 : (w6.setCell ⟨w.heap.size + 1 + 1, 5, none⟩ (.slice xo2 L2.length xc2)).cell? ⟨w.heap.size + 1, 5, none⟩ = some (.slice none 0 0) := by go_cell
  have rf5_7 : (w6.setCell ⟨w.heap.size + 1 + 1, 5, none⟩ (.slice xo2 L2.length xc2)).frozen? ⟨w.heap.size + 1, 5, none⟩ = false := by (first | go_cell | (simp [World.frozen?, World.alloc]; done) | rfl)
  have r6_7 : (w6.setCell ⟨w.heap.size + 1 + 1, 5, none⟩ (.slice xo2 L2.length xc2)).cell? ⟨w.heap.size + 1, 6, none⟩ = some (.slice none 0 0) := by go_cell
  have rf6_7 : (w6.setCell ⟨w.heap.size + 1 + 1, 5, none⟩ (.slice xo2 L2.length xc2)).frozen? ⟨w.heap.size + 1, 6, none⟩ = false := by (first | go_cell | (simp [World.frozen?, World.alloc]; done) | rfl)
  have r7_7 : (w6.setCell ⟨w.heap.size + 1 + 1, 5, none⟩ (.slice xo2 L2.length xc2)).cell? ⟨w.heap.size + 1, 7, none⟩ = some (.slice none 0 0) := by go_cell
  have rf7_7 : (w6.setCell ⟨w.heap.size + 1 + 1, 5, none⟩ (.slice xo2 L2.length xc2)).frozen? ⟨w.heap.size + 1, 7, none⟩ = false := by (first | go_cell | (simp [World.frozen?, World.alloc]; done) | rfl)
  have o0_7 : (w6.setCell ⟨w.heap.size + 1 + 1, 5, none⟩ (.slice xo2 L2.length xc2)).cell? ⟨w.heap.size + 1 + 1, 0, none⟩ = some (.int .i64 i0) := by go_cell
  have of0_7 : (w6.setCell ⟨w.heap.size + 1 + 1, 5, none⟩ (.slice xo2 L2.length xc2)).frozen? ⟨w.heap.size + 1 + 1, 0, none⟩ = false := by (first | go_cell | (simp [World.frozen?, World.alloc]; done) | rfl)
  have o1_7 : (w6.setCell ⟨w.heap.size + 1 + 1, 5, none⟩ (.slice xo2 L2.length xc2)).cell? ⟨w.heap.size + 1 + 1, 1, none⟩ = some (.int .i64 i1) := by go_cell
  have of1_7 : (w6.setCell ⟨w.heap.size + 1 + 1, 5, none⟩ (.slice xo2 L2.length xc2)).frozen? ⟨w.heap.size + 1 + 1, 1, none⟩ = false := by (first | go_cell | (simp [World.frozen?, World.alloc]; done) | rfl)
  have o2_7 : (w6.setCell ⟨w.heap.size + 1 + 1, 5, none⟩ (.slice xo2 L2.length xc2)).cell? ⟨w.heap.size + 1 + 1, 2, none⟩ = some (.int .i64 i2) := by go_cell
  have of2_7 : (w6.setCell ⟨w.heap.size + 1 + 1, 5, none⟩ (.slice xo2 L2.length xc2)).frozen? ⟨w.heap.size + 1 + 1, 2, none⟩ = false := by (first | go_cell | (simp [World.frozen?, World.alloc]; done) | rfl)
  have o3_7 : (w6.setCell ⟨w.heap.size + 1 + 1, 5, none⟩ (.slice xo2 L2.length xc2)).cell? ⟨w.heap.size + 1 + 1, 3, none⟩ = some (.slice xo0 L0.length xc0) := by go_cell
  have of3_7 : (w6.setCell ⟨w.heap.size + 1 + 1, 5, none⟩ (.slice xo2 L2.length xc2)).frozen? ⟨w.heap.size + 1 + 1, 3, none⟩ = false := by (first | go_cell | (simp [World.frozen?, World.alloc]; done) | rfl)
  have o4_7 : (w6.setCell ⟨w.heap.size + 1 + 1, 5, none⟩ (.slice xo2 L2.length xc2)).cell? ⟨w.heap.size + 1 + 1, 4, none⟩ = some (.slice xo1 L1.length xc1) := by go_cell
  have of4_7 : (w6.setCell ⟨w.heap.size + 1 + 1, 5, none⟩ (.slice xo2 L2.length xc2)).frozen? ⟨w.heap.size + 1 + 1, 4, none⟩ = false := by (first | go_cell | (simp [World.frozen?, World.alloc]; done) | rfl)
  have o5_7 : (w6.setCell ⟨w.heap.size + 1 + 1, 5, none⟩ (.slice xo2 L2.length xc2)).cell? ⟨w.heap.size + 1 + 1, 5, none⟩ = some (.slice xo2 L2.length xc2) := by go_cell
  have of5_7 : (w6.setCell ⟨w.heap.size + 1 + 1, 5, none⟩ (.slice xo2 L2.length xc2)).frozen? ⟨w.heap.size + 1 + 1, 5, none⟩ = false := by (first | go_cell | (simp [World.frozen?, World.alloc]; done) | rfl)
  have o6_7 : (w6.setCell ⟨w.heap.size + 1 + 1, 5, none⟩ (.slice xo2 L2.length xc2)).cell? ⟨w.heap.size + 1 + 1, 6, none⟩ = some (.slice none 0 0) := by go_cell
  have of6_7 : (w6.setCell ⟨w.heap.size + 1 + 1, 5, none⟩ (.slice xo2 L2.length xc2)).frozen? ⟨w.heap.size + 1 + 1, 6, none⟩ = false := by (first | go_cell | (simp [World.frozen?, World.alloc]; done) | rfl)
  have o7_7 : (w6.setCell ⟨w.heap.size + 1 + 1, 5, none⟩ (.slice xo2 L2.length xc2)).cell? ⟨w.heap.size + 1 + 1, 7, none⟩ = some (.slice none 0 0) := by go_cell
  have of7_7 : (w6.setCell ⟨w.heap.size + 1 + 1, 5, none⟩ (.slice xo2 L2.length xc2)).frozen? ⟨w.heap.size + 1 + 1, 7, none⟩ = false := by (first | go_cell | (simp [World.frozen?, World.alloc]; done) | rfl)
  have HO0_7 := hid (HO0_6.out.set (p := ⟨w.heap.size + 1 + 1, 5, none⟩) (fun q => by have := q.1; first | omega | (simp only at this; omega)) (.slice xo2 L2.length xc2))
  clear HO0_6
  have HO1_7 := hid (HO1_6.out.set (p := ⟨w.heap.size + 1 + 1, 5, none⟩) (fun q => by have := q.1; first | omega | (simp only at this; omega)) (.slice xo2 L2.length xc2))
  clear HO1_6
  have HO2_7 := hid (HO2_6.out.set (p := ⟨w.heap.size + 1 + 1, 5, none⟩) (fun q => by have := q.1; first | omega | (simp only at this; omega)) (.slice xo2 L2.length xc2))
  clear HO2_6
  have c7 := c6.setCell (p := ⟨w.heap.size + 1 + 1, 5, none⟩) (by show w.heap.size ≤ w.heap.size + 1 + 1; omega) (.slice xo2 L2.length xc2)
  have s7 : (w6.setCell ⟨w.heap.size + 1 + 1, 5, none⟩ (.slice xo2 L2.length xc2)).heap.size = w6.heap.size := by simp
  clear a0_6 a1_6 a2_6 a3_6 a4_6 a5_6 a6_6 a7_6 r0_6 r1_6 r2_6 r3_6 r4_6 r5_6 r6_6 r7_6 rf0_6 rf1_6 rf2_6 rf3_6 rf4_6 rf5_6 rf6_6 rf7_6 o0_6 o1_6 o2_6 o3_6 o4_6 o5_6 o6_6 o7_6 of0_6 of1_6 of2_6 of3_6 of4_6 of5_6 of6_6 of7_6
  generalize (w6.setCell ⟨w.heap.size + 1 + 1, 5, none⟩ (.slice xo2 L2.length xc2)) = w7 at a0_7 a1_7 a2_7 a3_7 a4_7 a5_7 a6_7 a7_7 r0_7 rf0_7 r1_7 rf1_7 r2_7 rf2_7 r3_7 rf3_7 r4_7 rf4_7 r5_7 rf5_7 r6_7 rf6_7 r7_7 rf7_7 o0_7 of0_7 o1_7 of1_7 o2_7 of2_7 o3_7 of3_7 o4_7 of4_7 o5_7 of5_7 o6_7 of6_7 o7_7 of7_7 HO0_7 HO1_7 HO2_7 c7 s7 ⊢
  have al_7 : w.heap.size < w7.heap.size := by omega
  have rl_7 : w.heap.size + 1 < w7.heap.size := by omega
  have ol_7 : w.heap.size + 1 + 1 < w7.heap.size := by omega
  refine (toSeenS_own _ L3 _ (HA3.out.later c7) hl3).mono ?_
  rintro e w8 ⟨x3, rfl, ho, b8⟩
  have hx3 := ho.rd'
  obtain ⟨xo3, xc3, hv, _⟩ := hx3
  subst hv
  have hz8 : w7.heap.size ≤ w8.heap.size := b8.size
  have d8 : Below w7.heap.size w7 w8 := (Below.trans (by go_grown) (b8.mono (by first | omega | (simp; done) | (simp; omega))))
  have c8 : Below w.heap.size w w8 := c7.trans (d8.mono c7.size)
  have a0_8 : w8.cell? ⟨w.heap.size, 0, none⟩ = some (.int .i64 i0) := (by rw [b8.cell (by first | omega | (simp; done) | (simp; omega))]; go_cell)
  have a1_8 : w8.cell? ⟨w.heap.size, 1, none⟩ = some (.int .i64 i1) := (by rw [b8.cell (by first | omega | (simp; done) | (simp; omega))]; go_cell)
  have a2_8 : w8.cell? ⟨w.heap.size, 2, none⟩ = some (.int .i64 i2) := (by rw [b8.cell (by first | omega | (simp; done) | (simp; omega))]; go_cell)
  have a3_8 : w8.cell? ⟨w.heap.size, 3, none⟩ = some (.slice ao0 L0.length ac0) := (by rw [b8.cell (by first | omega | (simp; done) | (simp; omega))]; go_cell)
  have a4_8 : w8.cell? ⟨w.heap.size, 4, none⟩ = some (.slice ao1 L1.length ac1) := (by rw [b8.cell (by first | omega | (simp; done) | (simp; omega))]; go_cell)
  have a5_8 : w8.cell? ⟨w.heap.size, 5, none⟩ = some (.slice ao2 L2.length ac2) := (by rw [b8.cell (by first | omega | (simp; done) | (simp; omega))]; go_cell)
  have a6_8 : w8.cell? ⟨w.heap.size, 6, none⟩ = some (.slice ao3 L3.length ac3) := (by rw [b8.cell (by first | omega | (simp; done) | (simp; omega))]; go_cell)
  have a7_8 : w8.cell? ⟨w.heap.size, 7, none⟩ = some (.slice ao4 L4.length ac4) := (by rw [b8.cell (by first | omega | (simp; done) | (simp; omega))]; go_cell)
  have al_8 : w.heap.size < w8.heap.size := (by have := b8.size; first | omega | (revert this; simp; done) | (revert this; simp; omega))
  have r0_8 : w8.cell? ⟨w.heap.size + 1, 0, none⟩ = some (.int .i64 0) := (by rw [b8.cell (by first | omega | (simp; done) | (simp; omega))]; go_cell)
  have rf0_8 : w8.frozen? ⟨w.heap.size + 1, 0, none⟩ = false := (by rw [b8.frozen (by first | omega | (simp; done) | (simp; omega))]; (first | go_cell | (simp [World.frozen?, World.alloc]; done) | rfl))
  have r1_8 : w8.cell? ⟨w.heap.size + 1, 1, none⟩ = some (.int .i64 0) := (by rw [b8.cell (by first | omega | (simp; done) | (simp; omega))]; go_cell)
  have rf1_8 : w8.frozen? ⟨w.heap.size + 1, 1, none⟩ = false := (by rw [b8.frozen (by first | omega | (simp; done) | (simp; omega))]; (first | go_cell | (simp [World.frozen?, World.alloc]; done) | rfl))
  have r2_8 : w8.cell? ⟨w.heap.size + 1, 2, none⟩ = some (.int .i64 0) := (by rw [b8.cell (by first | omega | (simp; done) | (simp; omega))]; go_cell)
  have rf2_8 : w8.frozen? ⟨w.heap.size + 1, 2, none⟩ = false := (by rw [b8.frozen (by first | omega | (simp; done) | (simp; omega))]; (first | go_cell | (simp [World.frozen?, World.alloc]; done) | rfl))
  have r3_8 : w8.cell? ⟨w.heap.size + 1, 3, none⟩ = some (.slice none 0 0) := (by rw [b8.cell (by first | omega | (simp; done) | (simp; omega))]; go_cell)
  have rf3_8 : w8.frozen? ⟨w.heap.size + 1, 3, none⟩ = false := (by rw [b8.frozen (by first | omega | (simp; done) | (simp; omega))]; (first | go_cell | (simp [World.frozen?, World.alloc]; done) | rfl))
  have r4_8 : w8.cell? ⟨w.heap.size + 1, 4, none⟩ = some (.slice none 0 0) := (by rw [b8.cell (by first | omega | (simp; done) | (simp; omega))]; go_cell)
  have rf4_8 : w8.frozen? ⟨w.heap.size + 1, 4, none⟩ = false := (by rw [b8.frozen (by first | omega | (simp; done) | (simp; omega))]; (first | go_cell | (simp [World.frozen?, World.alloc]; done) | rfl))
  have r5_8 : w8.cell? ⟨w.heap.size + 1, 5, none⟩ = some (.slice none 0 0) := (by rw [b8.cell (by first | omega | (simp; done) | (simp; omega))]; go_cell)
  have rf5_8 : w8.frozen? ⟨w.heap.size + 1, 5, none⟩ = false := (by rw [b8.frozen (by first | omega | (simp; done) | (simp; omega))]; (first | go_cell | (simp [World.frozen?, World.alloc]; done) | rfl))
  have r6_8 : w8.cell? ⟨w.heap.size + 1, 6, none⟩ = some (.slice none 0 0) := (by rw [b8.cell (by first | omega | (simp; done) | (simp; omega))]; go_cell)
  have rf6_8 : w8.frozen? ⟨w.heap.size + 1, 6, none⟩ = false := (by rw [b8.frozen (by first | omega | (simp; done) | (simp; omega))]; (first | go_cell | (simp [World.frozen?, World.alloc]; done) | rfl))
  have r7_8 : w8.cell? ⟨w.heap.size + 1, 7, none⟩ = some (.slice none 0 0) := (by rw [b8.cell (by first | omega | (simp; done) | (simp; omega))]; go_cell)
  have rf7_8 : w8.frozen? ⟨w.heap.size + 1, 7, none⟩ = false := (by rw [b8.frozen (by first | omega | (simp; done) | (simp; omega))]; (first | go_cell | (simp [World.frozen?, World.alloc]; done) | rfl))
  have rl_8 : w.heap.size + 1 < w8.heap.size := (by have := b8.size; first | omega | (revert this; simp; done) | (revert this; simp; omega))
  have o0_8 : w8.cell? ⟨w.heap.size + 1 + 1, 0, none⟩ = some (.int .i64 i0) := (by rw [b8.cell (by first | omega | (simp; done) | (simp; omega))]; go_cell)
  have of0_8 : w8.frozen? ⟨w.heap.size + 1 + 1, 0, none⟩ = false := (by rw [b8.frozen (by first | omega | (simp; done) | (simp; omega))]; (first | go_cell | (simp [World.frozen?, World.alloc]; done) | rfl))
  have o1_8 : w8.cell? ⟨w.heap.size + 1 + 1, 1, none⟩ = some (.int .i64 i1) := (by rw [b8.cell (by first | omega | (simp; done) | (simp; omega))]; go_cell)
  have of1_8 : w8.frozen? ⟨w.heap.size + 1 + 1, 1, none⟩ = false := (by rw [b8.frozen (by first | omega | (simp; done) | (simp; omega))]; (first | go_cell | (simp [World.frozen?, World.alloc]; done) | rfl))
  have o2_8 : w8.cell? ⟨w.heap.size + 1 + 1, 2, none⟩ = some (.int .i64 i2) := (by rw [b8.cell (by first | omega | (simp; done) | (simp; omega))]; go_cell)
  have of2_8 : w8.frozen? ⟨w.heap.size + 1 + 1, 2, none⟩ = false := (by rw [b8.frozen (by first | omega | (simp; done) | (simp; omega))]; (first | go_cell | (simp [World.frozen?, World.alloc]; done) | rfl))
  have o3_8 : w8.cell? ⟨w.heap.size + 1 + 1, 3, none⟩ = some (.slice xo0 L0.length xc0) := (by rw [b8.cell (by first | omega | (simp; done) | (simp; omega))]; go_cell)
  have of3_8 : w8.frozen? ⟨w.heap.size + 1 + 1, 3, none⟩ = false := (by rw [b8.frozen (by first | omega | (simp; done) | (simp; omega))]; (first | go_cell | (simp [World.frozen?, World.alloc]; done) | rfl))
  have o4_8 : w8.cell? ⟨w.heap.size + 1 + 1, 4, none⟩ = some (.slice xo1 L1.length xc1) := (by rw [b8.cell (by first | omega | (simp; done) | (simp; omega))]; go_cell)
  have of4_8 : w8.frozen? ⟨w.heap.size + 1 + 1, 4, none⟩ = false := (by rw [b8.frozen (by first | omega | (simp; done) | (simp; omega))]; (first | go_cell | (simp [World.frozen?, World.alloc]; done) | rfl))
  have o5_8 : w8.cell? ⟨w.heap.size + 1 + 1, 5, none⟩ = some (.slice xo2 L2.length xc2) := (by rw [b8.cell (by first | omega | (simp; done) | (simp; omega))]; go_cell)
  have of5_8 : w8.frozen? ⟨w.heap.size + 1 + 1, 5, none⟩ = false := (by rw [b8.frozen (by first | omega | (simp; done) | (simp; omega))]; (first | go_cell | (simp [World.frozen?, World.alloc]; done) | rfl))
  have o6_8 : w8.cell? ⟨w.heap.size + 1 + 1, 6, none⟩ = some (.slice none 0 0) := (by rw [b8.cell (by first | omega | (simp; done) | (simp; omega))]; go_cell)
  have of6_8 : w8.frozen? ⟨w.heap.size + 1 + 1, 6, none⟩ = false := (by rw [b8.frozen (by first | omega | (simp; done) | (simp; omega))]; (first | go_cell | (simp [World.frozen?, World.alloc]; done) | rfl))
  have o7_8 : w8.cell? ⟨w.heap.size + 1 + 1, 7, none⟩ = some (.slice none 0 0) := (by rw [b8.cell (by first | omega | (simp; done) | (simp; omega))]; go_cell)
  have of7_8 : w8.frozen? ⟨w.heap.size + 1 + 1, 7, none⟩ = false := (by rw [b8.frozen (by first | omega | (simp; done) | (simp; omega))]; (first | go_cell | (simp [World.frozen?, World.alloc]; done) | rfl))
  have ol_8 : w.heap.size + 1 + 1 < w8.heap.size := (by have := b8.size; first | omega | (revert this; simp; done) | (revert this; simp; omega))
  clear a0_7 a1_7 a2_7 a3_7 a4_7 a5_7 a6_7 a7_7 al_7 r0_7 rf0_7 r1_7 rf1_7 r2_7 rf2_7 r3_7 rf3_7 r4_7 rf4_7 r5_7 rf5_7 r6_7 rf6_7 r7_7 rf7_7 rl_7 o0_7 of0_7 o1_7 of1_7 o2_7 of2_7 o3_7 of3_7 o4_7 of4_7 o5_7 of5_7 o6_7 of6_7 o7_7 of7_7 ol_7
  have HO0_8 := hid (HO0_7.out.later d8)
  clear HO0_7
  have HO1_8 := hid (HO1_7.out.later d8)
  clear HO1_7
  have HO2_8 := hid (HO2_7.out.later d8)
  clear HO2_7
  have HO3_8 := hid ho
  clear ho b8 d8
  go_wp2_with fail
  have a0_9 : (w8.setCell ⟨w.heap.size + 1 + 1, 6, none⟩ (.slice xo3 L3.length xc3)).cell? ⟨w.heap.size, 0, none⟩ = some (.int .i64 i0) := by go_cell
  have a1_9 : (w8.setCell ⟨w.heap.size + 1 + 1, 6, none⟩ (.slice xo3 L3.length xc3)).cell? ⟨w.heap.size, 1, none⟩ = some (.int .i64 i1) := by go_cell
  have a2_9 : (w8.setCell ⟨w.heap.size + 1 + 1, 6, none⟩ (.slice xo3 L3.length xc3)).cell? ⟨w.heap.size, 2, none⟩ = some (.int .i64 i2) := by go_cell
  have a3_9 : (w8.setCell ⟨w.heap.size + 1 + 1, 6, none⟩ (.slice xo3 L3.length xc3)).cell? ⟨w.heap.size, 3, none⟩ = some (.slice ao0 L0.length ac0) := by go_cell
  have a4_9 : (w8.setCell ⟨w.heap.size + 1 + 1, 6, none⟩ (.slice xo3 L3.length xc3)).cell? ⟨w.heap.size, 4, none⟩ = some (.slice ao1 L1.length ac1) := by go_cell
  have a5_9 : (w8.setCell ⟨w.heap.size + 1 + 1, 6, none⟩ (.slice xo3 L3.length xc3)).cell? ⟨w.heap.size, 5, none⟩ = some (.slice ao2 L2.length ac2) := by go_cell
  have a6_9 : (w8.setCell ⟨w.heap.size + 1 + 1, 6, none⟩ (.slice xo3 L3.length xc3)).cell? ⟨w.heap.size, 6, none⟩ = some (.slice ao3 L3.length ac3) := by go_cell
  have a7_9 : (w8.setCell ⟨w.heap.size + 1 + 1, 6, none⟩ (.slice xo3 L3.length xc3)).cell? ⟨w.heap.size, 7, none⟩ = some (.slice ao4 L4.length ac4) := by go_cell
  have r0_9 : (w8.setCell ⟨w.heap.size + 1 + 1, 6, none⟩ (.slice xo3 L3.length xc3)).cell? ⟨w.heap.size + 1, 0, none⟩ = some (.int .i64 0) := by go_cell
  have rf0_9 : (w8.setCell ⟨w.heap.size + 1 + 1, 6, none⟩ (.slice xo3 L3.length xc3)).frozen? ⟨w.heap.size + 1, 0, none⟩ = false := by (first | go_cell | (simp [World.frozen?, World.alloc]; done) | rfl)
  have r1_9 : (w8.setCell ⟨w.heap.size + 1 + 1, 6, none⟩ (.slice xo3 L3.length xc3)).cell? ⟨w.heap.size + 1, 1, none⟩ = some (.int .i64 0) := by go_cell
  have rf1_9 : (w8.setCell ⟨w.heap.size + 1 + 1, 6, none⟩ (.slice xo3 L3.length xc3)).frozen? ⟨w.heap.size + 1, 1, none⟩ = false := by (first | go_cell | (simp [World.frozen?, World.alloc]; done) | rfl)
  have r2_9 : (w8.setCell ⟨w.heap.size + 1 + 1, 6, none⟩ (.slice xo3 L3.length xc3)).cell? ⟨w.heap.size + 1, 2, none⟩ = some (.int .i64 0) := by go_cell
  have rf2_9 : (w8.setCell ⟨w.heap.size + 1 + 1, 6, none⟩ (.slice xo3 L3.length xc3)).frozen? ⟨w.heap.size + 1, 2, none⟩ = false := by (first | go_cell | (simp [World.frozen?, World.alloc]; done) | rfl)
  have r3_9 : (w8.setCell ⟨w.heap.size + 1 + 1, 6, none⟩ (.slice xo3 L3.length xc3)).cell? ⟨w.heap.size + 1, 3, none⟩ = some (.slice none 0 0) := by go_cell
  have rf3_9 : (w8.setCell ⟨w.heap.size + 1 + 1, 6, none⟩ (.slice xo3 L3.length xc3)).frozen? ⟨w.heap.size + 1, 3, none⟩ = false := by (first | go_cell | (simp [World.frozen?, World.alloc]; done) | rfl)
  have r4_9 : (w8.setCell ⟨w.heap.size + 1 + 1, 6, none⟩ (.slice xo3 L3.length xc3)).cell? ⟨w.heap.size + 1, 4, none⟩ = some (.slice none 0 0) := by go_cell
  have rf4_9 : (w8.setCell ⟨w.heap.size + 1 + 1, 6, none⟩ (.slice xo3 L3.length xc3)).frozen? ⟨w.heap.size + 1, 4, none⟩ = false := by (first | go_cell | (simp [World.frozen?, World.alloc]; done) | rfl)
  have r5_9 : (w8.setCell ⟨w.heap.size + 1 + 1, 6, none⟩ (.slice xo3 L3.length xc3)).cell? ⟨w.heap.size + 1, 5, none⟩ = some (.slice none 0 0) := by go_cell
  have rf5_9 : (w8.setCell ⟨w.heap.size + 1 + 1, 6, none⟩ (.slice xo3 L3.length xc3)).frozen? ⟨w.heap.size + 1, 5, none⟩ = false := by (first | go_cell | (simp [World.frozen?, World.alloc]; done) | rfl)
  have r6_9 : (w8.setCell ⟨w.heap.size + 1 + 1, 6, none⟩ (.slice xo3 L3.length xc3)).cell? ⟨w.heap.size + 1, 6, none⟩ = some (.slice none 0 0) := by go_cell
  have rf6_9 : (w8.setCell ⟨w.heap.size + 1 + 1, 6, none⟩ (.slice xo3 L3.length xc3)).frozen? ⟨w.heap.size + 1, 6, none⟩ = false := by (first | go_cell | (simp [World.frozen?, World.alloc]; done) | rfl)
  have r7_9 : (w8.setCell ⟨w.heap.size + 1 + 1, 6, none⟩ (.slice xo3 L3.length xc3)).cell? ⟨w.heap.size + 1, 7, none⟩ = some (.slice none 0 0) := by go_cell
  have rf7_9 : (w8.setCell ⟨w.heap.size + 1 + 1, 6, none⟩ (.slice xo3 L3.length xc3)).frozen? ⟨w.heap.size + 1, 7, none⟩ = false := by (first | go_cell | (simp [World.frozen?, World.alloc]; done) | rfl)
  have o0_9 : (w8.setCell ⟨w.heap.size + 1 + 1, 6, none⟩ (.slice xo3 L3.length xc3)).cell? ⟨w.heap.size + 1 + 1, 0, none⟩ = some (.int .i64 i0) := by go_cell
  have of0_9 : (w8.setCell ⟨w.heap.size + 1 + 1, 6, none⟩ (.slice xo3 L3.length xc3)).frozen? ⟨w.heap.size + 1 + 1, 0, none⟩ = false := by (first | go_cell | (simp [World.frozen?, World.alloc]; done) | rfl)
  have o1_9 : (w8.setCell ⟨w.heap.size + 1 + 1, 6, none⟩ (.slice xo3 L3.length xc3)).cell? ⟨w.heap.size + 1 + 1, 1, none⟩ = some (.int .i64 i1) := by go_cell
  have of1_9 : (w8.setCell ⟨w.heap.size + 1 + 1, 6, none⟩ (.slice xo3 L3.length xc3)).frozen? ⟨w.heap.size + 1 + 1, 1, none⟩ = false := by (first | go_cell | (simp [World.frozen?, World.alloc]; done) | rfl)
  have o2_9 : (w8.setCell ⟨w.heap.size + 1 + 1, 6, none⟩ (.slice xo3 L3.length xc3)).cell? ⟨w.heap.size + 1 + 1, 2, none⟩ = some (.int .i64 i2) := by go_cell
  have of2_9 : (w8.setCell ⟨w.heap.size + 1 + 1, 6, none⟩ (.slice xo3 L3.length xc3)).frozen? ⟨w.heap.size + 1 + 1, 2, none⟩ = false := by (first | go_cell | (simp [World.frozen?, World.alloc]; done) | rfl)
  have o3_9 : (w8.setCell ⟨w.heap.size + 1 + 1, 6, none⟩ (.slice xo3 L3.length xc3)).cell? ⟨w.heap.size + 1 + 1, 3, none⟩ = some (.slice xo0 L0.length xc0) := by go_cell
  have of3_9 : (w8.setCell ⟨w.heap.size + 1 + 1, 6, none⟩ (.slice xo3 L3.length xc3)).frozen? ⟨w.heap.size + 1 + 1, 3, none⟩ = false := by (first | go_cell | (simp [World.frozen?, World.alloc]; done) | rfl)
  have o4_9 : (w8.setCell ⟨w.heap.size + 1 + 1, 6, none⟩ (.slice xo3 L3.length xc3)).cell? ⟨w.heap.size + 1 + 1, 4, none⟩ = some (.slice xo1 L1.length xc1) := by go_cell
  have of4_9 : (w8.setCell ⟨w.heap.size + 1 + 1, 6, none⟩ (.slice xo3 L3.length xc3)).frozen? ⟨w.heap.size + 1 + 1, 4, none⟩ = false := by (first | go_cell | (simp [World.frozen?, World.alloc]; done) | rfl)
  have o5_9 : (w8.setCell ⟨w.heap.size + 1 + 1, 6, none⟩ (.slice xo3 L3.length xc3)).cell? ⟨w.heap.size + 1 + 1, 5, none⟩ = some (.slice xo2 L2.length xc2) := by go_cell
  have of5_9 : (w8.setCell ⟨w.heap.size + 1 + 1, 6, none⟩ (.slice xo3 L3.length xc3)).frozen? ⟨w.heap.size + 1 + 1, 5, none⟩ = false := by (first | go_cell | (simp [World.frozen?, World.alloc]; done) | rfl)
  have o6_9 : (w8.setCell ⟨w.heap.size + 1 + 1, 6, none⟩ (.slice xo3 L3.length xc3)).cell? ⟨w.heap.size + 1 + 1, 6, none⟩ = some (.slice xo3 L3.length xc3) := by go_cell
  have of6_9 : (w8.setCell ⟨w.heap.size + 1 + 1, 6, none⟩ (.slice xo3 L3.length xc3)).frozen? ⟨w.heap.size + 1 + 1, 6, none⟩ = false := by (first | go_cell | (simp [World.frozen?, World.alloc]; done) | rfl)
  have o7_9 : (w8.setCell ⟨w.heap.size + 1 + 1, 6, none⟩ (.slice xo3 L3.length xc3)).cell? ⟨w.heap.size + 1 + 1, 7, none⟩ = some (.slice none 0 0) := by go_cell
  have of7_9 : (w8.setCell ⟨w.heap.size + 1 + 1, 6, none⟩ (.slice xo3 L3.length xc3)).frozen? ⟨w.heap.size + 1 + 1, 7, none⟩ = false := by (first | go_cell | (simp [World.frozen?, World.alloc]; done) | rfl)
  have HO0_9 := hid (HO0_8.out.set (p := ⟨w.heap.size + 1 + 1, 6, none⟩) (fun q => by have := q.1; first | omega | (simp only at this; omega)) (.slice xo3 L3.length xc3))
  clear HO0_8
  have HO1_9 := hid (HO1_8.out.set (p := ⟨w.heap.size + 1 + 1, 6, none⟩) (fun q => by have := q.1; first | omega | (simp only at this; omega)) (.slice xo3 L3.length xc3))
  clear HO1_8
  have HO2_9 := hid (HO2_8.out.set (p := ⟨w.heap.size + 1 + 1, 6, none⟩) (fun q => by have := q.1; first | omega | (simp only at this; omega)) (.slice xo3 L3.length xc3))
  clear HO2_8
  have HO3_9 := hid (HO3_8.out.set (p := ⟨w.heap.size + 1 + 1, 6, none⟩) (fun q => by have := q.1; first | omega | (simp only at this; omega)) (.slice xo3 L3.length xc3))
  clear HO3_8
  have c9 := c8.setCell (p := ⟨w.heap.size + 1 + 1, 6, none⟩) (by show w.heap.size ≤ w.heap.size + 1 + 1; omega) (.slice xo3 L3.length xc3)
  have s9 : (w8.setCell ⟨w.heap.size + 1 + 1, 6, none⟩ (.slice xo3 L3.length xc3)).heap.size = w8.heap.size := by simp
  clear a0_8 a1_8 a2_8 a3_8 a4_8 a5_8 a6_8 a7_8 r0_8 r1_8 r2_8 r3_8 r4_8 r5_8 r6_8 r7_8 rf0_8 rf1_8 rf2_8 rf3_8 rf4_8 rf5_8 rf6_8 rf7_8 o0_8 o1_8 o2_8 o3_8 o4_8 o5_8 o6_8 o7_8 of0_8 of1_8 of2_8 of3_8 of4_8 of5_8 of6_8 of7_8
  generalize (w8.setCell ⟨w.heap.size + 1 + 1, 6, none⟩ (.slice xo3 L3.length xc3)) = w9 at a0_9 a1_9 a2_9 a3_9 a4_9 a5_9 a6_9 a7_9 r0_9 rf0_9 r1_9 rf1_9 r2_9 rf2_9 r3_9 rf3_9 r4_9 rf4_9 r5_9 rf5_9 r6_9 rf6_9 r7_9 rf7_9 o0_9 of0_9 o1_9 of1_9 o2_9 of2_9 o3_9 of3_9 o4_9 of4_9 o5_9 of5_9 o6_9 of6_9 o7_9 of7_9 HO0_9 HO1_9 HO2_9 HO3_9 c9 s9 ⊢
  have al_9 : w.heap.size < w9.heap.size := by omega
  have rl_9 : w.heap.size + 1 < w9.heap.size := by omega
  have ol_9 : w.heap.size + 1 + 1 < w9.heap.size := by omega
  refine (toCommitS_own _ L4 _ (HA4.out.later c9) hl4 HK4.out).mono ?_
  rintro e w10 ⟨x4, rfl, ho, b10⟩
  have hx4 := ho.rd'
  obtain ⟨xo4, xc4, hv, _⟩ := hx4
  subst hv
  have hz10 : w9.heap.size ≤ w10.heap.size := b10.size
  have d10 : Below w9.heap.size w9 w10 := (Below.trans (by go_grown) (b10.mono (by first | omega | (simp; done) | (simp; omega))))
  have c10 : Below w.heap.size w w10 := c9.trans (d10.mono c9.size)
  have a0_10 : w10.cell? ⟨w.heap.size, 0, none⟩ = some (.int .i64 i0) := (by rw [b10.cell (by first | omega | (simp; done) | (simp; omega))]; go_cell)
  have a1_10 : w10.cell? ⟨w.heap.size, 1, none⟩ = some (.int .i64 i1) := (by rw [b10.cell (by first | omega | (simp; done) | (simp; omega))]; go_cell)
  have a2_10 : w10.cell? ⟨w.heap.size, 2, none⟩ = some (.int .i64 i2) := (by rw [b10.cell (by first | omega | (simp; done) | (simp; omega))]; go_cell)
  have a3_10 : w10.cell? ⟨w.heap.size, 3, none⟩ = some (.slice ao0 L0.length ac0) := (by rw [b10.cell (by first | omega | (simp; done) | (simp; omega))]; go_cell)
  have a4_10 : w10.cell? ⟨w.heap.size, 4, none⟩ = some (.slice ao1 L1.length ac1) := (by rw [b10.cell (by first | omega | (simp; done) | (simp; omega))]; go_cell)
  have a5_10 : w10.cell? ⟨w.heap.size, 5, none⟩ = some (.slice ao2 L2.length ac2) := (by rw [b10.cell (by first | omega | (simp; done) | (simp; omega))]; go_cell)
  have a6_10 : w10.cell? ⟨w.heap.size, 6, none⟩ = some (.slice ao3 L3.length ac3) := (by rw [b10.cell (by first | omega | (simp; done) | (simp; omega))]; go_cell)
  have a7_10 : w10.cell? ⟨w.heap.size, 7, none⟩ = some (.slice ao4 L4.length ac4) := (by rw [b10.cell (by first | omega | (simp; done) | (simp; omega))]; go_cell)
  have al_10 : w.heap.size < w10.heap.size := (by have := b10.size; first | omega | (revert this; simp; done) | (revert this; simp; omega))
  have r0_10 : w10.cell? ⟨w.heap.size + 1, 0, none⟩ = some (.int .i64 0) := (by rw [b10.cell (by first | omega | (simp; done) | (simp; omega))]; go_cell)
  have rf0_10 : w10.frozen? ⟨w.heap.size + 1, 0, none⟩ = false := (by rw [b10.frozen (by first | omega | (simp; done) | (simp; omega))]; (first | go_cell | (simp [World.frozen?, World.alloc]; done) | rfl))
  have r1_10 : w10.cell? ⟨w.heap.size + 1, 1, none⟩ = some (.int .i64 0) := (by rw [b10.cell (by first | omega | (simp; done) | (simp; omega))]; go_cell)
  have rf1_10 : w10.frozen? ⟨w.heap.size + 1, 1, none⟩ = false := (by rw [b10.frozen (by first | omega | (simp; done) | (simp; omega))]; (first | go_cell | (simp [World.frozen?, World.alloc]; done) | rfl))
  have r2_10 : w10.cell? ⟨w.heap.size + 1, 2, none⟩ = some (.int .i64 0) := (by rw [b10.cell (by first | omega | (simp; done) | (simp; omega))]; go_cell)
  have rf2_10 : w10.frozen? ⟨w.heap.size + 1, 2, none⟩ = false := (by rw [b10.frozen (by first | omega | (simp; done) | (simp; omega))]; (first | go_cell | (simp [World.frozen?, World.alloc]; done) | rfl))
  have r3_10 : w10.cell? ⟨w.heap.size + 1, 3, none⟩ = some (.slice none 0 0) := (by rw [b10.cell (by first | omega | (simp; done) | (simp; omega))]; go_cell)
  have rf3_10 : w10.frozen? ⟨w.heap.size + 1, 3, none⟩ = false := (by rw [b10.frozen (by first | omega | (simp; done) | (simp; omega))]; (first | go_cell | (simp [World.frozen?, World.alloc]; done) | rfl))
  have r4_10 : w10.cell? ⟨w.heap.size + 1, 4, none⟩ = some (.slice none 0 0) := (by rw [b10.cell (by first | omega | (simp; done) | (simp; omega))]; go_cell)
  have rf4_10 : w10.frozen? ⟨w.heap.size + 1, 4, none⟩ = false := (by rw [b10.frozen (by first | omega | (simp; done) | (simp; omega))]; (first | go_cell | (simp [World.frozen?, World.alloc]; done) | rfl))
  have r5_10 : w10.cell? ⟨w.heap.size + 1, 5, none⟩ = some (.slice none 0 0) := (by rw [b10.cell (by first | omega | (simp; done) | (simp; omega))]; go_cell)
  have rf5_10 : w10.frozen? ⟨w.heap.size + 1, 5, none⟩ = false := (by rw [b10.frozen (by first | omega | (simp; done) | (simp; omega))]; (first | go_cell | (simp [World.frozen?, World.alloc]; done) | rfl))
  have r6_10 : w10.cell? ⟨w.heap.size + 1, 6, none⟩ = some (.slice none 0 0) := (by rw [b10.cell (by first | omega | (simp; done) | (simp; omega))]; go_cell)
  have rf6_10 : w10.frozen? ⟨w.heap.size + 1, 6, none⟩ = false := (by rw [b10.frozen (by first | omega | (simp; done) | (simp; omega))]; (first | go_cell | (simp [World.frozen?, World.alloc]; done) | rfl))
  have r7_10 : w10.cell? ⟨w.heap.size + 1, 7, none⟩ = some (.slice none 0 0) := (by rw [b10.cell (by first | omega | (simp; done) | (simp; omega))]; go_cell)
  have rf7_10 : w10.frozen? ⟨w.heap.size + 1, 7, none⟩ = false := (by rw [b10.frozen (by first | omega | (simp; done) | (simp; omega))]; (first | go_cell | (simp [World.frozen?, World.alloc]; done) | rfl))
  have rl_10 : w.heap.size + 1 < w10.heap.size := (by have := b10.size; first | omega | (revert this; simp; done) | (revert this; simp; omega))
  have o0_10 : w10.cell? ⟨w.heap.size + 1 + 1, 0, none⟩ = some (.int .i64 i0) := (by rw [b10.cell (by first | omega | (simp; done) | (simp; omega))]; go_cell)
  have of0_10 : w10.frozen? ⟨w.heap.size + 1 + 1, 0, none⟩ = false := (by rw [b10.frozen (by first | omega | (simp; done) | (simp; omega))]; (first | go_cell | (simp [World.frozen?, World.alloc]; done) | rfl))
  have o1_10 : w10.cell? ⟨w.heap.size + 1 + 1, 1, none⟩ = some (.int .i64 i1) := (by rw [b10.cell (by first | omega | (simp; done) | (simp; omega))]; go_cell)
  have of1_10 : w10.frozen? ⟨w.heap.size + 1 + 1, 1, none⟩ = false := (by rw [b10.frozen (by first | omega | (simp; done) | (simp; omega))]; (first | go_cell | (simp [World.frozen?, World.alloc]; done) | rfl))
  have o2_10 : w10.cell? ⟨w.heap.size + 1 + 1, 2, none⟩ = some (.int .i64 i2) := (by rw [b10.cell (by first | omega | (simp; done) | (simp; omega))]; go_cell)
  have of2_10 : w10.frozen? ⟨w.heap.size + 1 + 1, 2, none⟩ = false := (by rw [b10.frozen (by first | omega | (simp; done) | (simp; omega))]; (first | go_cell | (simp [World.frozen?, World.alloc]; done) | rfl))
  have o3_10 : w10.cell? ⟨w.heap.size + 1 + 1, 3, none⟩ = some (.slice xo0 L0.length xc0) := (by rw [b10.cell (by first | omega | (simp; done) | (simp; omega))]; go_cell)
  have of3_10 : w10.frozen? ⟨w.heap.size + 1 + 1, 3, none⟩ = false := (by rw [b10.frozen (by first | omega | (simp; done) | (simp; omega))]; (first | go_cell | (simp [World.frozen?, World.alloc]; done) | rfl))
  have o4_10 : w10.cell? ⟨w.heap.size + 1 + 1, 4, none⟩ = some (.slice xo1 L1.length xc1) := (by rw [b10.cell (by first | omega | (simp; done) | (simp; omega))]; go_cell)
  have of4_10 : w10.frozen? ⟨w.heap.size + 1 + 1, 4, none⟩ = false := (by rw [b10.frozen (by first | omega | (simp; done) | (simp; omega))]; (first | go_cell | (simp [World.frozen?, World.alloc]; done) | rfl))
  have o5_10 : w10.cell? ⟨w.heap.size + 1 + 1, 5, none⟩ = some (.slice xo2 L2.length xc2) := (by rw [b10.cell (by first | omega | (simp; done) | (simp; omega))]; go_cell)
  have of5_10 : w10.frozen? ⟨w.heap.size + 1 + 1, 5, none⟩ = false := (by rw [b10.frozen (by first | omega | (simp; done) | (simp; omega))]; (first | go_cell | (simp [World.frozen?, World.alloc]; done) | rfl))
  have o6_10 : w10.cell? ⟨w.heap.size + 1 + 1, 6, none⟩ = some (.slice xo3 L3.length xc3) := (by rw [b10.cell (by first | omega | (simp; done) | (simp; omega))]; go_cell)
  have of6_10 : w10.frozen? ⟨w.heap.size + 1 + 1, 6, none⟩ = false := (by rw [b10.frozen (by first | omega | (simp; done) | (simp; omega))]; (first | go_cell | (simp [World.frozen?, World.alloc]; done) | rfl))
  have o7_10 : w10.cell? ⟨w.heap.size + 1 + 1, 7, none⟩ = some (.slice none 0 0) := (by rw [b10.cell (by first | omega | (simp; done) | (simp; omega))]; go_cell)
  have of7_10 : w10.frozen? ⟨w.heap.size + 1 + 1, 7, none⟩ = false := (by rw [b10.frozen (by first | omega | (simp; done) | (simp; omega))]; (first | go_cell | (simp [World.frozen?, World.alloc]; done) | rfl))
  have ol_10 : w.heap.size + 1 + 1 < w10.heap.size := (by have := b10.size; first | omega | (revert this; simp; done) | (revert this; simp; omega))
  clear a0_9 a1_9 a2_9 a3_9 a4_9 a5_9 a6_9 a7_9 al_9 r0_9 rf0_9 r1_9 rf1_9 r2_9 rf2_9 r3_9 rf3_9 r4_9 rf4_9 r5_9 rf5_9 r6_9 rf6_9 r7_9 rf7_9 rl_9 o0_9 of0_9 o1_9 of1_9 o2_9 of2_9 o3_9 of3_9 o4_9 of4_9 o5_9 of5_9 o6_9 of6_9 o7_9 of7_9 ol_9
  have HO0_10 := hid (HO0_9.out.later d10)
  clear HO0_9
  have HO1_10 := hid (HO1_9.out.later d10)
  clear HO1_9
  have HO2_10 := hid (HO2_9.out.later d10)
  clear HO2_9
  have HO3_10 := hid (HO3_9.out.later d10)
  clear HO3_9
  have HO4_10 := hid ho
  clear ho b10 d10
  go_wp2
  have e0 : (((((((((w10.setCell ⟨w.heap.size + 1 + 1, 7, none⟩ (.slice xo4 L4.length xc4)).setCell ⟨w.heap.size + 1, 0, none⟩ (.int .i64 i0)).setCell ⟨w.heap.size + 1, 1, none⟩ (.int .i64 i1)).setCell ⟨w.heap.size + 1, 2, none⟩ (.int .i64 i2)).setCell ⟨w.heap.size + 1, 3, none⟩ (.slice xo0 L0.length xc0)).setCell ⟨w.heap.size + 1, 4, none⟩ (.slice xo1 L1.length xc1)).setCell ⟨w.heap.size + 1, 5, none⟩ (.slice xo2 L2.length xc2)).setCell ⟨w.heap.size + 1, 6, none⟩ (.slice xo3 L3.length xc3)).setCell ⟨w.heap.size + 1, 7, none⟩ (.slice xo4 L4.length xc4)).cell? ⟨w.heap.size + 1, 0, none⟩ = some (.int .i64 i0) := by go_cell
  have e1 : (((((((((w10.setCell ⟨w.heap.size + 1 + 1, 7, none⟩ (.slice xo4 L4.length xc4)).setCell ⟨w.heap.size + 1, 0, none⟩ (.int .i64 i0)).setCell ⟨w.heap.size + 1, 1, none⟩ (.int .i64 i1)).setCell ⟨w.heap.size + 1, 2, none⟩ (.int .i64 i2)).setCell ⟨w.heap.size + 1, 3, none⟩ (.slice xo0 L0.length xc0)).setCell ⟨w.heap.size + 1, 4, none⟩ (.slice xo1 L1.length xc1)).setCell ⟨w.heap.size + 1, 5, none⟩ (.slice xo2 L2.length xc2)).setCell ⟨w.heap.size + 1, 6, none⟩ (.slice xo3 L3.length xc3)).setCell ⟨w.heap.size + 1, 7, none⟩ (.slice xo4 L4.length xc4)).cell? ⟨w.heap.size + 1, 1, none⟩ = some (.int .i64 i1) := by go_cell
  have e2 : (((((((((w10.setCell ⟨w.heap.size + 1 + 1, 7, none⟩ (.slice xo4 L4.length xc4)).setCell ⟨w.heap.size + 1, 0, none⟩ (.int .i64 i0)).setCell ⟨w.heap.size + 1, 1, none⟩ (.int .i64 i1)).setCell ⟨w.heap.size + 1, 2, none⟩ (.int .i64 i2)).setCell ⟨w.heap.size + 1, 3, none⟩ (.slice xo0 L0.length xc0)).setCell ⟨w.heap.size + 1, 4, none⟩ (.slice xo1 L1.length xc1)).setCell ⟨w.heap.size + 1, 5, none⟩ (.slice xo2 L2.length xc2)).setCell ⟨w.heap.size + 1, 6, none⟩ (.slice xo3 L3.length xc3)).setCell ⟨w.heap.size + 1, 7, none⟩ (.slice xo4 L4.length xc4)).cell? ⟨w.heap.size + 1, 2, none⟩ = some (.int .i64 i2) := by go_cell
  have e3 : (((((((((w10.setCell ⟨w.heap.size + 1 + 1, 7, none⟩ (.slice xo4 L4.length xc4)).setCell ⟨w.heap.size + 1, 0, none⟩ (.int .i64 i0)).setCell ⟨w.heap.size + 1, 1, none⟩ (.int .i64 i1)).setCell ⟨w.heap.size + 1, 2, none⟩ (.int .i64 i2)).setCell ⟨w.heap.size + 1, 3, none⟩ (.slice xo0 L0.length xc0)).setCell ⟨w.heap.size + 1, 4, none⟩ (.slice xo1 L1.length xc1)).setCell ⟨w.heap.size + 1, 5, none⟩ (.slice xo2 L2.length xc2)).setCell ⟨w.heap.size + 1, 6, none⟩ (.slice xo3 L3.length xc3)).setCell ⟨w.heap.size + 1, 7, none⟩ (.slice xo4 L4.length xc4)).cell? ⟨w.heap.size + 1, 3, none⟩ = some (.slice xo0 L0.length xc0) := by go_cell
  have e4 : (((((((((w10.setCell ⟨w.heap.size + 1 + 1, 7, none⟩ (.slice xo4 L4.length xc4)).setCell ⟨w.heap.size + 1, 0, none⟩ (.int .i64 i0)).setCell ⟨w.heap.size + 1, 1, none⟩ (.int .i64 i1)).setCell ⟨w.heap.size + 1, 2, none⟩ (.int .i64 i2)).setCell ⟨w.heap.size + 1, 3, none⟩ (.slice xo0 L0.length xc0)).setCell ⟨w.heap.size + 1, 4, none⟩ (.slice xo1 L1.length xc1)).setCell ⟨w.heap.size + 1, 5, none⟩ (.slice xo2 L2.length xc2)).setCell ⟨w.heap.size + 1, 6, none⟩ (.slice xo3 L3.length xc3)).setCell ⟨w.heap.size + 1, 7, none⟩ (.slice xo4 L4.length xc4)).cell? ⟨w.heap.size + 1, 4, none⟩ = some (.slice xo1 L1.length xc1) := by go_cell
  have e5 : (((((((((w10.setCell ⟨w.heap.size + 1 + 1, 7, none⟩ (.slice xo4 L4.length xc4)).setCell ⟨w.heap.size + 1, 0, none⟩ (.int .i64 i0)).setCell ⟨w.heap.size + 1, 1, none⟩ (.int .i64 i1)).setCell ⟨w.heap.size + 1, 2, none⟩ (.int .i64 i2)).setCell ⟨w.heap.size + 1, 3, none⟩ (.slice xo0 L0.length xc0)).setCell ⟨w.heap.size + 1, 4, none⟩ (.slice xo1 L1.length xc1)).setCell ⟨w.heap.size + 1, 5, none⟩ (.slice xo2 L2.length xc2)).setCell ⟨w.heap.size + 1, 6, none⟩ (.slice xo3 L3.length xc3)).setCell ⟨w.heap.size + 1, 7, none⟩ (.slice xo4 L4.length xc4)).cell? ⟨w.heap.size + 1, 5, none⟩ = some (.slice xo2 L2.length xc2) := by go_cell
  have e6 : (((((((((w10.setCell ⟨w.heap.size + 1 + 1, 7, none⟩ (.slice xo4 L4.length xc4)).setCell ⟨w.heap.size + 1, 0, none⟩ (.int .i64 i0)).setCell ⟨w.heap.size + 1, 1, none⟩ (.int .i64 i1)).setCell ⟨w.heap.size + 1, 2, none⟩ (.int .i64 i2)).setCell ⟨w.heap.size + 1, 3, none⟩ (.slice xo0 L0.length xc0)).setCell ⟨w.heap.size + 1, 4, none⟩ (.slice xo1 L1.length xc1)).setCell ⟨w.heap.size + 1, 5, none⟩ (.slice xo2 L2.length xc2)).setCell ⟨w.heap.size + 1, 6, none⟩ (.slice xo3 L3.length xc3)).setCell ⟨w.heap.size + 1, 7, none⟩ (.slice xo4 L4.length xc4)).cell? ⟨w.heap.size + 1, 6, none⟩ = some (.slice xo3 L3.length xc3) := by go_cell
  have e7 : (((((((((w10.setCell ⟨w.heap.size + 1 + 1, 7, none⟩ (.slice xo4 L4.length xc4)).setCell ⟨w.heap.size + 1, 0, none⟩ (.int .i64 i0)).setCell ⟨w.heap.size + 1, 1, none⟩ (.int .i64 i1)).setCell ⟨w.heap.size + 1, 2, none⟩ (.int .i64 i2)).setCell ⟨w.heap.size + 1, 3, none⟩ (.slice xo0 L0.length xc0)).setCell ⟨w.heap.size + 1, 4, none⟩ (.slice xo1 L1.length xc1)).setCell ⟨w.heap.size + 1, 5, none⟩ (.slice xo2 L2.length xc2)).setCell ⟨w.heap.size + 1, 6, none⟩ (.slice xo3 L3.length xc3)).setCell ⟨w.heap.size + 1, 7, none⟩ (.slice xo4 L4.length xc4)).cell? ⟨w.heap.size + 1, 7, none⟩ = some (.slice xo4 L4.length xc4) := by go_cell
  refine bodyPost_ret (v := .agg #[.int .i64 i0, .int .i64 i1, .int .i64 i2, .slice xo0 L0.length xc0, .slice xo1 L1.length xc1, .slice xo2 L2.length xc2, .slice xo3 L3.length xc3, .slice xo4 L4.length xc4]) (by simp [results, Tryz.results7, go_sem, e0, e1, e2, e3, e4, e5, e6, e7]) rfl ⟨⟨_, _, _, _, _, w3.heap.size, w5.heap.size, w7.heap.size, w9.heap.size, rfl, ?_, ?_, ?_, ?_, ?_, ?_, ?_, ?_, ?_, ?_⟩, ?_⟩
  · exact OwnM.mono (((((((((HO0_10.out.set (p := ⟨w.heap.size + 1 + 1, 7, none⟩) (fun q => by have := q.1; first | omega | (simp only at this; omega)) (.slice xo4 L4.length xc4)).set (p := ⟨w.heap.size + 1, 0, none⟩) (fun q => by have := q.1; first | omega | (simp only at this; omega)) (.int .i64 i0)).set (p := ⟨w.heap.size + 1, 1, none⟩) (fun q => by have := q.1; first | omega | (simp only at this; omega)) (.int .i64 i1)).set (p := ⟨w.heap.size + 1, 2, none⟩) (fun q => by have := q.1; first | omega | (simp only at this; omega)) (.int .i64 i2)).set (p := ⟨w.heap.size + 1, 3, none⟩) (fun q => by have := q.1; first | omega | (simp only at this; omega)) (.slice xo0 L0.length xc0)).set (p := ⟨w.heap.size + 1, 4, none⟩) (fun q => by have := q.1; first | omega | (simp only at this; omega)) (.slice xo1 L1.length xc1)).set (p := ⟨w.heap.size + 1, 5, none⟩) (fun q => by have := q.1; first | omega | (simp only at this; omega)) (.slice xo2 L2.length xc2)).set (p := ⟨w.heap.size + 1, 6, none⟩) (fun q => by have := q.1; first | omega | (simp only at this; omega)) (.slice xo3 L3.length xc3)).set (p := ⟨w.heap.size + 1, 7, none⟩) (fun q => by have := q.1; first | omega | (simp only at this; omega)) (.slice xo4 L4.length xc4)) (fun b hb _ => ⟨by have := hb.1; omega, by have := hb.2; first | omega | (simp only [World.setCell, Array.size_modify]; omega)⟩)
  · exact OwnM.mono (((((((((HO1_10.out.set (p := ⟨w.heap.size + 1 + 1, 7, none⟩) (fun q => by have := q.1; first | omega | (simp only at this; omega)) (.slice xo4 L4.length xc4)).set (p := ⟨w.heap.size + 1, 0, none⟩) (fun q => by have := q.1; first | omega | (simp only at this; omega)) (.int .i64 i0)).set (p := ⟨w.heap.size + 1, 1, none⟩) (fun q => by have := q.1; first | omega | (simp only at this; omega)) (.int .i64 i1)).set (p := ⟨w.heap.size + 1, 2, none⟩) (fun q => by have := q.1; first | omega | (simp only at this; omega)) (.int .i64 i2)).set (p := ⟨w.heap.size + 1, 3, none⟩) (fun q => by have := q.1; first | omega | (simp only at this; omega)) (.slice xo0 L0.length xc0)).set (p := ⟨w.heap.size + 1, 4, none⟩) (fun q => by have := q.1; first | omega | (simp only at this; omega)) (.slice xo1 L1.length xc1)).set (p := ⟨w.heap.size + 1, 5, none⟩) (fun q => by have := q.1; first | omega | (simp only at this; omega)) (.slice xo2 L2.length xc2)).set (p := ⟨w.heap.size + 1, 6, none⟩) (fun q => by have := q.1; first | omega | (simp only at this; omega)) (.slice xo3 L3.length xc3)).set (p := ⟨w.heap.size + 1, 7, none⟩) (fun q => by have := q.1; first | omega | (simp only at this; omega)) (.slice xo4 L4.length xc4)) (fun b hb _ => ⟨by have := hb.1; omega, by have := hb.2; first | omega | (simp only [World.setCell, Array.size_modify]; omega)⟩)
  · exact OwnM.mono (((((((((HO2_10.out.set (p := ⟨w.heap.size + 1 + 1, 7, none⟩) (fun q => by have := q.1; first | omega | (simp only at this; omega)) (.slice xo4 L4.length xc4)).set (p := ⟨w.heap.size + 1, 0, none⟩) (fun q => by have := q.1; first | omega | (simp only at this; omega)) (.int .i64 i0)).set (p := ⟨w.heap.size + 1, 1, none⟩) (fun q => by have := q.1; first | omega | (simp only at this; omega)) (.int .i64 i1)).set (p := ⟨w.heap.size + 1, 2, none⟩) (fun q => by have := q.1; first | omega | (simp only at this; omega)) (.int .i64 i2)).set (p := ⟨w.heap.size + 1, 3, none⟩) (fun q => by have := q.1; first | omega | (simp only at this; omega)) (.slice xo0 L0.length xc0)).set (p := ⟨w.heap.size + 1, 4, none⟩) (fun q => by have := q.1; first | omega | (simp only at this; omega)) (.slice xo1 L1.length xc1)).set (p := ⟨w.heap.size + 1, 5, none⟩) (fun q => by have := q.1; first | omega | (simp only at this; omega)) (.slice xo2 L2.length xc2)).set (p := ⟨w.heap.size + 1, 6, none⟩) (fun q => by have := q.1; first | omega | (simp only at this; omega)) (.slice xo3 L3.length xc3)).set (p := ⟨w.heap.size + 1, 7, none⟩) (fun q => by have := q.1; first | omega | (simp only at this; omega)) (.slice xo4 L4.length xc4)) (fun b hb _ => ⟨by have := hb.1; omega, by have := hb.2; first | omega | (simp only [World.setCell, Array.size_modify]; omega)⟩)
  · exact OwnM.mono (((((((((HO3_10.out.set (p := ⟨w.heap.size + 1 + 1, 7, none⟩) (fun q => by have := q.1; first | omega | (simp only at this; omega)) (.slice xo4 L4.length xc4)).set (p := ⟨w.heap.size + 1, 0, none⟩) (fun q => by have := q.1; first | omega | (simp only at this; omega)) (.int .i64 i0)).set (p := ⟨w.heap.size + 1, 1, none⟩) (fun q => by have := q.1; first | omega | (simp only at this; omega)) (.int .i64 i1)).set (p := ⟨w.heap.size + 1, 2, none⟩) (fun q => by have := q.1; first | omega | (simp only at this; omega)) (.int .i64 i2)).set (p := ⟨w.heap.size + 1, 3, none⟩) (fun q => by have := q.1; first | omega | (simp only at this; omega)) (.slice xo0 L0.length xc0)).set (p := ⟨w.heap.size + 1, 4, none⟩) (fun q => by have := q.1; first | omega | (simp only at this; omega)) (.slice xo1 L1.length xc1)).set (p := ⟨w.heap.size + 1, 5, none⟩) (fun q => by have := q.1; first | omega | (simp only at this; omega)) (.slice xo2 L2.length xc2)).set (p := ⟨w.heap.size + 1, 6, none⟩) (fun q => by have := q.1; first | omega | (simp only at this; omega)) (.slice xo3 L3.length xc3)).set (p := ⟨w.heap.size + 1, 7, none⟩) (fun q => by have := q.1; first | omega | (simp only at this; omega)) (.slice xo4 L4.length xc4)) (fun b hb _ => ⟨by have := hb.1; omega, by have := hb.2; first | omega | (simp only [World.setCell, Array.size_modify]; omega)⟩)
  · exact OwnM.mono (((((((((HO4_10.out.set (p := ⟨w.heap.size + 1 + 1, 7, none⟩) (fun q => by have := q.1; first | omega | (simp only at this; omega)) (.slice xo4 L4.length xc4)).set (p := ⟨w.heap.size + 1, 0, none⟩) (fun q => by have := q.1; first | omega | (simp only at this; omega)) (.int .i64 i0)).set (p := ⟨w.heap.size + 1, 1, none⟩) (fun q => by have := q.1; first | omega | (simp only at this; omega)) (.int .i64 i1)).set (p := ⟨w.heap.size + 1, 2, none⟩) (fun q => by have := q.1; first | omega | (simp only at this; omega)) (.int .i64 i2)).set (p := ⟨w.heap.size + 1, 3, none⟩) (fun q => by have := q.1; first | omega | (simp only at this; omega)) (.slice xo0 L0.length xc0)).set (p := ⟨w.heap.size + 1, 4, none⟩) (fun q => by have := q.1; first | omega | (simp only at this; omega)) (.slice xo1 L1.length xc1)).set (p := ⟨w.heap.size + 1, 5, none⟩) (fun q => by have := q.1; first | omega | (simp only at this; omega)) (.slice xo2 L2.length xc2)).set (p := ⟨w.heap.size + 1, 6, none⟩) (fun q => by have := q.1; first | omega | (simp only at this; omega)) (.slice xo3 L3.length xc3)).set (p := ⟨w.heap.size + 1, 7, none⟩) (fun q => by have := q.1; first | omega | (simp only at this; omega)) (.slice xo4 L4.length xc4)) (fun b hb _ => ⟨by have := hb.1; omega, by have := hb.2; first | omega | (simp only [World.setCell, Array.size_modify]; omega)⟩)
  · first | omega | (simp only [World.setCell, Array.size_modify]; omega)
  · first | omega | (simp only [World.setCell, Array.size_modify]; omega)
  · first | omega | (simp only [World.setCell, Array.size_modify]; omega)
  · first | omega | (simp only [World.setCell, Array.size_modify]; omega)
  · first | omega | (simp only [World.setCell, Array.size_modify]; omega)
  · exact (((((((((c10.setCell (p := ⟨w.heap.size + 1 + 1, 7, none⟩) (by show w.heap.size ≤ w.heap.size + 1 + 1; omega) (.slice xo4 L4.length xc4)).setCell (p := ⟨w.heap.size + 1, 0, none⟩) (by show w.heap.size ≤ w.heap.size + 1; omega) (.int .i64 i0)).setCell (p := ⟨w.heap.size + 1, 1, none⟩) (by show w.heap.size ≤ w.heap.size + 1; omega) (.int .i64 i1)).setCell (p := ⟨w.heap.size + 1, 2, none⟩) (by show w.heap.size ≤ w.heap.size + 1; omega) (.int .i64 i2)).setCell (p := ⟨w.heap.size + 1, 3, none⟩) (by show w.heap.size ≤ w.heap.size + 1; omega) (.slice xo0 L0.length xc0)).setCell (p := ⟨w.heap.size + 1, 4, none⟩) (by show w.heap.size ≤ w.heap.size + 1; omega) (.slice xo1 L1.length xc1)).setCell (p := ⟨w.heap.size + 1, 5, none⟩) (by show w.heap.size ≤ w.heap.size + 1; omega) (.slice xo2 L2.length xc2)).setCell (p := ⟨w.heap.size + 1, 6, none⟩) (by show w.heap.size ≤ w.heap.size + 1; omega) (.slice xo3 L3.length xc3)).setCell (p := ⟨w.heap.size + 1, 7, none⟩) (by show w.heap.size ≤ w.heap.size + 1; omega) (.slice xo4 L4.length xc4))

/-- The lists of a Shard read so. -/
structure RSShard (w : World) (v0 v1 v2 v3 v4 : Value) (L0 L1 L2 L3 L4 : List KD) : Prop where
  h0 : RdM 3 2 true w v0 L0
  h1 : RdM 6 6 false w v1 L1
  h2 : RdM 5 5 false w v2 L2
  h3 : RdM 3 3 false w v3 L3
  h4 : RdM 4 3 true w v4 L4
theorem RSShard.later {w w' : World} {v0 v1 v2 v3 v4 : Value} {L0 L1 L2 L3 L4 : List KD} (h : RSShard w v0 v1 v2 v3 v4 L0 L1 L2 L3 L4) (hb : Below w.heap.size w w') : RSShard w' v0 v1 v2 v3 v4 L0 L1 L2 L3 L4 := ⟨h.h0.later hb, h.h1.later hb, h.h2.later hb, h.h3.later hb, h.h4.later hb⟩
theorem RSShard.open {w : World} {v0 v1 v2 v3 v4 : Value} {L0 L1 L2 L3 L4 : List KD} (h : RSShard w v0 v1 v2 v3 v4 L0 L1 L2 L3 L4) : ∃ (o0 o1 o2 o3 o4 : Option Addr) (c0 c1 c2 c3 c4 : Nat), v0 = .slice o0 L0.length c0 ∧ v1 = .slice o1 L1.length c1 ∧ v2 = .slice o2 L2.length c2 ∧ v3 = .slice o3 L3.length c3 ∧ v4 = .slice o4 L4.length c4 := by
  obtain ⟨o0, c0, e0, _⟩ := h.h0
  obtain ⟨o1, c1, e1, _⟩ := h.h1
  obtain ⟨o2, c2, e2, _⟩ := h.h2
  obtain ⟨o3, c3, e3, _⟩ := h.h3
  obtain ⟨o4, c4, e4, _⟩ := h.h4
  exact ⟨o0, o1, o2, o3, o4, c0, c1, c2, c3, c4, e0, e1, e2, e3, e4⟩
theorem toShard_rd (i0 i1 i2 : Int) (a0 a1 a2 a3 a4 : Value) (L0 L1 L2 L3 L4 : List KD) (w : World) (h : RSShard w a0 a1 a2 a3 a4 L0 L1 L2 L3 L4) (hl : ∀ L ∈ [L0, L1, L2, L3, L4], L.length + bulkM L ≤ 1048576) :
    Calls Tryz.prog 7 #[.agg #[.int .i64 i0, .int .i64 i1, .int .i64 i2, a0, a1, a2, a3, a4]] w fun e w' => (∃ (xo0 xo1 xo2 xo3 xo4 : Option Addr) (xc0 xc1 xc2 xc3 xc4 : Nat), e = .returned (.agg #[.int .i64 i0, .int .i64 i1, .int .i64 i2, .slice xo0 L0.length xc0, .slice xo1 L1.length xc1, .slice xo2 L2.length xc2, .slice xo3 L3.length xc3, .slice xo4 L4.length xc4]) ∧ RSShard w' (.slice xo0 L0.length xc0) (.slice xo1 L1.length xc1) (.slice xo2 L2.length xc2) (.slice xo3 L3.length xc3) (.slice xo4 L4.length xc4) L0 L1 L2 L3 L4) ∧ Below w.heap.size w w' :=
  (toShard_own i0 i1 i2 a0 a1 a2 a3 a4 L0 L1 L2 L3 L4 w h.h0 h.h1 h.h2 h.h3 h.h4 (Nat.le_trans (Nat.le_add_right _ _) (hl L0 (by simp))) (Nat.le_trans (Nat.le_add_right _ _) (hl L1 (by simp))) (Nat.le_trans (Nat.le_add_right _ _) (hl L2 (by simp))) (Nat.le_trans (Nat.le_add_right _ _) (hl L3 (by simp))) (Nat.le_trans (Nat.le_add_right _ _) (hl L4 (by simp))) (fun i hi => Nat.le_trans (bulkM_get L0 i hi) (Nat.le_trans (Nat.le_add_left _ _) (hl L0 (by simp)))) (fun i hi => Nat.le_trans (bulkM_get L4 i hi) (Nat.le_trans (Nat.le_add_left _ _) (hl L4 (by simp))))).mono fun e w' ⟨he, hb⟩ => by
    obtain ⟨v0, v1, v2, v3, v4, B1, B2, B3, B4, he, q0, q1, q2, q3, q4, _⟩ := he
    have hR : RSShard w' v0 v1 v2 v3 v4 L0 L1 L2 L3 L4 := ⟨q0.rd (by decide) (by decide), q1.rd (by decide) (by decide), q2.rd (by decide) (by decide), q3.rd (by decide) (by decide), q4.rd (by decide) (by decide)⟩
    obtain ⟨o0, o1, o2, o3, o4, c0, c1, c2, c3, c4, rfl, rfl, rfl, rfl, rfl⟩ := hR.open
    exact ⟨⟨_, _, _, _, _, _, _, _, _, _, he, hR⟩, hb⟩
theorem eqShard_rd (i0 i1 i2 : Int) (a0 a1 a2 a3 a4 b0 b1 b2 b3 b4 : Value) (L0 L1 L2 L3 L4 : List KD) (w : World) (h : RSShard w a0 a1 a2 a3 a4 L0 L1 L2 L3 L4) (h' : RSShard w b0 b1 b2 b3 b4 L0 L1 L2 L3 L4) :
    Calls Tryz.prog 10 #[.agg #[.int .i64 i0, .int .i64 i1, .int .i64 i2, a0, a1, a2, a3, a4], .agg #[.int .i64 i0, .int .i64 i1, .int .i64 i2, b0, b1, b2, b3, b4]] w fun e w' => e = .returned (.bool true) ∧ Below w.heap.size w w' := eqShard_self i0 i1 i2 a0 a1 a2 a3 a4 b0 b1 b2 b3 b4 L0 L1 L2 L3 L4 w h.h0 h.h1 h.h2 h.h3 h.h4 h'.h0 h'.h1 h'.h2 h'.h3 h'.h4
theorem szShard_rd (i0 i1 i2 : Int) (a0 a1 a2 a3 a4 : Value) (L0 L1 L2 L3 L4 : List KD) (left : Int) (w : World) (h : RSShard w a0 a1 a2 a3 a4 L0 L1 L2 L3 L4) (h0 : 0 ≤ left) (h1 : left ≤ 1048576) :
    Calls Tryz.prog 4 #[.agg #[.int .i64 i0, .int .i64 i1, .int .i64 i2, a0, a1, a2, a3, a4], .int .i64 left] w fun e w' => SzD [L0, L1, L2, L3, L4] left e ∧ Below w.heap.size w w' := szShard_all i0 i1 i2 a0 a1 a2 a3 a4 L0 L1 L2 L3 L4 left w h.h0 h.h1 h.h2 h.h3 h.h4 h0 h1
end Go.Proofs.YtefhpbcdjgllnaaGreat
