/- The law FnExactCacheOpen: its helpers and its walk. Written by a program (gco.py). -/
import Derived.Test.YtjpiohifipebeaaZa
namespace Go.Proofs.Ytjpiohifipebeaa
open Go.RowKit
attribute [local go_sem ↓] Go.wp_at_zero Go.wp_at_succ

set_option maxRecDepth 100000 in
set_option maxHeartbeats 2000000 in
theorem eqCache_z (ga oa gb ob : Nat) (w : World) (ha : RowN w ga oa (fun _ => 0)) (hb : RowN w gb ob (fun _ => 0)) (hga : ga < w.heap.size) (hgb : gb < w.heap.size) :
    Calls Try.prog 6 #[.agg #[.slice none 0 0, .slice (some ⟨ga, oa, none⟩) 24 24], .agg #[.slice none 0 0, .slice (some ⟨gb, ob, none⟩) 24 24]] w fun e w' => e = .returned (.bool true) ∧ Below w.heap.size w w' := by
  have HA := hid (ha.rd hga)
  have HB := hid (hb.rd hgb)
  clear ha hb
  go_enter Try.func6, Try.ntmps6
  go_wp2_with fail
  have a0_1 : ((w.alloc (.cells #[.slice none 0 0, .slice (some ⟨ga, oa, none⟩) 24 24] 25)).alloc (.cells #[.slice none 0 0, .slice (some ⟨gb, ob, none⟩) 24 24] 25)).cell? ⟨w.heap.size, 0, none⟩ = some (.slice none 0 0) := by go_cell
  have a1_1 : ((w.alloc (.cells #[.slice none 0 0, .slice (some ⟨ga, oa, none⟩) 24 24] 25)).alloc (.cells #[.slice none 0 0, .slice (some ⟨gb, ob, none⟩) 24 24] 25)).cell? ⟨w.heap.size, 1, none⟩ = some (.slice (some ⟨ga, oa, none⟩) 24 24) := by go_cell
  have al_1 : w.heap.size < ((w.alloc (.cells #[.slice none 0 0, .slice (some ⟨ga, oa, none⟩) 24 24] 25)).alloc (.cells #[.slice none 0 0, .slice (some ⟨gb, ob, none⟩) 24 24] 25)).heap.size := by first | (simp; done) | (simp; omega)
  have b0_1 : ((w.alloc (.cells #[.slice none 0 0, .slice (some ⟨ga, oa, none⟩) 24 24] 25)).alloc (.cells #[.slice none 0 0, .slice (some ⟨gb, ob, none⟩) 24 24] 25)).cell? ⟨w.heap.size + 1, 0, none⟩ = some (.slice none 0 0) := by go_cell
  have b1_1 : ((w.alloc (.cells #[.slice none 0 0, .slice (some ⟨ga, oa, none⟩) 24 24] 25)).alloc (.cells #[.slice none 0 0, .slice (some ⟨gb, ob, none⟩) 24 24] 25)).cell? ⟨w.heap.size + 1, 1, none⟩ = some (.slice (some ⟨gb, ob, none⟩) 24 24) := by go_cell
  have bl_1 : w.heap.size + 1 < ((w.alloc (.cells #[.slice none 0 0, .slice (some ⟨ga, oa, none⟩) 24 24] 25)).alloc (.cells #[.slice none 0 0, .slice (some ⟨gb, ob, none⟩) 24 24] 25)).heap.size := by first | (simp; done) | (simp; omega)
  have c1 : Below w.heap.size w ((w.alloc (.cells #[.slice none 0 0, .slice (some ⟨ga, oa, none⟩) 24 24] 25)).alloc (.cells #[.slice none 0 0, .slice (some ⟨gb, ob, none⟩) 24 24] 25)) := by go_grown
  have s1 : ((w.alloc (.cells #[.slice none 0 0, .slice (some ⟨ga, oa, none⟩) 24 24] 25)).alloc (.cells #[.slice none 0 0, .slice (some ⟨gb, ob, none⟩) 24 24] 25)).heap.size = w.heap.size + 2 := by simp
  generalize ((w.alloc (.cells #[.slice none 0 0, .slice (some ⟨ga, oa, none⟩) 24 24] 25)).alloc (.cells #[.slice none 0 0, .slice (some ⟨gb, ob, none⟩) 24 24] 25)) = w1 at a0_1 a1_1 al_1 b0_1 b1_1 bl_1 c1 s1 ⊢
  have qa0_1 := cell_regrown a0_1
  have qa1_1 := cell_regrown a1_1
  have qb0_1 := cell_regrown b0_1
  have qb1_1 := cell_regrown b1_1
  refine (eqItemS_any _ _ [] [] _ (RdM.nil _ none 0) (RdM.nil _ none 0)).mono ?_
  rintro e w2 ⟨rfl, b2⟩
  rw [eqM_refl]
  have d2 : Below w1.heap.size w1 w2 := (Below.trans (by go_grown) (b2.mono (by first | omega | (simp; done) | (simp; omega))))
  have c2 : Below w.heap.size w w2 := c1.trans (d2.mono c1.size)
  have a0_2 : w2.cell? ⟨w.heap.size, 0, none⟩ = some (.slice none 0 0) := (by rw [b2.cell (by first | omega | (simp; done) | (simp; omega))]; go_cell)
  have a1_2 : w2.cell? ⟨w.heap.size, 1, none⟩ = some (.slice (some ⟨ga, oa, none⟩) 24 24) := (by rw [b2.cell (by first | omega | (simp; done) | (simp; omega))]; go_cell)
  have al_2 : w.heap.size < w2.heap.size := (by have := b2.size; first | omega | (revert this; simp; done) | (revert this; simp; omega))
  have b0_2 : w2.cell? ⟨w.heap.size + 1, 0, none⟩ = some (.slice none 0 0) := (by rw [b2.cell (by first | omega | (simp; done) | (simp; omega))]; go_cell)
  have b1_2 : w2.cell? ⟨w.heap.size + 1, 1, none⟩ = some (.slice (some ⟨gb, ob, none⟩) 24 24) := (by rw [b2.cell (by first | omega | (simp; done) | (simp; omega))]; go_cell)
  have bl_2 : w.heap.size + 1 < w2.heap.size := (by have := b2.size; first | omega | (revert this; simp; done) | (revert this; simp; omega))
  clear a0_1 a1_1 al_1 b0_1 b1_1 bl_1
  clear b2 d2
  go_wp2_with fail
  refine (eqIntS_any _ _ _ _ _ (HA.out.later c2) (HB.out.later c2)).mono ?_
  rintro e w3 ⟨rfl, b3⟩
  rw [eqM_refl]
  have c3 := c2.trans (b3.mono c2.size)
  go_wp2
  go_ret
  exact ⟨by simp, c3⟩
set_option maxRecDepth 100000 in
set_option maxHeartbeats 2000000 in
theorem markCache_z (g : Nat) (f : Nat → Int) (w : World) (h : RowN w g 84 f) (hg : g < w.heap.size) :
    Calls Try.prog 7 #[.agg #[.slice none 0 0, .slice (some ⟨g, 84, none⟩) 24 24], .int .i64 1] w fun e w' => e = .returned (.int .i64 25) ∧ RowN w' g 84 (fun i => 1 + (i : Int)) ∧ Only (fun b => b = g) w w' := by
  have HR := hid h
  clear h
  go_enter Try.func7, Try.ntmps7
  go_wp2_with fail
  have a0_1 : (w.alloc (.cells #[.slice none 0 0, .slice (some ⟨g, 84, none⟩) 24 24] 25)).cell? ⟨w.heap.size, 0, none⟩ = some (.slice none 0 0) := by go_cell
  have a1_1 : (w.alloc (.cells #[.slice none 0 0, .slice (some ⟨g, 84, none⟩) 24 24] 25)).cell? ⟨w.heap.size, 1, none⟩ = some (.slice (some ⟨g, 84, none⟩) 24 24) := by go_cell
  have al_1 : w.heap.size < (w.alloc (.cells #[.slice none 0 0, .slice (some ⟨g, 84, none⟩) 24 24] 25)).heap.size := by first | (simp; done) | (simp; omega)
  have c1 : Below w.heap.size w (w.alloc (.cells #[.slice none 0 0, .slice (some ⟨g, 84, none⟩) 24 24] 25)) := by go_grown
  have s1 : (w.alloc (.cells #[.slice none 0 0, .slice (some ⟨g, 84, none⟩) 24 24] 25)).heap.size = w.heap.size + 1 := by simp
  generalize (w.alloc (.cells #[.slice none 0 0, .slice (some ⟨g, 84, none⟩) 24 24] 25)) = w1 at a0_1 a1_1 al_1 c1 s1 ⊢
  have qa0_1 := cell_regrown a0_1
  have qa1_1 := cell_regrown a1_1
  refine (markItems_nil _).mono ?_
  rintro e wz ⟨rfl, hz⟩
  obtain rfl := hz.symm
  clear hz
  go_wp2_with fail
  refine (markRow_any g 84 f _ (HR.out.later hg c1)).mono ?_
  rintro e w2 ⟨rfl, hr, ho⟩
  have HR2 := hid hr
  have HO := hid ((Only.later c1 : Only (fun b => b = g) w w1).trans ho)
  clear hr ho
  go_wp2
  go_ret
  exact ⟨by simp, HR2.out, HO.out⟩
set_option maxRecDepth 100000 in
set_option maxHeartbeats 2000000 in
theorem heldCache_z (g : Nat) (w : World) (h : RowN w g 84 (fun i => 1 + (i : Int))) (hg : g < w.heap.size) :
    Calls Try.prog 8 #[.agg #[.slice none 0 0, .slice (some ⟨g, 84, none⟩) 24 24], .int .i64 1] w fun e w' => e = .returned (.int .i64 25) ∧ Below w.heap.size w w' := by
  have HR := hid h
  clear h
  go_enter Try.func8, Try.ntmps8
  go_wp2_with fail
  have a0_1 : (w.alloc (.cells #[.slice none 0 0, .slice (some ⟨g, 84, none⟩) 24 24] 25)).cell? ⟨w.heap.size, 0, none⟩ = some (.slice none 0 0) := by go_cell
  have a1_1 : (w.alloc (.cells #[.slice none 0 0, .slice (some ⟨g, 84, none⟩) 24 24] 25)).cell? ⟨w.heap.size, 1, none⟩ = some (.slice (some ⟨g, 84, none⟩) 24 24) := by go_cell
  have al_1 : w.heap.size < (w.alloc (.cells #[.slice none 0 0, .slice (some ⟨g, 84, none⟩) 24 24] 25)).heap.size := by first | (simp; done) | (simp; omega)
  have c1 : Below w.heap.size w (w.alloc (.cells #[.slice none 0 0, .slice (some ⟨g, 84, none⟩) 24 24] 25)) := by go_grown
  have s1 : (w.alloc (.cells #[.slice none 0 0, .slice (some ⟨g, 84, none⟩) 24 24] 25)).heap.size = w.heap.size + 1 := by simp
  generalize (w.alloc (.cells #[.slice none 0 0, .slice (some ⟨g, 84, none⟩) 24 24] 25)) = w1 at a0_1 a1_1 al_1 c1 s1 ⊢
  have qa0_1 := cell_regrown a0_1
  have qa1_1 := cell_regrown a1_1
  refine (heldItems_nil _).mono ?_
  rintro e wz ⟨rfl, hz⟩
  obtain rfl := hz.symm
  clear hz
  go_wp2_with fail
  refine (heldRow_any g 84 _ (HR.out.later hg c1) (Nat.lt_of_lt_of_le hg c1.size)).mono ?_
  rintro e w2 ⟨rfl, b2⟩
  have c2 := c1.trans (b2.mono c1.size)
  go_wp2
  go_ret
  exact ⟨by simp, c2⟩

set_option maxRecDepth 100000 in
set_option maxHeartbeats 4000000 in
theorem lawCOpen_any (w : World) : Calls Try.prog 3 #[] w fun e w' => e = .returned (.bool true) ∧ Below w.heap.size w w' := by
  go_enter Try.func3, Try.ntmps3
  go_wp2_with fail
  refine (specCOpen_any _).mono ?_
  rintro e w1 ⟨⟨ga, rfl, hga0, hga1, za⟩, b1⟩
  have c1 := b1
  have ZA1 := hid za
  clear za b1
  go_wp2_with fail
  have a0_2 : (w1.alloc (.cells #[.slice none 0 0, .slice (some ⟨ga, 0, none⟩) 24 24] 25)).cell? ⟨w1.heap.size, 0, none⟩ = some (.slice none 0 0) := by go_cell
  have a1_2 : (w1.alloc (.cells #[.slice none 0 0, .slice (some ⟨ga, 0, none⟩) 24 24] 25)).cell? ⟨w1.heap.size, 1, none⟩ = some (.slice (some ⟨ga, 0, none⟩) 24 24) := by go_cell
  have al_2 : w1.heap.size < (w1.alloc (.cells #[.slice none 0 0, .slice (some ⟨ga, 0, none⟩) 24 24] 25)).heap.size := by simp
  have d2 : Below w1.heap.size w1 (w1.alloc (.cells #[.slice none 0 0, .slice (some ⟨ga, 0, none⟩) 24 24] 25)) := by go_grown
  generalize (w1.alloc (.cells #[.slice none 0 0, .slice (some ⟨ga, 0, none⟩) 24 24] 25)) = w2 at a0_2 a1_2 al_2 d2 ⊢
  have c2 : Below w.heap.size w w2 := c1.trans (d2.mono c1.size)
  have hw12 : w1.heap.size < w2.heap.size := al_2
  have ZA2 := hid (ZA1.out.later hga1 d2)
  have hga2 : ga < w2.heap.size := Nat.lt_of_lt_of_le hga1 d2.size
  clear d2
  refine (implCOpen_any _).mono ?_
  rintro e w3 ⟨⟨gb, rfl, hgb0, hgb1, zb⟩, b3⟩
  have ZB3 := hid zb
  clear zb
  have d3 : Below w2.heap.size w2 w3 := (Below.trans (by go_grown) (b3.mono (by first | omega | (simp; done) | (simp; omega))))
  have c3 : Below w.heap.size w w3 := c2.trans (d3.mono c2.size)
  have a0_3 : w3.cell? ⟨w1.heap.size, 0, none⟩ = some (.slice none 0 0) := (by rw [b3.cell (by first | omega | (simp; done) | (simp; omega))]; go_cell)
  have a1_3 : w3.cell? ⟨w1.heap.size, 1, none⟩ = some (.slice (some ⟨ga, 0, none⟩) 24 24) := (by rw [b3.cell (by first | omega | (simp; done) | (simp; omega))]; go_cell)
  have al_3 : w1.heap.size < w3.heap.size := (by have := b3.size; first | omega | (revert this; simp; done) | (revert this; simp; omega))
  clear a0_2 a1_2 al_2
  have ZA3 := hid (ZA2.out.later hga2 d3)
  have hga3 : ga < w3.heap.size := Nat.lt_of_lt_of_le hga2 d3.size
  clear b3 d3
  go_wp2_with fail
  have b0_4 : (w3.alloc (.cells #[.slice none 0 0, .slice (some ⟨gb, 84, none⟩) 24 24] 25)).cell? ⟨w3.heap.size, 0, none⟩ = some (.slice none 0 0) := by go_cell
  have b1_4 : (w3.alloc (.cells #[.slice none 0 0, .slice (some ⟨gb, 84, none⟩) 24 24] 25)).cell? ⟨w3.heap.size, 1, none⟩ = some (.slice (some ⟨gb, 84, none⟩) 24 24) := by go_cell
  have bl_4 : w3.heap.size < (w3.alloc (.cells #[.slice none 0 0, .slice (some ⟨gb, 84, none⟩) 24 24] 25)).heap.size := by simp
  have d4 : Below w3.heap.size w3 (w3.alloc (.cells #[.slice none 0 0, .slice (some ⟨gb, 84, none⟩) 24 24] 25)) := by go_grown
  generalize (w3.alloc (.cells #[.slice none 0 0, .slice (some ⟨gb, 84, none⟩) 24 24] 25)) = w4 at b0_4 b1_4 bl_4 d4 ⊢
  have c4 : Below w.heap.size w w4 := c3.trans (d4.mono c3.size)
  have a0_4 : w4.cell? ⟨w1.heap.size, 0, none⟩ = some (.slice none 0 0) := (by rw [d4.cell (by first | omega | (simp; done) | (simp; omega))]; go_cell)
  have a1_4 : w4.cell? ⟨w1.heap.size, 1, none⟩ = some (.slice (some ⟨ga, 0, none⟩) 24 24) := (by rw [d4.cell (by first | omega | (simp; done) | (simp; omega))]; go_cell)
  have al_4 : w1.heap.size < w4.heap.size := (by have := d4.size; omega)
  clear a0_3 a1_3 al_3
  have ZA4 := hid (ZA3.out.later hga3 d4)
  have ZB4 := hid (ZB3.out.later hgb1 d4)
  have hga4 : ga < w4.heap.size := Nat.lt_of_lt_of_le hga3 d4.size
  have hgb4 : gb < w4.heap.size := Nat.lt_of_lt_of_le hgb1 d4.size
  clear d4
  refine (eqCache_z gb 84 ga 0 _ ZB4.out ZA4.out hgb4 hga4).mono ?_
  rintro e w5 ⟨rfl, b5⟩
  have d5 : Below w4.heap.size w4 w5 := (Below.trans (by go_grown) (b5.mono (by first | omega | (simp; done) | (simp; omega))))
  have c5 : Below w.heap.size w w5 := c4.trans (d5.mono c4.size)
  have a0_5 : w5.cell? ⟨w1.heap.size, 0, none⟩ = some (.slice none 0 0) := (by rw [b5.cell (by first | omega | (simp; done) | (simp; omega))]; go_cell)
  have a1_5 : w5.cell? ⟨w1.heap.size, 1, none⟩ = some (.slice (some ⟨ga, 0, none⟩) 24 24) := (by rw [b5.cell (by first | omega | (simp; done) | (simp; omega))]; go_cell)
  have al_5 : w1.heap.size < w5.heap.size := (by have := b5.size; first | omega | (revert this; simp; done) | (revert this; simp; omega))
  have b0_5 : w5.cell? ⟨w3.heap.size, 0, none⟩ = some (.slice none 0 0) := (by rw [b5.cell (by first | omega | (simp; done) | (simp; omega))]; go_cell)
  have b1_5 : w5.cell? ⟨w3.heap.size, 1, none⟩ = some (.slice (some ⟨gb, 84, none⟩) 24 24) := (by rw [b5.cell (by first | omega | (simp; done) | (simp; omega))]; go_cell)
  have bl_5 : w3.heap.size < w5.heap.size := (by have := b5.size; first | omega | (revert this; simp; done) | (revert this; simp; omega))
  clear a0_4 a1_4 al_4 b0_4 b1_4 bl_4
  have ZA5 := hid (ZA4.out.later hga4 d5)
  have ZB5 := hid (ZB4.out.later hgb4 d5)
  have hga5 : ga < w5.heap.size := Nat.lt_of_lt_of_le hga4 d5.size
  have hgb5 : gb < w5.heap.size := Nat.lt_of_lt_of_le hgb4 d5.size
  clear b5 d5
  go_wp2_with fail
  refine (markCache_z gb _ _ ZB5.out hgb5).mono ?_
  rintro e w6 ⟨rfl, hm, ho⟩
  have HM6 := hid hm
  have hw1 := c1.size
  have a0_6 := (World.cell?_of_block (a := ⟨w1.heap.size, 0, none⟩) (ho.block w1.heap.size al_5 (by omega))).trans a0_5
  have a1_6 := (World.cell?_of_block (a := ⟨w1.heap.size, 1, none⟩) (ho.block w1.heap.size al_5 (by omega))).trans a1_5
  have b0_6 := (World.cell?_of_block (a := ⟨w3.heap.size, 0, none⟩) (ho.block w3.heap.size bl_5 (by omega))).trans b0_5
  have b1_6 := (World.cell?_of_block (a := ⟨w3.heap.size, 1, none⟩) (ho.block w3.heap.size bl_5 (by omega))).trans b1_5
  have al_6 : w1.heap.size < w6.heap.size := Nat.lt_of_lt_of_le al_5 ho.size
  have bl_6 : w3.heap.size < w6.heap.size := Nat.lt_of_lt_of_le bl_5 ho.size
  have hga6 : ga < w6.heap.size := Nat.lt_of_lt_of_le hga5 ho.size
  have hgb6 : gb < w6.heap.size := Nat.lt_of_lt_of_le hgb5 ho.size
  have ZA6 := hid (ZA5.out.agree (ho.block ga hga5 (by omega)))
  have hc5 := c5.size
  have c6 : Below w.heap.size w w6 := c5.trans (ho.below (fun k hk => by subst hk; omega) (by omega))
  clear hm ho a0_5 a1_5 b0_5 b1_5 ZB5
  go_wp2_with fail
  refine (heldCache_z gb _ HM6.out hgb6).mono ?_
  rintro e w7 ⟨rfl, b7⟩
  have d7 : Below w6.heap.size w6 w7 := (Below.trans (by go_grown) (b7.mono (by first | omega | (simp; done) | (simp; omega))))
  have c7 : Below w.heap.size w w7 := c6.trans (d7.mono c6.size)
  have a0_7 : w7.cell? ⟨w1.heap.size, 0, none⟩ = some (.slice none 0 0) := (by rw [b7.cell (by first | omega | (simp; done) | (simp; omega))]; go_cell)
  have a1_7 : w7.cell? ⟨w1.heap.size, 1, none⟩ = some (.slice (some ⟨ga, 0, none⟩) 24 24) := (by rw [b7.cell (by first | omega | (simp; done) | (simp; omega))]; go_cell)
  have al_7 : w1.heap.size < w7.heap.size := (by have := b7.size; first | omega | (revert this; simp; done) | (revert this; simp; omega))
  have b0_7 : w7.cell? ⟨w3.heap.size, 0, none⟩ = some (.slice none 0 0) := (by rw [b7.cell (by first | omega | (simp; done) | (simp; omega))]; go_cell)
  have b1_7 : w7.cell? ⟨w3.heap.size, 1, none⟩ = some (.slice (some ⟨gb, 84, none⟩) 24 24) := (by rw [b7.cell (by first | omega | (simp; done) | (simp; omega))]; go_cell)
  have bl_7 : w3.heap.size < w7.heap.size := (by have := b7.size; first | omega | (revert this; simp; done) | (revert this; simp; omega))
  clear a0_6 a1_6 al_6 b0_6 b1_6 bl_6
  have ZA7 := hid (ZA6.out.later hga6 d7)
  have HM7 := hid (HM6.out.later hgb6 d7)
  have hga7 : ga < w7.heap.size := Nat.lt_of_lt_of_le hga6 d7.size
  have hgb7 : gb < w7.heap.size := Nat.lt_of_lt_of_le hgb6 d7.size
  clear b7 d7
  go_wp2_with fail
  refine (implCOpen_any _).mono ?_
  rintro e w8 ⟨⟨gc, rfl, hgc0, hgc1, zc⟩, b8⟩
  have ZC8 := hid zc
  clear zc
  have d8 : Below w7.heap.size w7 w8 := (Below.trans (by go_grown) (b8.mono (by first | omega | (simp; done) | (simp; omega))))
  have c8 : Below w.heap.size w w8 := c7.trans (d8.mono c7.size)
  have a0_8 : w8.cell? ⟨w1.heap.size, 0, none⟩ = some (.slice none 0 0) := (by rw [b8.cell (by first | omega | (simp; done) | (simp; omega))]; go_cell)
  have a1_8 : w8.cell? ⟨w1.heap.size, 1, none⟩ = some (.slice (some ⟨ga, 0, none⟩) 24 24) := (by rw [b8.cell (by first | omega | (simp; done) | (simp; omega))]; go_cell)
  have al_8 : w1.heap.size < w8.heap.size := (by have := b8.size; first | omega | (revert this; simp; done) | (revert this; simp; omega))
  have b0_8 : w8.cell? ⟨w3.heap.size, 0, none⟩ = some (.slice none 0 0) := (by rw [b8.cell (by first | omega | (simp; done) | (simp; omega))]; go_cell)
  have b1_8 : w8.cell? ⟨w3.heap.size, 1, none⟩ = some (.slice (some ⟨gb, 84, none⟩) 24 24) := (by rw [b8.cell (by first | omega | (simp; done) | (simp; omega))]; go_cell)
  have bl_8 : w3.heap.size < w8.heap.size := (by have := b8.size; first | omega | (revert this; simp; done) | (revert this; simp; omega))
  clear a0_7 a1_7 al_7 b0_7 b1_7 bl_7
  have ZA8 := hid (ZA7.out.later hga7 d8)
  have HM8 := hid (HM7.out.later hgb7 d8)
  have hga8 : ga < w8.heap.size := Nat.lt_of_lt_of_le hga7 d8.size
  have hgb8 : gb < w8.heap.size := Nat.lt_of_lt_of_le hgb7 d8.size
  clear b8 d8
  go_wp2_with fail
  have h0_9 : (w8.alloc (.cells #[.slice none 0 0, .slice (some ⟨gc, 84, none⟩) 24 24] 25)).cell? ⟨w8.heap.size, 0, none⟩ = some (.slice none 0 0) := by go_cell
  have h1_9 : (w8.alloc (.cells #[.slice none 0 0, .slice (some ⟨gc, 84, none⟩) 24 24] 25)).cell? ⟨w8.heap.size, 1, none⟩ = some (.slice (some ⟨gc, 84, none⟩) 24 24) := by go_cell
  have hl_9 : w8.heap.size < (w8.alloc (.cells #[.slice none 0 0, .slice (some ⟨gc, 84, none⟩) 24 24] 25)).heap.size := by simp
  have d9 : Below w8.heap.size w8 (w8.alloc (.cells #[.slice none 0 0, .slice (some ⟨gc, 84, none⟩) 24 24] 25)) := by go_grown
  generalize (w8.alloc (.cells #[.slice none 0 0, .slice (some ⟨gc, 84, none⟩) 24 24] 25)) = w9 at h0_9 h1_9 hl_9 d9 ⊢
  have c9 : Below w.heap.size w w9 := c8.trans (d9.mono c8.size)
  have a0_9 : w9.cell? ⟨w1.heap.size, 0, none⟩ = some (.slice none 0 0) := (by rw [d9.cell (by first | omega | (simp; done) | (simp; omega))]; go_cell)
  have a1_9 : w9.cell? ⟨w1.heap.size, 1, none⟩ = some (.slice (some ⟨ga, 0, none⟩) 24 24) := (by rw [d9.cell (by first | omega | (simp; done) | (simp; omega))]; go_cell)
  have al_9 : w1.heap.size < w9.heap.size := (by have := d9.size; omega)
  have b0_9 : w9.cell? ⟨w3.heap.size, 0, none⟩ = some (.slice none 0 0) := (by rw [d9.cell (by first | omega | (simp; done) | (simp; omega))]; go_cell)
  have b1_9 : w9.cell? ⟨w3.heap.size, 1, none⟩ = some (.slice (some ⟨gb, 84, none⟩) 24 24) := (by rw [d9.cell (by first | omega | (simp; done) | (simp; omega))]; go_cell)
  have bl_9 : w3.heap.size < w9.heap.size := (by have := d9.size; omega)
  clear a0_8 a1_8 al_8 b0_8 b1_8 bl_8
  have ZA9 := hid (ZA8.out.later hga8 d9)
  have HM9 := hid (HM8.out.later hgb8 d9)
  have ZC9 := hid (ZC8.out.later hgc1 d9)
  have hga9 : ga < w9.heap.size := Nat.lt_of_lt_of_le hga8 d9.size
  have hgb9 : gb < w9.heap.size := Nat.lt_of_lt_of_le hgb8 d9.size
  have hgc9 : gc < w9.heap.size := Nat.lt_of_lt_of_le hgc1 d9.size
  clear d9
  refine (eqCache_z gc 84 ga 0 _ ZC9.out ZA9.out hgc9 hga9).mono ?_
  rintro e w10 ⟨rfl, b10⟩
  have d10 : Below w9.heap.size w9 w10 := (Below.trans (by go_grown) (b10.mono (by first | omega | (simp; done) | (simp; omega))))
  have c10 : Below w.heap.size w w10 := c9.trans (d10.mono c9.size)
  have b0_10 : w10.cell? ⟨w3.heap.size, 0, none⟩ = some (.slice none 0 0) := (by rw [b10.cell (by first | omega | (simp; done) | (simp; omega))]; go_cell)
  have b1_10 : w10.cell? ⟨w3.heap.size, 1, none⟩ = some (.slice (some ⟨gb, 84, none⟩) 24 24) := (by rw [b10.cell (by first | omega | (simp; done) | (simp; omega))]; go_cell)
  have bl_10 : w3.heap.size < w10.heap.size := (by have := b10.size; first | omega | (revert this; simp; done) | (revert this; simp; omega))
  clear b0_9 b1_9 bl_9
  have HM10 := hid (HM9.out.later hgb9 d10)
  have hgb10 : gb < w10.heap.size := Nat.lt_of_lt_of_le hgb9 d10.size
  clear b10 d10
  go_wp2_with fail
  refine (heldCache_z gb _ HM10.out hgb10).mono ?_
  rintro e w11 ⟨rfl, b11⟩
  have c11 := c10.trans (b11.mono c10.size)
  go_wp2
  go_ret
  exact ⟨by simp, c11⟩
end Go.Proofs.Ytjpiohifipebeaa
