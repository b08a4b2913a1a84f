/- The law FnExactCacheOpen: its helpers and its walk. Written by a program (gco.py). -/
import Derived.Test.YtddpoheoecafjaaZa
namespace Go.Proofs.Ytddpoheoecafjaa
open Go.RowKit
attribute [local go_sem ↓] Go.wp_at_zero Go.wp_at_succ

set_option maxRecDepth 100000 in
set_option maxHeartbeats 2000000 in
theorem eqCache_z (ga oa gb ob : Nat) (w : World) (ha : RowN w ga oa (fun _ => 0)) (hb : RowN w gb ob (fun _ => 0)) (hga : ga < w.heap.size) (hgb : gb < w.heap.size) :
    Calls Try.prog 13 #[.agg #[.slice none 0 0, .slice (some ⟨ga, oa, none⟩) 24 24], .agg #[.slice none 0 0, .slice (some ⟨gb, ob, none⟩) 24 24]] w fun e w' => e = .returned (.bool true) ∧ Below w.heap.size w w' := by
  have HA := hid (ha.rd hga)
  have HB := hid (hb.rd hgb)
  clear ha hb
  go_enter Try.func13, Try.ntmps13
  go_wp2_with fail
  have a0_1 : ((w.alloc (.cells #[.slice none 0 0, .slice (some ⟨ga, oa, none⟩) 24 24] 28)).alloc (.cells #[.slice none 0 0, .slice (some ⟨gb, ob, none⟩) 24 24] 28)).cell? ⟨w.heap.size, 0, none⟩ = some (.slice none 0 0) := by go_cell
  have a1_1 : ((w.alloc (.cells #[.slice none 0 0, .slice (some ⟨ga, oa, none⟩) 24 24] 28)).alloc (.cells #[.slice none 0 0, .slice (some ⟨gb, ob, none⟩) 24 24] 28)).cell? ⟨w.heap.size, 1, none⟩ = some (.slice (some ⟨ga, oa, none⟩) 24 24) := by go_cell
  have al_1 : w.heap.size < ((w.alloc (.cells #[.slice none 0 0, .slice (some ⟨ga, oa, none⟩) 24 24] 28)).alloc (.cells #[.slice none 0 0, .slice (some ⟨gb, ob, none⟩) 24 24] 28)).heap.size := by first | (simp; done) | (simp; omega)
  have b0_1 : ((w.alloc (.cells #[.slice none 0 0, .slice (some ⟨ga, oa, none⟩) 24 24] 28)).alloc (.cells #[.slice none 0 0, .slice (some ⟨gb, ob, none⟩) 24 24] 28)).cell? ⟨w.heap.size + 1, 0, none⟩ = some (.slice none 0 0) := by go_cell
  have b1_1 : ((w.alloc (.cells #[.slice none 0 0, .slice (some ⟨ga, oa, none⟩) 24 24] 28)).alloc (.cells #[.slice none 0 0, .slice (some ⟨gb, ob, none⟩) 24 24] 28)).cell? ⟨w.heap.size + 1, 1, none⟩ = some (.slice (some ⟨gb, ob, none⟩) 24 24) := by go_cell
  have bl_1 : w.heap.size + 1 < ((w.alloc (.cells #[.slice none 0 0, .slice (some ⟨ga, oa, none⟩) 24 24] 28)).alloc (.cells #[.slice none 0 0, .slice (some ⟨gb, ob, none⟩) 24 24] 28)).heap.size := by first | (simp; done) | (simp; omega)
  have c1 : Below w.heap.size w ((w.alloc (.cells #[.slice none 0 0, .slice (some ⟨ga, oa, none⟩) 24 24] 28)).alloc (.cells #[.slice none 0 0, .slice (some ⟨gb, ob, none⟩) 24 24] 28)) := by go_grown
  have s1 : ((w.alloc (.cells #[.slice none 0 0, .slice (some ⟨ga, oa, none⟩) 24 24] 28)).alloc (.cells #[.slice none 0 0, .slice (some ⟨gb, ob, none⟩) 24 24] 28)).heap.size = w.heap.size + 2 := by simp
  generalize ((w.alloc (.cells #[.slice none 0 0, .slice (some ⟨ga, oa, none⟩) 24 24] 28)).alloc (.cells #[.slice none 0 0, .slice (some ⟨gb, ob, none⟩) 24 24] 28)) = w1 at a0_1 a1_1 al_1 b0_1 b1_1 bl_1 c1 s1 ⊢
  have qa0_1 := cell_regrown a0_1
  have qa1_1 := cell_regrown a1_1
  have qb0_1 := cell_regrown b0_1
  have qb1_1 := cell_regrown b1_1
  refine (eqItemS_any _ _ [] [] _ (RdM.nil _ none 0) (RdM.nil _ none 0)).mono ?_
  rintro e w2 ⟨rfl, b2⟩
  rw [eqM_refl]
  have d2 : Below w1.heap.size w1 w2 := (Below.trans (by go_grown) (b2.mono (by first | omega | (simp; done) | (simp; omega))))
  have c2 : Below w.heap.size w w2 := c1.trans (d2.mono c1.size)
  have a0_2 : w2.cell? ⟨w.heap.size, 0, none⟩ = some (.slice none 0 0) := (by rw [b2.cell (by first | omega | (simp; done) | (simp; omega))]; go_cell)
  have a1_2 : w2.cell? ⟨w.heap.size, 1, none⟩ = some (.slice (some ⟨ga, oa, none⟩) 24 24) := (by rw [b2.cell (by first | omega | (simp; done) | (simp; omega))]; go_cell)
  have al_2 : w.heap.size < w2.heap.size := (by have := b2.size; first | omega | (revert this; simp; done) | (revert this; simp; omega))
  have b0_2 : w2.cell? ⟨w.heap.size + 1, 0, none⟩ = some (.slice none 0 0) := (by rw [b2.cell (by first | omega | (simp; done) | (simp; omega))]; go_cell)
  have b1_2 : w2.cell? ⟨w.heap.size + 1, 1, none⟩ = some (.slice (some ⟨gb, ob, none⟩) 24 24) := (by rw [b2.cell (by first | omega | (simp; done) | (simp; omega))]; go_cell)
  have bl_2 : w.heap.size + 1 < w2.heap.size := (by have := b2.size; first | omega | (revert this; simp; done) | (revert this; simp; omega))
  clear a0_1 a1_1 al_1 b0_1 b1_1 bl_1
  clear b2 d2
  go_wp2_with fail
  refine (eqIntS_any _ _ _ _ _ (HA.out.later c2) (HB.out.later c2)).mono ?_
  rintro e w3 ⟨rfl, b3⟩
  rw [eqM_refl]
  have c3 := c2.trans (b3.mono c2.size)
  go_wp2
  go_ret
  exact ⟨by simp, c3⟩
set_option maxRecDepth 100000 in
set_option maxHeartbeats 2000000 in
theorem markCache_z (g : Nat) (f : Nat → Int) (w : World) (h : RowN w g 84 f) (hg : g < w.heap.size) :
    Calls Try.prog 14 #[.agg #[.slice none 0 0, .slice (some ⟨g, 84, none⟩) 24 24], .int .i64 1] w fun e w' => e = .returned (.int .i64 25) ∧ RowN w' g 84 (fun i => 1 + (i : Int)) ∧ Only (fun b => b = g) w w' := by
  have HR := hid h
  clear h
  go_enter Try.func14, Try.ntmps14
  go_wp2_with fail
  have a0_1 : (w.alloc (.cells #[.slice none 0 0, .slice (some ⟨g, 84, none⟩) 24 24] 28)).cell? ⟨w.heap.size, 0, none⟩ = some (.slice none 0 0) := by go_cell
  have a1_1 : (w.alloc (.cells #[.slice none 0 0, .slice (some ⟨g, 84, none⟩) 24 24] 28)).cell? ⟨w.heap.size, 1, none⟩ = some (.slice (some ⟨g, 84, none⟩) 24 24) := by go_cell
  have al_1 : w.heap.size < (w.alloc (.cells #[.slice none 0 0, .slice (some ⟨g, 84, none⟩) 24 24] 28)).heap.size := by first | (simp; done) | (simp; omega)
  have c1 : Below w.heap.size w (w.alloc (.cells #[.slice none 0 0, .slice (some ⟨g, 84, none⟩) 24 24] 28)) := by go_grown
  have s1 : (w.alloc (.cells #[.slice none 0 0, .slice (some ⟨g, 84, none⟩) 24 24] 28)).heap.size = w.heap.size + 1 := by simp
  generalize (w.alloc (.cells #[.slice none 0 0, .slice (some ⟨g, 84, none⟩) 24 24] 28)) = w1 at a0_1 a1_1 al_1 c1 s1 ⊢
  have qa0_1 := cell_regrown a0_1
  have qa1_1 := cell_regrown a1_1
  refine (markItems_nil _).mono ?_
  rintro e wz ⟨rfl, hz⟩
  obtain rfl := hz.symm
  clear hz
  go_wp2_with fail
  refine (markRow_any g 84 f _ (HR.out.later hg c1)).mono ?_
  rintro e w2 ⟨rfl, hr, ho⟩
  have HR2 := hid hr
  have HO := hid ((Only.later c1 : Only (fun b => b = g) w w1).trans ho)
  clear hr ho
  go_wp2
  go_ret
  exact ⟨by simp, HR2.out, HO.out⟩
set_option maxRecDepth 100000 in
set_option maxHeartbeats 2000000 in
theorem heldCache_z (g : Nat) (w : World) (h : RowN w g 84 (fun i => 1 + (i : Int))) (hg : g < w.heap.size) :
    Calls Try.prog 15 #[.agg #[.slice none 0 0, .slice (some ⟨g, 84, none⟩) 24 24], .int .i64 1] w fun e w' => e = .returned (.int .i64 25) ∧ Below w.heap.size w w' := by
  have HR := hid h
  clear h
  go_enter Try.func15, Try.ntmps15
  go_wp2_with fail
  have a0_1 : (w.alloc (.cells #[.slice none 0 0, .slice (some ⟨g, 84, none⟩) 24 24] 28)).cell? ⟨w.heap.size, 0, none⟩ = some (.slice none 0 0) := by go_cell
  have a1_1 : (w.alloc (.cells #[.slice none 0 0, .slice (some ⟨g, 84, none⟩) 24 24] 28)).cell? ⟨w.heap.size, 1, none⟩ = some (.slice (some ⟨g, 84, none⟩) 24 24) := by go_cell
  have al_1 : w.heap.size < (w.alloc (.cells #[.slice none 0 0, .slice (some ⟨g, 84, none⟩) 24 24] 28)).heap.size := by first | (simp; done) | (simp; omega)
  have c1 : Below w.heap.size w (w.alloc (.cells #[.slice none 0 0, .slice (some ⟨g, 84, none⟩) 24 24] 28)) := by go_grown
  have s1 : (w.alloc (.cells #[.slice none 0 0, .slice (some ⟨g, 84, none⟩) 24 24] 28)).heap.size = w.heap.size + 1 := by simp
  generalize (w.alloc (.cells #[.slice none 0 0, .slice (some ⟨g, 84, none⟩) 24 24] 28)) = w1 at a0_1 a1_1 al_1 c1 s1 ⊢
  have qa0_1 := cell_regrown a0_1
  have qa1_1 := cell_regrown a1_1
  refine (heldItems_nil _).mono ?_
  rintro e wz ⟨rfl, hz⟩
  obtain rfl := hz.symm
  clear hz
  go_wp2_with fail
  refine (heldRow_any g 84 _ (HR.out.later hg c1) (Nat.lt_of_lt_of_le hg c1.size)).mono ?_
  rintro e w2 ⟨rfl, b2⟩
  have c2 := c1.trans (b2.mono c1.size)
  go_wp2
  go_ret
  exact ⟨by simp, c2⟩

end Go.Proofs.Ytddpoheoecafjaa
