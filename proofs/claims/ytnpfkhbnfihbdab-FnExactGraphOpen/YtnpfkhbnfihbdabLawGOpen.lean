/- The law FnExactGraphOpen: its walk. -/
import Derived.Test.YtnpfkhbnfihbdabGz
namespace Go.Proofs.Ytnpfkhbnfihbdab
open Go.RowKit

set_option maxRecDepth 100000 in
set_option maxHeartbeats 4000000 in
theorem lawGOpen_any (w : World) :
    Calls Try.prog 6 #[] w fun e w' => e = .returned (.bool true) ∧ Below w.heap.size w w' := by
  go_enter Try.func6, Try.ntmps6
  go_wp2_with fail
  refine (specGOpen_any _).mono ?_
  rintro e w1 ⟨⟨ga, rfl, hga, za⟩, b1⟩
  have c1 := b1
  have ZA1 := hid za
  clear za b1
  go_wp2_with fail
  have a0_2 : (w1.alloc (.cells #[.slice (some ⟨ga, 0, none⟩) 24 24] 42)).cell? ⟨w1.heap.size, 0, none⟩ = some (.slice (some ⟨ga, 0, none⟩) 24 24) := by go_cell
  have al_2 : w1.heap.size < (w1.alloc (.cells #[.slice (some ⟨ga, 0, none⟩) 24 24] 42)).heap.size := by simp
  have d2 : Below w1.heap.size w1 (w1.alloc (.cells #[.slice (some ⟨ga, 0, none⟩) 24 24] 42)) := by go_grown
  generalize (w1.alloc (.cells #[.slice (some ⟨ga, 0, none⟩) 24 24] 42)) = w2 at a0_2 al_2 d2 ⊢
  have c2 : Below w.heap.size w w2 := c1.trans (d2.mono c1.size)
  have ZA2 := hid (ZA1.out.later d2)
  have hw2 : w1.heap.size < w2.heap.size := al_2
  have hw0 := c1.size
  clear d2
  refine (implGOpen_any _).mono ?_
  rintro e w3 ⟨⟨gb, rfl, hgb, zb⟩, b3⟩
  have ZB3 := hid zb
  clear zb
  have d3 : Below w2.heap.size w2 w3 := (Below.trans (by go_grown) (b3.mono (by first | omega | (simp; done) | (simp; omega))))
  have c3 : Below w.heap.size w w3 := c2.trans (d3.mono c2.size)
  have a0_3 : w3.cell? ⟨w1.heap.size, 0, none⟩ = some (.slice (some ⟨ga, 0, none⟩) 24 24) := (by rw [b3.cell (by first | omega | (simp; done) | (simp; omega))]; go_cell)
  have al_3 : w1.heap.size < w3.heap.size := (by have := b3.size; first | omega | (revert this; simp; done) | (revert this; simp; omega))
  clear a0_2 al_2
  have ZA3 := hid (ZA2.out.later d3)
  clear b3 d3
  go_wp2_with fail
  have b0_4 : (w3.alloc (.cells #[.slice (some ⟨gb, 0, none⟩) 24 24] 42)).cell? ⟨w3.heap.size, 0, none⟩ = some (.slice (some ⟨gb, 0, none⟩) 24 24) := by go_cell
  have bl_4 : w3.heap.size < (w3.alloc (.cells #[.slice (some ⟨gb, 0, none⟩) 24 24] 42)).heap.size := by simp
  have d4 : Below w3.heap.size w3 (w3.alloc (.cells #[.slice (some ⟨gb, 0, none⟩) 24 24] 42)) := by go_grown
  generalize (w3.alloc (.cells #[.slice (some ⟨gb, 0, none⟩) 24 24] 42)) = w4 at b0_4 bl_4 d4 ⊢
  have c4 : Below w.heap.size w w4 := c3.trans (d4.mono c3.size)
  have a0_4 : w4.cell? ⟨w1.heap.size, 0, none⟩ = some (.slice (some ⟨ga, 0, none⟩) 24 24) := (by rw [d4.cell (by first | omega | (simp; done) | (simp; omega))]; go_cell)
  have al_4 : w1.heap.size < w4.heap.size := (by have := d4.size; omega)
  clear a0_3 al_3
  have ZA4 := hid (ZA3.out.later d4)
  have ZB4 := hid (ZB3.out.later d4)
  clear d4
  refine (eqGraph_any _ _ _ _ _ (ZB4.out.rd 24) (ZA4.out.rd 24)).mono ?_
  rintro e w5 ⟨rfl, b5⟩
  rw [eqG_refl]
  have d5 : Below w4.heap.size w4 w5 := (Below.trans (by go_grown) (b5.mono (by first | omega | (simp; done) | (simp; omega))))
  have c5 : Below w.heap.size w w5 := c4.trans (d5.mono c4.size)
  have a0_5 : w5.cell? ⟨w1.heap.size, 0, none⟩ = some (.slice (some ⟨ga, 0, none⟩) 24 24) := (by rw [b5.cell (by first | omega | (simp; done) | (simp; omega))]; go_cell)
  have al_5 : w1.heap.size < w5.heap.size := (by have := b5.size; first | omega | (revert this; simp; done) | (revert this; simp; omega))
  have b0_5 : w5.cell? ⟨w3.heap.size, 0, none⟩ = some (.slice (some ⟨gb, 0, none⟩) 24 24) := (by rw [b5.cell (by first | omega | (simp; done) | (simp; omega))]; go_cell)
  have bl_5 : w3.heap.size < w5.heap.size := (by have := b5.size; first | omega | (revert this; simp; done) | (revert this; simp; omega))
  clear a0_4 al_4 b0_4 bl_4
  have ZA5 := hid (ZA4.out.later d5)
  have ZB5 := hid (ZB4.out.later d5)
  clear b5 d5
  go_wp2_with fail
  refine (markGraph_z gb _ 1 _ ZB5.out (by omega) (by omega)).mono ?_
  rintro e w6 ⟨rfl, zb6, g6⟩
  have hab : ga ≠ gb := by have := ZA2.out.lt; omega
  have hgb3 := ZB3.out.lt
  have ZB6 := hid zb6
  have ZA6 := hid (ZA5.out.kept g6 hab)
  have a0_6 := g6.cell a0_5 (fun e => by have := Option.some.inj e; simp only at this; omega)
  have b0_6 := g6.cell b0_5 (fun e => by have := Option.some.inj e; simp only at this; omega)
  have al_6 : w1.heap.size < w6.heap.size := by have := g6.size; omega
  have bl_6 : w3.heap.size < w6.heap.size := by have := g6.size; omega
  have c6 : Below w.heap.size w w6 := c5.grown g6 c5.size (fun j e => by have := Option.some.inj e; have := c1.size; omega)
  clear zb6 g6 a0_5 b0_5 al_5 bl_5
  go_wp2_with fail
  refine (heldGraph_z gb _ 1 _ ZB6.out (fun j _ => rfl) (by omega) (by omega)).mono ?_
  rintro e w7 ⟨rfl, b7⟩
  have d7 : Below w6.heap.size w6 w7 := (Below.trans (by go_grown) (b7.mono (by first | omega | (simp; done) | (simp; omega))))
  have c7 : Below w.heap.size w w7 := c6.trans (d7.mono c6.size)
  have a0_7 : w7.cell? ⟨w1.heap.size, 0, none⟩ = some (.slice (some ⟨ga, 0, none⟩) 24 24) := (by rw [b7.cell (by first | omega | (simp; done) | (simp; omega))]; go_cell)
  have al_7 : w1.heap.size < w7.heap.size := (by have := b7.size; first | omega | (revert this; simp; done) | (revert this; simp; omega))
  have b0_7 : w7.cell? ⟨w3.heap.size, 0, none⟩ = some (.slice (some ⟨gb, 0, none⟩) 24 24) := (by rw [b7.cell (by first | omega | (simp; done) | (simp; omega))]; go_cell)
  have bl_7 : w3.heap.size < w7.heap.size := (by have := b7.size; first | omega | (revert this; simp; done) | (revert this; simp; omega))
  clear a0_6 al_6 b0_6 bl_6
  have ZA7 := hid (ZA6.out.later d7)
  have ZB7 := hid (ZB6.out.later d7)
  clear b7 d7
  go_wp2_with fail
  refine (implGOpen_any _).mono ?_
  rintro e w8 ⟨⟨gc, rfl, hgc, zc⟩, b8⟩
  have ZC8 := hid zc
  clear zc
  have d8 : Below w7.heap.size w7 w8 := (Below.trans (by go_grown) (b8.mono (by first | omega | (simp; done) | (simp; omega))))
  have c8 : Below w.heap.size w w8 := c7.trans (d8.mono c7.size)
  have a0_8 : w8.cell? ⟨w1.heap.size, 0, none⟩ = some (.slice (some ⟨ga, 0, none⟩) 24 24) := (by rw [b8.cell (by first | omega | (simp; done) | (simp; omega))]; go_cell)
  have al_8 : w1.heap.size < w8.heap.size := (by have := b8.size; first | omega | (revert this; simp; done) | (revert this; simp; omega))
  have b0_8 : w8.cell? ⟨w3.heap.size, 0, none⟩ = some (.slice (some ⟨gb, 0, none⟩) 24 24) := (by rw [b8.cell (by first | omega | (simp; done) | (simp; omega))]; go_cell)
  have bl_8 : w3.heap.size < w8.heap.size := (by have := b8.size; first | omega | (revert this; simp; done) | (revert this; simp; omega))
  clear a0_7 al_7 b0_7 bl_7
  have ZA8 := hid (ZA7.out.later d8)
  have ZB8 := hid (ZB7.out.later d8)
  clear b8 d8
  go_wp2_with fail
  have h0_9 : (w8.alloc (.cells #[.slice (some ⟨gc, 0, none⟩) 24 24] 42)).cell? ⟨w8.heap.size, 0, none⟩ = some (.slice (some ⟨gc, 0, none⟩) 24 24) := by go_cell
  have hl_9 : w8.heap.size < (w8.alloc (.cells #[.slice (some ⟨gc, 0, none⟩) 24 24] 42)).heap.size := by simp
  have d9 : Below w8.heap.size w8 (w8.alloc (.cells #[.slice (some ⟨gc, 0, none⟩) 24 24] 42)) := by go_grown
  generalize (w8.alloc (.cells #[.slice (some ⟨gc, 0, none⟩) 24 24] 42)) = w9 at h0_9 hl_9 d9 ⊢
  have c9 : Below w.heap.size w w9 := c8.trans (d9.mono c8.size)
  have a0_9 : w9.cell? ⟨w1.heap.size, 0, none⟩ = some (.slice (some ⟨ga, 0, none⟩) 24 24) := (by rw [d9.cell (by first | omega | (simp; done) | (simp; omega))]; go_cell)
  have al_9 : w1.heap.size < w9.heap.size := (by have := d9.size; omega)
  have b0_9 : w9.cell? ⟨w3.heap.size, 0, none⟩ = some (.slice (some ⟨gb, 0, none⟩) 24 24) := (by rw [d9.cell (by first | omega | (simp; done) | (simp; omega))]; go_cell)
  have bl_9 : w3.heap.size < w9.heap.size := (by have := d9.size; omega)
  clear a0_8 al_8 b0_8 bl_8
  have ZA9 := hid (ZA8.out.later d9)
  have ZB9 := hid (ZB8.out.later d9)
  have ZC9 := hid (ZC8.out.later d9)
  clear d9
  refine (eqGraph_any _ _ _ _ _ (ZC9.out.rd 24) (ZA9.out.rd 24)).mono ?_
  rintro e w10 ⟨rfl, b10⟩
  rw [eqG_refl]
  have d10 : Below w9.heap.size w9 w10 := (Below.trans (by go_grown) (b10.mono (by first | omega | (simp; done) | (simp; omega))))
  have c10 : Below w.heap.size w w10 := c9.trans (d10.mono c9.size)
  have b0_10 : w10.cell? ⟨w3.heap.size, 0, none⟩ = some (.slice (some ⟨gb, 0, none⟩) 24 24) := (by rw [b10.cell (by first | omega | (simp; done) | (simp; omega))]; go_cell)
  have bl_10 : w3.heap.size < w10.heap.size := (by have := b10.size; first | omega | (revert this; simp; done) | (revert this; simp; omega))
  clear b0_9 bl_9
  have ZB10 := hid (ZB9.out.later d10)
  clear b10 d10
  go_wp2_with fail
  refine (heldGraph_z gb _ 1 _ ZB10.out (fun j _ => rfl) (by omega) (by omega)).mono ?_
  rintro e w11 ⟨rfl, b11⟩
  have d11 : Below w10.heap.size w10 w11 := (Below.trans (by go_grown) (b11.mono (by first | omega | (simp; done) | (simp; omega))))
  have c11 : Below w.heap.size w w11 := c10.trans (d11.mono c10.size)
  go_wp2
  go_ret
  exact ⟨by simp, c11⟩
end Go.Proofs.Ytnpfkhbnfihbdab
