/- The law FnExactShardOpen: its walk. -/
import Derived.Test.YtildbhhoedhkjaaSa
namespace Go.Proofs.Ytildbhhoedhkjaa
open Go.RowKit

set_option maxRecDepth 100000 in
set_option maxHeartbeats 8000000 in
theorem lawSOpen_yes (p : Int) (w : World) (hp0 : 0 ≤ p) (hp1 : p < 2) :
    Calls Try.prog 3 #[.int .i64 p] w fun e w' => e = .returned (.bool true) ∧ Below w.heap.size w w' := by
  go_enter Try.func3, Try.ntmps3
  go_wp2_with fail
  refine (specSOpen_yes p _ hp0 hp1).mono ?_
  rintro e w1 ⟨⟨ga, rfl, hga, za⟩, b1⟩
  have c1 := b1
  have ZA1 := hid za
  clear za b1
  go_wp2_with fail
  have a0_2 : (w1.alloc (.cells #[.int .i64 p, .int .i64 0, .int .i64 0, .slice (some ⟨ga, 0, none⟩) 24 24, .slice none 0 0, .slice none 0 0, .slice none 0 0, .slice none 0 0] 28)).cell? ⟨w1.heap.size, 0, none⟩ = some (.int .i64 p) := by go_cell
  have a1_2 : (w1.alloc (.cells #[.int .i64 p, .int .i64 0, .int .i64 0, .slice (some ⟨ga, 0, none⟩) 24 24, .slice none 0 0, .slice none 0 0, .slice none 0 0, .slice none 0 0] 28)).cell? ⟨w1.heap.size, 1, none⟩ = some (.int .i64 0) := by go_cell
  have a2_2 : (w1.alloc (.cells #[.int .i64 p, .int .i64 0, .int .i64 0, .slice (some ⟨ga, 0, none⟩) 24 24, .slice none 0 0, .slice none 0 0, .slice none 0 0, .slice none 0 0] 28)).cell? ⟨w1.heap.size, 2, none⟩ = some (.int .i64 0) := by go_cell
  have a3_2 : (w1.alloc (.cells #[.int .i64 p, .int .i64 0, .int .i64 0, .slice (some ⟨ga, 0, none⟩) 24 24, .slice none 0 0, .slice none 0 0, .slice none 0 0, .slice none 0 0] 28)).cell? ⟨w1.heap.size, 3, none⟩ = some (.slice (some ⟨ga, 0, none⟩) 24 24) := by go_cell
  have a4_2 : (w1.alloc (.cells #[.int .i64 p, .int .i64 0, .int .i64 0, .slice (some ⟨ga, 0, none⟩) 24 24, .slice none 0 0, .slice none 0 0, .slice none 0 0, .slice none 0 0] 28)).cell? ⟨w1.heap.size, 4, none⟩ = some (.slice none 0 0) := by go_cell
  have a5_2 : (w1.alloc (.cells #[.int .i64 p, .int .i64 0, .int .i64 0, .slice (some ⟨ga, 0, none⟩) 24 24, .slice none 0 0, .slice none 0 0, .slice none 0 0, .slice none 0 0] 28)).cell? ⟨w1.heap.size, 5, none⟩ = some (.slice none 0 0) := by go_cell
  have a6_2 : (w1.alloc (.cells #[.int .i64 p, .int .i64 0, .int .i64 0, .slice (some ⟨ga, 0, none⟩) 24 24, .slice none 0 0, .slice none 0 0, .slice none 0 0, .slice none 0 0] 28)).cell? ⟨w1.heap.size, 6, none⟩ = some (.slice none 0 0) := by go_cell
  have a7_2 : (w1.alloc (.cells #[.int .i64 p, .int .i64 0, .int .i64 0, .slice (some ⟨ga, 0, none⟩) 24 24, .slice none 0 0, .slice none 0 0, .slice none 0 0, .slice none 0 0] 28)).cell? ⟨w1.heap.size, 7, none⟩ = some (.slice none 0 0) := by go_cell
  have al_2 : w1.heap.size < (w1.alloc (.cells #[.int .i64 p, .int .i64 0, .int .i64 0, .slice (some ⟨ga, 0, none⟩) 24 24, .slice none 0 0, .slice none 0 0, .slice none 0 0, .slice none 0 0] 28)).heap.size := by simp
  have d2 : Below w1.heap.size w1 (w1.alloc (.cells #[.int .i64 p, .int .i64 0, .int .i64 0, .slice (some ⟨ga, 0, none⟩) 24 24, .slice none 0 0, .slice none 0 0, .slice none 0 0, .slice none 0 0] 28)) := by go_grown
  generalize (w1.alloc (.cells #[.int .i64 p, .int .i64 0, .int .i64 0, .slice (some ⟨ga, 0, none⟩) 24 24, .slice none 0 0, .slice none 0 0, .slice none 0 0, .slice none 0 0] 28)) = w2 at a0_2 a1_2 a2_2 a3_2 a4_2 a5_2 a6_2 a7_2 al_2 d2 ⊢
  have c2 : Below w.heap.size w w2 := c1.trans (d2.mono c1.size)
  have ZA2 := hid (ZA1.out.later d2)
  have hw2 : w1.heap.size < w2.heap.size := al_2
  have hw0 := c1.size
  clear d2
  refine (implSOpen_yes p _ hp0 hp1).mono ?_
  rintro e w3 ⟨⟨gb, rfl, hgb, zb⟩, b3⟩
  have ZB3 := hid zb
  clear zb
  have d3 : Below w2.heap.size w2 w3 := (Below.trans (by go_grown) (b3.mono (by first | omega | (simp; done) | (simp; omega))))
  have c3 : Below w.heap.size w w3 := c2.trans (d3.mono c2.size)
  have a0_3 : w3.cell? ⟨w1.heap.size, 0, none⟩ = some (.int .i64 p) := (by rw [b3.cell (by first | omega | (simp; done) | (simp; omega))]; go_cell)
  have a1_3 : w3.cell? ⟨w1.heap.size, 1, none⟩ = some (.int .i64 0) := (by rw [b3.cell (by first | omega | (simp; done) | (simp; omega))]; go_cell)
  have a2_3 : w3.cell? ⟨w1.heap.size, 2, none⟩ = some (.int .i64 0) := (by rw [b3.cell (by first | omega | (simp; done) | (simp; omega))]; go_cell)
  have a3_3 : w3.cell? ⟨w1.heap.size, 3, none⟩ = some (.slice (some ⟨ga, 0, none⟩) 24 24) := (by rw [b3.cell (by first | omega | (simp; done) | (simp; omega))]; go_cell)
  have a4_3 : w3.cell? ⟨w1.heap.size, 4, none⟩ = some (.slice none 0 0) := (by rw [b3.cell (by first | omega | (simp; done) | (simp; omega))]; go_cell)
  have a5_3 : w3.cell? ⟨w1.heap.size, 5, none⟩ = some (.slice none 0 0) := (by rw [b3.cell (by first | omega | (simp; done) | (simp; omega))]; go_cell)
  have a6_3 : w3.cell? ⟨w1.heap.size, 6, none⟩ = some (.slice none 0 0) := (by rw [b3.cell (by first | omega | (simp; done) | (simp; omega))]; go_cell)
  have a7_3 : w3.cell? ⟨w1.heap.size, 7, none⟩ = some (.slice none 0 0) := (by rw [b3.cell (by first | omega | (simp; done) | (simp; omega))]; go_cell)
  have al_3 : w1.heap.size < w3.heap.size := (by have := b3.size; first | omega | (revert this; simp; done) | (revert this; simp; omega))
  clear a0_2 a1_2 a2_2 a3_2 a4_2 a5_2 a6_2 a7_2 al_2
  have ZA3 := hid (ZA2.out.later d3)
  clear b3 d3
  go_wp2_with fail
  have b0_4 : (w3.alloc (.cells #[.int .i64 p, .int .i64 0, .int .i64 0, .slice (some ⟨gb, 0, none⟩) 24 24, .slice none 0 0, .slice none 0 0, .slice none 0 0, .slice none 0 0] 28)).cell? ⟨w3.heap.size, 0, none⟩ = some (.int .i64 p) := by go_cell
  have b1_4 : (w3.alloc (.cells #[.int .i64 p, .int .i64 0, .int .i64 0, .slice (some ⟨gb, 0, none⟩) 24 24, .slice none 0 0, .slice none 0 0, .slice none 0 0, .slice none 0 0] 28)).cell? ⟨w3.heap.size, 1, none⟩ = some (.int .i64 0) := by go_cell
  have b2_4 : (w3.alloc (.cells #[.int .i64 p, .int .i64 0, .int .i64 0, .slice (some ⟨gb, 0, none⟩) 24 24, .slice none 0 0, .slice none 0 0, .slice none 0 0, .slice none 0 0] 28)).cell? ⟨w3.heap.size, 2, none⟩ = some (.int .i64 0) := by go_cell
  have b3_4 : (w3.alloc (.cells #[.int .i64 p, .int .i64 0, .int .i64 0, .slice (some ⟨gb, 0, none⟩) 24 24, .slice none 0 0, .slice none 0 0, .slice none 0 0, .slice none 0 0] 28)).cell? ⟨w3.heap.size, 3, none⟩ = some (.slice (some ⟨gb, 0, none⟩) 24 24) := by go_cell
  have b4_4 : (w3.alloc (.cells #[.int .i64 p, .int .i64 0, .int .i64 0, .slice (some ⟨gb, 0, none⟩) 24 24, .slice none 0 0, .slice none 0 0, .slice none 0 0, .slice none 0 0] 28)).cell? ⟨w3.heap.size, 4, none⟩ = some (.slice none 0 0) := by go_cell
  have b5_4 : (w3.alloc (.cells #[.int .i64 p, .int .i64 0, .int .i64 0, .slice (some ⟨gb, 0, none⟩) 24 24, .slice none 0 0, .slice none 0 0, .slice none 0 0, .slice none 0 0] 28)).cell? ⟨w3.heap.size, 5, none⟩ = some (.slice none 0 0) := by go_cell
  have b6_4 : (w3.alloc (.cells #[.int .i64 p, .int .i64 0, .int .i64 0, .slice (some ⟨gb, 0, none⟩) 24 24, .slice none 0 0, .slice none 0 0, .slice none 0 0, .slice none 0 0] 28)).cell? ⟨w3.heap.size, 6, none⟩ = some (.slice none 0 0) := by go_cell
  have b7_4 : (w3.alloc (.cells #[.int .i64 p, .int .i64 0, .int .i64 0, .slice (some ⟨gb, 0, none⟩) 24 24, .slice none 0 0, .slice none 0 0, .slice none 0 0, .slice none 0 0] 28)).cell? ⟨w3.heap.size, 7, none⟩ = some (.slice none 0 0) := by go_cell
  have bl_4 : w3.heap.size < (w3.alloc (.cells #[.int .i64 p, .int .i64 0, .int .i64 0, .slice (some ⟨gb, 0, none⟩) 24 24, .slice none 0 0, .slice none 0 0, .slice none 0 0, .slice none 0 0] 28)).heap.size := by simp
  have d4 : Below w3.heap.size w3 (w3.alloc (.cells #[.int .i64 p, .int .i64 0, .int .i64 0, .slice (some ⟨gb, 0, none⟩) 24 24, .slice none 0 0, .slice none 0 0, .slice none 0 0, .slice none 0 0] 28)) := by go_grown
  generalize (w3.alloc (.cells #[.int .i64 p, .int .i64 0, .int .i64 0, .slice (some ⟨gb, 0, none⟩) 24 24, .slice none 0 0, .slice none 0 0, .slice none 0 0, .slice none 0 0] 28)) = w4 at b0_4 b1_4 b2_4 b3_4 b4_4 b5_4 b6_4 b7_4 bl_4 d4 ⊢
  have c4 : Below w.heap.size w w4 := c3.trans (d4.mono c3.size)
  have a0_4 : w4.cell? ⟨w1.heap.size, 0, none⟩ = some (.int .i64 p) := (by rw [d4.cell (by first | omega | (simp; done) | (simp; omega))]; go_cell)
  have a1_4 : w4.cell? ⟨w1.heap.size, 1, none⟩ = some (.int .i64 0) := (by rw [d4.cell (by first | omega | (simp; done) | (simp; omega))]; go_cell)
  have a2_4 : w4.cell? ⟨w1.heap.size, 2, none⟩ = some (.int .i64 0) := (by rw [d4.cell (by first | omega | (simp; done) | (simp; omega))]; go_cell)
  have a3_4 : w4.cell? ⟨w1.heap.size, 3, none⟩ = some (.slice (some ⟨ga, 0, none⟩) 24 24) := (by rw [d4.cell (by first | omega | (simp; done) | (simp; omega))]; go_cell)
  have a4_4 : w4.cell? ⟨w1.heap.size, 4, none⟩ = some (.slice none 0 0) := (by rw [d4.cell (by first | omega | (simp; done) | (simp; omega))]; go_cell)
  have a5_4 : w4.cell? ⟨w1.heap.size, 5, none⟩ = some (.slice none 0 0) := (by rw [d4.cell (by first | omega | (simp; done) | (simp; omega))]; go_cell)
  have a6_4 : w4.cell? ⟨w1.heap.size, 6, none⟩ = some (.slice none 0 0) := (by rw [d4.cell (by first | omega | (simp; done) | (simp; omega))]; go_cell)
  have a7_4 : w4.cell? ⟨w1.heap.size, 7, none⟩ = some (.slice none 0 0) := (by rw [d4.cell (by first | omega | (simp; done) | (simp; omega))]; go_cell)
  have al_4 : w1.heap.size < w4.heap.size := (by have := d4.size; omega)
  clear a0_3 a1_3 a2_3 a3_3 a4_3 a5_3 a6_3 a7_3 al_3
  have ZA4 := hid (ZA3.out.later d4)
  have ZB4 := hid (ZB3.out.later d4)
  clear d4
  refine (eqShard_z p _ _ _ ZB4.out ZA4.out).mono ?_
  rintro e w5 ⟨rfl, b5⟩
  have d5 : Below w4.heap.size w4 w5 := (Below.trans (by go_grown) (b5.mono (by first | omega | (simp; done) | (simp; omega))))
  have c5 : Below w.heap.size w w5 := c4.trans (d5.mono c4.size)
  have a0_5 : w5.cell? ⟨w1.heap.size, 0, none⟩ = some (.int .i64 p) := (by rw [b5.cell (by first | omega | (simp; done) | (simp; omega))]; go_cell)
  have a1_5 : w5.cell? ⟨w1.heap.size, 1, none⟩ = some (.int .i64 0) := (by rw [b5.cell (by first | omega | (simp; done) | (simp; omega))]; go_cell)
  have a2_5 : w5.cell? ⟨w1.heap.size, 2, none⟩ = some (.int .i64 0) := (by rw [b5.cell (by first | omega | (simp; done) | (simp; omega))]; go_cell)
  have a3_5 : w5.cell? ⟨w1.heap.size, 3, none⟩ = some (.slice (some ⟨ga, 0, none⟩) 24 24) := (by rw [b5.cell (by first | omega | (simp; done) | (simp; omega))]; go_cell)
  have a4_5 : w5.cell? ⟨w1.heap.size, 4, none⟩ = some (.slice none 0 0) := (by rw [b5.cell (by first | omega | (simp; done) | (simp; omega))]; go_cell)
  have a5_5 : w5.cell? ⟨w1.heap.size, 5, none⟩ = some (.slice none 0 0) := (by rw [b5.cell (by first | omega | (simp; done) | (simp; omega))]; go_cell)
  have a6_5 : w5.cell? ⟨w1.heap.size, 6, none⟩ = some (.slice none 0 0) := (by rw [b5.cell (by first | omega | (simp; done) | (simp; omega))]; go_cell)
  have a7_5 : w5.cell? ⟨w1.heap.size, 7, none⟩ = some (.slice none 0 0) := (by rw [b5.cell (by first | omega | (simp; done) | (simp; omega))]; go_cell)
  have al_5 : w1.heap.size < w5.heap.size := (by have := b5.size; first | omega | (revert this; simp; done) | (revert this; simp; omega))
  have b0_5 : w5.cell? ⟨w3.heap.size, 0, none⟩ = some (.int .i64 p) := (by rw [b5.cell (by first | omega | (simp; done) | (simp; omega))]; go_cell)
  have b1_5 : w5.cell? ⟨w3.heap.size, 1, none⟩ = some (.int .i64 0) := (by rw [b5.cell (by first | omega | (simp; done) | (simp; omega))]; go_cell)
  have b2_5 : w5.cell? ⟨w3.heap.size, 2, none⟩ = some (.int .i64 0) := (by rw [b5.cell (by first | omega | (simp; done) | (simp; omega))]; go_cell)
  have b3_5 : w5.cell? ⟨w3.heap.size, 3, none⟩ = some (.slice (some ⟨gb, 0, none⟩) 24 24) := (by rw [b5.cell (by first | omega | (simp; done) | (simp; omega))]; go_cell)
  have b4_5 : w5.cell? ⟨w3.heap.size, 4, none⟩ = some (.slice none 0 0) := (by rw [b5.cell (by first | omega | (simp; done) | (simp; omega))]; go_cell)
  have b5_5 : w5.cell? ⟨w3.heap.size, 5, none⟩ = some (.slice none 0 0) := (by rw [b5.cell (by first | omega | (simp; done) | (simp; omega))]; go_cell)
  have b6_5 : w5.cell? ⟨w3.heap.size, 6, none⟩ = some (.slice none 0 0) := (by rw [b5.cell (by first | omega | (simp; done) | (simp; omega))]; go_cell)
  have b7_5 : w5.cell? ⟨w3.heap.size, 7, none⟩ = some (.slice none 0 0) := (by rw [b5.cell (by first | omega | (simp; done) | (simp; omega))]; go_cell)
  have bl_5 : w3.heap.size < w5.heap.size := (by have := b5.size; first | omega | (revert this; simp; done) | (revert this; simp; omega))
  clear a0_4 a1_4 a2_4 a3_4 a4_4 a5_4 a6_4 a7_4 al_4 b0_4 b1_4 b2_4 b3_4 b4_4 b5_4 b6_4 b7_4 bl_4
  have ZA5 := hid (ZA4.out.later d5)
  have ZB5 := hid (ZB4.out.later d5)
  clear b5 d5
  go_wp2_with fail
  refine (markShard_z p gb _ _ 1 _ ZB5.out (by omega) (by omega)).mono ?_
  rintro e w6 ⟨rfl, zb6, g6⟩
  have hab : ga ≠ gb := by have := ZA2.out.lt; omega
  have hgb3 := ZB3.out.lt
  have ZB6 := hid zb6
  have ZA6 := hid (ZA5.out.kept g6 hab)
  have a0_6 := g6.cell a0_5 (fun e => by have := Option.some.inj e; simp only at this; omega)
  have b0_6 := g6.cell b0_5 (fun e => by have := Option.some.inj e; simp only at this; omega)
  have a1_6 := g6.cell a1_5 (fun e => by have := Option.some.inj e; simp only at this; omega)
  have b1_6 := g6.cell b1_5 (fun e => by have := Option.some.inj e; simp only at this; omega)
  have a2_6 := g6.cell a2_5 (fun e => by have := Option.some.inj e; simp only at this; omega)
  have b2_6 := g6.cell b2_5 (fun e => by have := Option.some.inj e; simp only at this; omega)
  have a3_6 := g6.cell a3_5 (fun e => by have := Option.some.inj e; simp only at this; omega)
  have b3_6 := g6.cell b3_5 (fun e => by have := Option.some.inj e; simp only at this; omega)
  have a4_6 := g6.cell a4_5 (fun e => by have := Option.some.inj e; simp only at this; omega)
  have b4_6 := g6.cell b4_5 (fun e => by have := Option.some.inj e; simp only at this; omega)
  have a5_6 := g6.cell a5_5 (fun e => by have := Option.some.inj e; simp only at this; omega)
  have b5_6 := g6.cell b5_5 (fun e => by have := Option.some.inj e; simp only at this; omega)
  have a6_6 := g6.cell a6_5 (fun e => by have := Option.some.inj e; simp only at this; omega)
  have b6_6 := g6.cell b6_5 (fun e => by have := Option.some.inj e; simp only at this; omega)
  have a7_6 := g6.cell a7_5 (fun e => by have := Option.some.inj e; simp only at this; omega)
  have b7_6 := g6.cell b7_5 (fun e => by have := Option.some.inj e; simp only at this; omega)
  have al_6 : w1.heap.size < w6.heap.size := by have := g6.size; omega
  have bl_6 : w3.heap.size < w6.heap.size := by have := g6.size; omega
  have c6 : Below w.heap.size w w6 := c5.grown g6 c5.size (fun j e => by have := Option.some.inj e; have := c1.size; omega)
  clear zb6 g6 al_5 bl_5 a0_5 b0_5 a1_5 b1_5 a2_5 b2_5 a3_5 b3_5 a4_5 b4_5 a5_5 b5_5 a6_5 b6_5 a7_5 b7_5
  go_wp2_with fail
  refine (heldShard_z p gb 1 _ ZB6.out (by omega) (by omega)).mono ?_
  rintro e w7 ⟨rfl, b7⟩
  have d7 : Below w6.heap.size w6 w7 := (Below.trans (by go_grown) (b7.mono (by first | omega | (simp; done) | (simp; omega))))
  have c7 : Below w.heap.size w w7 := c6.trans (d7.mono c6.size)
  have a0_7 : w7.cell? ⟨w1.heap.size, 0, none⟩ = some (.int .i64 p) := (by rw [b7.cell (by first | omega | (simp; done) | (simp; omega))]; go_cell)
  have a1_7 : w7.cell? ⟨w1.heap.size, 1, none⟩ = some (.int .i64 0) := (by rw [b7.cell (by first | omega | (simp; done) | (simp; omega))]; go_cell)
  have a2_7 : w7.cell? ⟨w1.heap.size, 2, none⟩ = some (.int .i64 0) := (by rw [b7.cell (by first | omega | (simp; done) | (simp; omega))]; go_cell)
  have a3_7 : w7.cell? ⟨w1.heap.size, 3, none⟩ = some (.slice (some ⟨ga, 0, none⟩) 24 24) := (by rw [b7.cell (by first | omega | (simp; done) | (simp; omega))]; go_cell)
  have a4_7 : w7.cell? ⟨w1.heap.size, 4, none⟩ = some (.slice none 0 0) := (by rw [b7.cell (by first | omega | (simp; done) | (simp; omega))]; go_cell)
  have a5_7 : w7.cell? ⟨w1.heap.size, 5, none⟩ = some (.slice none 0 0) := (by rw [b7.cell (by first | omega | (simp; done) | (simp; omega))]; go_cell)
  have a6_7 : w7.cell? ⟨w1.heap.size, 6, none⟩ = some (.slice none 0 0) := (by rw [b7.cell (by first | omega | (simp; done) | (simp; omega))]; go_cell)
  have a7_7 : w7.cell? ⟨w1.heap.size, 7, none⟩ = some (.slice none 0 0) := (by rw [b7.cell (by first | omega | (simp; done) | (simp; omega))]; go_cell)
  have al_7 : w1.heap.size < w7.heap.size := (by have := b7.size; first | omega | (revert this; simp; done) | (revert this; simp; omega))
  have b0_7 : w7.cell? ⟨w3.heap.size, 0, none⟩ = some (.int .i64 p) := (by rw [b7.cell (by first | omega | (simp; done) | (simp; omega))]; go_cell)
  have b1_7 : w7.cell? ⟨w3.heap.size, 1, none⟩ = some (.int .i64 0) := (by rw [b7.cell (by first | omega | (simp; done) | (simp; omega))]; go_cell)
  have b2_7 : w7.cell? ⟨w3.heap.size, 2, none⟩ = some (.int .i64 0) := (by rw [b7.cell (by first | omega | (simp; done) | (simp; omega))]; go_cell)
  have b3_7 : w7.cell? ⟨w3.heap.size, 3, none⟩ = some (.slice (some ⟨gb, 0, none⟩) 24 24) := (by rw [b7.cell (by first | omega | (simp; done) | (simp; omega))]; go_cell)
  have b4_7 : w7.cell? ⟨w3.heap.size, 4, none⟩ = some (.slice none 0 0) := (by rw [b7.cell (by first | omega | (simp; done) | (simp; omega))]; go_cell)
  have b5_7 : w7.cell? ⟨w3.heap.size, 5, none⟩ = some (.slice none 0 0) := (by rw [b7.cell (by first | omega | (simp; done) | (simp; omega))]; go_cell)
  have b6_7 : w7.cell? ⟨w3.heap.size, 6, none⟩ = some (.slice none 0 0) := (by rw [b7.cell (by first | omega | (simp; done) | (simp; omega))]; go_cell)
  have b7_7 : w7.cell? ⟨w3.heap.size, 7, none⟩ = some (.slice none 0 0) := (by rw [b7.cell (by first | omega | (simp; done) | (simp; omega))]; go_cell)
  have bl_7 : w3.heap.size < w7.heap.size := (by have := b7.size; first | omega | (revert this; simp; done) | (revert this; simp; omega))
  clear a0_6 a1_6 a2_6 a3_6 a4_6 a5_6 a6_6 a7_6 al_6 b0_6 b1_6 b2_6 b3_6 b4_6 b5_6 b6_6 b7_6 bl_6
  have ZA7 := hid (ZA6.out.later d7)
  have ZB7 := hid (ZB6.out.later d7)
  clear b7 d7
  go_wp2_with fail
  refine (implSOpen_yes p _ hp0 hp1).mono ?_
  rintro e w8 ⟨⟨gc, rfl, hgc, zc⟩, b8⟩
  have ZC8 := hid zc
  clear zc
  have d8 : Below w7.heap.size w7 w8 := (Below.trans (by go_grown) (b8.mono (by first | omega | (simp; done) | (simp; omega))))
  have c8 : Below w.heap.size w w8 := c7.trans (d8.mono c7.size)
  have a0_8 : w8.cell? ⟨w1.heap.size, 0, none⟩ = some (.int .i64 p) := (by rw [b8.cell (by first | omega | (simp; done) | (simp; omega))]; go_cell)
  have a1_8 : w8.cell? ⟨w1.heap.size, 1, none⟩ = some (.int .i64 0) := (by rw [b8.cell (by first | omega | (simp; done) | (simp; omega))]; go_cell)
  have a2_8 : w8.cell? ⟨w1.heap.size, 2, none⟩ = some (.int .i64 0) := (by rw [b8.cell (by first | omega | (simp; done) | (simp; omega))]; go_cell)
  have a3_8 : w8.cell? ⟨w1.heap.size, 3, none⟩ = some (.slice (some ⟨ga, 0, none⟩) 24 24) := (by rw [b8.cell (by first | omega | (simp; done) | (simp; omega))]; go_cell)
  have a4_8 : w8.cell? ⟨w1.heap.size, 4, none⟩ = some (.slice none 0 0) := (by rw [b8.cell (by first | omega | (simp; done) | (simp; omega))]; go_cell)
  have a5_8 : w8.cell? ⟨w1.heap.size, 5, none⟩ = some (.slice none 0 0) := (by rw [b8.cell (by first | omega | (simp; done) | (simp; omega))]; go_cell)
  have a6_8 : w8.cell? ⟨w1.heap.size, 6, none⟩ = some (.slice none 0 0) := (by rw [b8.cell (by first | omega | (simp; done) | (simp; omega))]; go_cell)
  have a7_8 : w8.cell? ⟨w1.heap.size, 7, none⟩ = some (.slice none 0 0) := (by rw [b8.cell (by first | omega | (simp; done) | (simp; omega))]; go_cell)
  have al_8 : w1.heap.size < w8.heap.size := (by have := b8.size; first | omega | (revert this; simp; done) | (revert this; simp; omega))
  have b0_8 : w8.cell? ⟨w3.heap.size, 0, none⟩ = some (.int .i64 p) := (by rw [b8.cell (by first | omega | (simp; done) | (simp; omega))]; go_cell)
  have b1_8 : w8.cell? ⟨w3.heap.size, 1, none⟩ = some (.int .i64 0) := (by rw [b8.cell (by first | omega | (simp; done) | (simp; omega))]; go_cell)
  have b2_8 : w8.cell? ⟨w3.heap.size, 2, none⟩ = some (.int .i64 0) := (by rw [b8.cell (by first | omega | (simp; done) | (simp; omega))]; go_cell)
  have b3_8 : w8.cell? ⟨w3.heap.size, 3, none⟩ = some (.slice (some ⟨gb, 0, none⟩) 24 24) := (by rw [b8.cell (by first | omega | (simp; done) | (simp; omega))]; go_cell)
  have b4_8 : w8.cell? ⟨w3.heap.size, 4, none⟩ = some (.slice none 0 0) := (by rw [b8.cell (by first | omega | (simp; done) | (simp; omega))]; go_cell)
  have b5_8 : w8.cell? ⟨w3.heap.size, 5, none⟩ = some (.slice none 0 0) := (by rw [b8.cell (by first | omega | (simp; done) | (simp; omega))]; go_cell)
  have b6_8 : w8.cell? ⟨w3.heap.size, 6, none⟩ = some (.slice none 0 0) := (by rw [b8.cell (by first | omega | (simp; done) | (simp; omega))]; go_cell)
  have b7_8 : w8.cell? ⟨w3.heap.size, 7, none⟩ = some (.slice none 0 0) := (by rw [b8.cell (by first | omega | (simp; done) | (simp; omega))]; go_cell)
  have bl_8 : w3.heap.size < w8.heap.size := (by have := b8.size; first | omega | (revert this; simp; done) | (revert this; simp; omega))
  clear a0_7 a1_7 a2_7 a3_7 a4_7 a5_7 a6_7 a7_7 al_7 b0_7 b1_7 b2_7 b3_7 b4_7 b5_7 b6_7 b7_7 bl_7
  have ZA8 := hid (ZA7.out.later d8)
  have ZB8 := hid (ZB7.out.later d8)
  clear b8 d8
  go_wp2_with fail
  have h0_9 : (w8.alloc (.cells #[.int .i64 p, .int .i64 0, .int .i64 0, .slice (some ⟨gc, 0, none⟩) 24 24, .slice none 0 0, .slice none 0 0, .slice none 0 0, .slice none 0 0] 28)).cell? ⟨w8.heap.size, 0, none⟩ = some (.int .i64 p) := by go_cell
  have h1_9 : (w8.alloc (.cells #[.int .i64 p, .int .i64 0, .int .i64 0, .slice (some ⟨gc, 0, none⟩) 24 24, .slice none 0 0, .slice none 0 0, .slice none 0 0, .slice none 0 0] 28)).cell? ⟨w8.heap.size, 1, none⟩ = some (.int .i64 0) := by go_cell
  have h2_9 : (w8.alloc (.cells #[.int .i64 p, .int .i64 0, .int .i64 0, .slice (some ⟨gc, 0, none⟩) 24 24, .slice none 0 0, .slice none 0 0, .slice none 0 0, .slice none 0 0] 28)).cell? ⟨w8.heap.size, 2, none⟩ = some (.int .i64 0) := by go_cell
  have h3_9 : (w8.alloc (.cells #[.int .i64 p, .int .i64 0, .int .i64 0, .slice (some ⟨gc, 0, none⟩) 24 24, .slice none 0 0, .slice none 0 0, .slice none 0 0, .slice none 0 0] 28)).cell? ⟨w8.heap.size, 3, none⟩ = some (.slice (some ⟨gc, 0, none⟩) 24 24) := by go_cell
  have h4_9 : (w8.alloc (.cells #[.int .i64 p, .int .i64 0, .int .i64 0, .slice (some ⟨gc, 0, none⟩) 24 24, .slice none 0 0, .slice none 0 0, .slice none 0 0, .slice none 0 0] 28)).cell? ⟨w8.heap.size, 4, none⟩ = some (.slice none 0 0) := by go_cell
  have h5_9 : (w8.alloc (.cells #[.int .i64 p, .int .i64 0, .int .i64 0, .slice (some ⟨gc, 0, none⟩) 24 24, .slice none 0 0, .slice none 0 0, .slice none 0 0, .slice none 0 0] 28)).cell? ⟨w8.heap.size, 5, none⟩ = some (.slice none 0 0) := by go_cell
  have h6_9 : (w8.alloc (.cells #[.int .i64 p, .int .i64 0, .int .i64 0, .slice (some ⟨gc, 0, none⟩) 24 24, .slice none 0 0, .slice none 0 0, .slice none 0 0, .slice none 0 0] 28)).cell? ⟨w8.heap.size, 6, none⟩ = some (.slice none 0 0) := by go_cell
  have h7_9 : (w8.alloc (.cells #[.int .i64 p, .int .i64 0, .int .i64 0, .slice (some ⟨gc, 0, none⟩) 24 24, .slice none 0 0, .slice none 0 0, .slice none 0 0, .slice none 0 0] 28)).cell? ⟨w8.heap.size, 7, none⟩ = some (.slice none 0 0) := by go_cell
  have hl_9 : w8.heap.size < (w8.alloc (.cells #[.int .i64 p, .int .i64 0, .int .i64 0, .slice (some ⟨gc, 0, none⟩) 24 24, .slice none 0 0, .slice none 0 0, .slice none 0 0, .slice none 0 0] 28)).heap.size := by simp
  have d9 : Below w8.heap.size w8 (w8.alloc (.cells #[.int .i64 p, .int .i64 0, .int .i64 0, .slice (some ⟨gc, 0, none⟩) 24 24, .slice none 0 0, .slice none 0 0, .slice none 0 0, .slice none 0 0] 28)) := by go_grown
  generalize (w8.alloc (.cells #[.int .i64 p, .int .i64 0, .int .i64 0, .slice (some ⟨gc, 0, none⟩) 24 24, .slice none 0 0, .slice none 0 0, .slice none 0 0, .slice none 0 0] 28)) = w9 at h0_9 h1_9 h2_9 h3_9 h4_9 h5_9 h6_9 h7_9 hl_9 d9 ⊢
  have c9 : Below w.heap.size w w9 := c8.trans (d9.mono c8.size)
  have a0_9 : w9.cell? ⟨w1.heap.size, 0, none⟩ = some (.int .i64 p) := (by rw [d9.cell (by first | omega | (simp; done) | (simp; omega))]; go_cell)
  have a1_9 : w9.cell? ⟨w1.heap.size, 1, none⟩ = some (.int .i64 0) := (by rw [d9.cell (by first | omega | (simp; done) | (simp; omega))]; go_cell)
  have a2_9 : w9.cell? ⟨w1.heap.size, 2, none⟩ = some (.int .i64 0) := (by rw [d9.cell (by first | omega | (simp; done) | (simp; omega))]; go_cell)
  have a3_9 : w9.cell? ⟨w1.heap.size, 3, none⟩ = some (.slice (some ⟨ga, 0, none⟩) 24 24) := (by rw [d9.cell (by first | omega | (simp; done) | (simp; omega))]; go_cell)
  have a4_9 : w9.cell? ⟨w1.heap.size, 4, none⟩ = some (.slice none 0 0) := (by rw [d9.cell (by first | omega | (simp; done) | (simp; omega))]; go_cell)
  have a5_9 : w9.cell? ⟨w1.heap.size, 5, none⟩ = some (.slice none 0 0) := (by rw [d9.cell (by first | omega | (simp; done) | (simp; omega))]; go_cell)
  have a6_9 : w9.cell? ⟨w1.heap.size, 6, none⟩ = some (.slice none 0 0) := (by rw [d9.cell (by first | omega | (simp; done) | (simp; omega))]; go_cell)
  have a7_9 : w9.cell? ⟨w1.heap.size, 7, none⟩ = some (.slice none 0 0) := (by rw [d9.cell (by first | omega | (simp; done) | (simp; omega))]; go_cell)
  have al_9 : w1.heap.size < w9.heap.size := (by have := d9.size; omega)
  have b0_9 : w9.cell? ⟨w3.heap.size, 0, none⟩ = some (.int .i64 p) := (by rw [d9.cell (by first | omega | (simp; done) | (simp; omega))]; go_cell)
  have b1_9 : w9.cell? ⟨w3.heap.size, 1, none⟩ = some (.int .i64 0) := (by rw [d9.cell (by first | omega | (simp; done) | (simp; omega))]; go_cell)
  have b2_9 : w9.cell? ⟨w3.heap.size, 2, none⟩ = some (.int .i64 0) := (by rw [d9.cell (by first | omega | (simp; done) | (simp; omega))]; go_cell)
  have b3_9 : w9.cell? ⟨w3.heap.size, 3, none⟩ = some (.slice (some ⟨gb, 0, none⟩) 24 24) := (by rw [d9.cell (by first | omega | (simp; done) | (simp; omega))]; go_cell)
  have b4_9 : w9.cell? ⟨w3.heap.size, 4, none⟩ = some (.slice none 0 0) := (by rw [d9.cell (by first | omega | (simp; done) | (simp; omega))]; go_cell)
  have b5_9 : w9.cell? ⟨w3.heap.size, 5, none⟩ = some (.slice none 0 0) := (by rw [d9.cell (by first | omega | (simp; done) | (simp; omega))]; go_cell)
  have b6_9 : w9.cell? ⟨w3.heap.size, 6, none⟩ = some (.slice none 0 0) := (by rw [d9.cell (by first | omega | (simp; done) | (simp; omega))]; go_cell)
  have b7_9 : w9.cell? ⟨w3.heap.size, 7, none⟩ = some (.slice none 0 0) := (by rw [d9.cell (by first | omega | (simp; done) | (simp; omega))]; go_cell)
  have bl_9 : w3.heap.size < w9.heap.size := (by have := d9.size; omega)
  clear a0_8 a1_8 a2_8 a3_8 a4_8 a5_8 a6_8 a7_8 al_8 b0_8 b1_8 b2_8 b3_8 b4_8 b5_8 b6_8 b7_8 bl_8
  have ZA9 := hid (ZA8.out.later d9)
  have ZB9 := hid (ZB8.out.later d9)
  have ZC9 := hid (ZC8.out.later d9)
  clear d9
  refine (eqShard_z p _ _ _ ZC9.out ZA9.out).mono ?_
  rintro e w10 ⟨rfl, b10⟩
  have d10 : Below w9.heap.size w9 w10 := (Below.trans (by go_grown) (b10.mono (by first | omega | (simp; done) | (simp; omega))))
  have c10 : Below w.heap.size w w10 := c9.trans (d10.mono c9.size)
  have b0_10 : w10.cell? ⟨w3.heap.size, 0, none⟩ = some (.int .i64 p) := (by rw [b10.cell (by first | omega | (simp; done) | (simp; omega))]; go_cell)
  have b1_10 : w10.cell? ⟨w3.heap.size, 1, none⟩ = some (.int .i64 0) := (by rw [b10.cell (by first | omega | (simp; done) | (simp; omega))]; go_cell)
  have b2_10 : w10.cell? ⟨w3.heap.size, 2, none⟩ = some (.int .i64 0) := (by rw [b10.cell (by first | omega | (simp; done) | (simp; omega))]; go_cell)
  have b3_10 : w10.cell? ⟨w3.heap.size, 3, none⟩ = some (.slice (some ⟨gb, 0, none⟩) 24 24) := (by rw [b10.cell (by first | omega | (simp; done) | (simp; omega))]; go_cell)
  have b4_10 : w10.cell? ⟨w3.heap.size, 4, none⟩ = some (.slice none 0 0) := (by rw [b10.cell (by first | omega | (simp; done) | (simp; omega))]; go_cell)
  have b5_10 : w10.cell? ⟨w3.heap.size, 5, none⟩ = some (.slice none 0 0) := (by rw [b10.cell (by first | omega | (simp; done) | (simp; omega))]; go_cell)
  have b6_10 : w10.cell? ⟨w3.heap.size, 6, none⟩ = some (.slice none 0 0) := (by rw [b10.cell (by first | omega | (simp; done) | (simp; omega))]; go_cell)
  have b7_10 : w10.cell? ⟨w3.heap.size, 7, none⟩ = some (.slice none 0 0) := (by rw [b10.cell (by first | omega | (simp; done) | (simp; omega))]; go_cell)
  have bl_10 : w3.heap.size < w10.heap.size := (by have := b10.size; first | omega | (revert this; simp; done) | (revert this; simp; omega))
  clear b0_9 b1_9 b2_9 b3_9 b4_9 b5_9 b6_9 b7_9 bl_9
  have ZB10 := hid (ZB9.out.later d10)
  clear b10 d10
  go_wp2_with fail
  refine (heldShard_z p gb 1 _ ZB10.out (by omega) (by omega)).mono ?_
  rintro e w11 ⟨rfl, b11⟩
  have d11 : Below w10.heap.size w10 w11 := (Below.trans (by go_grown) (b11.mono (by first | omega | (simp; done) | (simp; omega))))
  have c11 : Below w.heap.size w w11 := c10.trans (d11.mono c10.size)
  go_wp2
  go_ret
  exact ⟨by simp, c11⟩

set_option maxRecDepth 100000 in
set_option maxHeartbeats 8000000 in
theorem lawSOpen_no (p : Int) (w : World) (hp : ¬ (0 ≤ p ∧ p < 2)) :
    Calls Try.prog 3 #[.int .i64 p] w fun e w' => e = .returned (.bool true) ∧ Below w.heap.size w w' := by
  go_enter Try.func3, Try.ntmps3
  go_wp2_with fail
  refine (specSOpen_no p _ hp).mono ?_
  rintro e w1 ⟨rfl, b1⟩
  have c1 := b1
  clear b1
  go_wp2_with fail
  have a0_2 : (w1.alloc (.cells #[.int .i64 0, .int .i64 0, .int .i64 0, .slice none 0 0, .slice none 0 0, .slice none 0 0, .slice none 0 0, .slice none 0 0] 28)).cell? ⟨w1.heap.size, 0, none⟩ = some (.int .i64 0) := by go_cell
  have a1_2 : (w1.alloc (.cells #[.int .i64 0, .int .i64 0, .int .i64 0, .slice none 0 0, .slice none 0 0, .slice none 0 0, .slice none 0 0, .slice none 0 0] 28)).cell? ⟨w1.heap.size, 1, none⟩ = some (.int .i64 0) := by go_cell
  have a2_2 : (w1.alloc (.cells #[.int .i64 0, .int .i64 0, .int .i64 0, .slice none 0 0, .slice none 0 0, .slice none 0 0, .slice none 0 0, .slice none 0 0] 28)).cell? ⟨w1.heap.size, 2, none⟩ = some (.int .i64 0) := by go_cell
  have a3_2 : (w1.alloc (.cells #[.int .i64 0, .int .i64 0, .int .i64 0, .slice none 0 0, .slice none 0 0, .slice none 0 0, .slice none 0 0, .slice none 0 0] 28)).cell? ⟨w1.heap.size, 3, none⟩ = some (.slice none 0 0) := by go_cell
  have a4_2 : (w1.alloc (.cells #[.int .i64 0, .int .i64 0, .int .i64 0, .slice none 0 0, .slice none 0 0, .slice none 0 0, .slice none 0 0, .slice none 0 0] 28)).cell? ⟨w1.heap.size, 4, none⟩ = some (.slice none 0 0) := by go_cell
  have a5_2 : (w1.alloc (.cells #[.int .i64 0, .int .i64 0, .int .i64 0, .slice none 0 0, .slice none 0 0, .slice none 0 0, .slice none 0 0, .slice none 0 0] 28)).cell? ⟨w1.heap.size, 5, none⟩ = some (.slice none 0 0) := by go_cell
  have a6_2 : (w1.alloc (.cells #[.int .i64 0, .int .i64 0, .int .i64 0, .slice none 0 0, .slice none 0 0, .slice none 0 0, .slice none 0 0, .slice none 0 0] 28)).cell? ⟨w1.heap.size, 6, none⟩ = some (.slice none 0 0) := by go_cell
  have a7_2 : (w1.alloc (.cells #[.int .i64 0, .int .i64 0, .int .i64 0, .slice none 0 0, .slice none 0 0, .slice none 0 0, .slice none 0 0, .slice none 0 0] 28)).cell? ⟨w1.heap.size, 7, none⟩ = some (.slice none 0 0) := by go_cell
  have al_2 : w1.heap.size < (w1.alloc (.cells #[.int .i64 0, .int .i64 0, .int .i64 0, .slice none 0 0, .slice none 0 0, .slice none 0 0, .slice none 0 0, .slice none 0 0] 28)).heap.size := by simp
  have d2 : Below w1.heap.size w1 (w1.alloc (.cells #[.int .i64 0, .int .i64 0, .int .i64 0, .slice none 0 0, .slice none 0 0, .slice none 0 0, .slice none 0 0, .slice none 0 0] 28)) := by go_grown
  generalize (w1.alloc (.cells #[.int .i64 0, .int .i64 0, .int .i64 0, .slice none 0 0, .slice none 0 0, .slice none 0 0, .slice none 0 0, .slice none 0 0] 28)) = w2 at a0_2 a1_2 a2_2 a3_2 a4_2 a5_2 a6_2 a7_2 al_2 d2 ⊢
  have c2 : Below w.heap.size w w2 := c1.trans (d2.mono c1.size)
  clear d2
  refine (implSOpen_no p _ hp).mono ?_
  rintro e w3 ⟨rfl, b3⟩
  have d3 : Below w2.heap.size w2 w3 := (Below.trans (by go_grown) (b3.mono (by first | omega | (simp; done) | (simp; omega))))
  have c3 : Below w.heap.size w w3 := c2.trans (d3.mono c2.size)
  have a0_3 : w3.cell? ⟨w1.heap.size, 0, none⟩ = some (.int .i64 0) := (by rw [b3.cell (by first | omega | (simp; done) | (simp; omega))]; go_cell)
  have a1_3 : w3.cell? ⟨w1.heap.size, 1, none⟩ = some (.int .i64 0) := (by rw [b3.cell (by first | omega | (simp; done) | (simp; omega))]; go_cell)
  have a2_3 : w3.cell? ⟨w1.heap.size, 2, none⟩ = some (.int .i64 0) := (by rw [b3.cell (by first | omega | (simp; done) | (simp; omega))]; go_cell)
  have a3_3 : w3.cell? ⟨w1.heap.size, 3, none⟩ = some (.slice none 0 0) := (by rw [b3.cell (by first | omega | (simp; done) | (simp; omega))]; go_cell)
  have a4_3 : w3.cell? ⟨w1.heap.size, 4, none⟩ = some (.slice none 0 0) := (by rw [b3.cell (by first | omega | (simp; done) | (simp; omega))]; go_cell)
  have a5_3 : w3.cell? ⟨w1.heap.size, 5, none⟩ = some (.slice none 0 0) := (by rw [b3.cell (by first | omega | (simp; done) | (simp; omega))]; go_cell)
  have a6_3 : w3.cell? ⟨w1.heap.size, 6, none⟩ = some (.slice none 0 0) := (by rw [b3.cell (by first | omega | (simp; done) | (simp; omega))]; go_cell)
  have a7_3 : w3.cell? ⟨w1.heap.size, 7, none⟩ = some (.slice none 0 0) := (by rw [b3.cell (by first | omega | (simp; done) | (simp; omega))]; go_cell)
  have al_3 : w1.heap.size < w3.heap.size := (by have := b3.size; first | omega | (revert this; simp; done) | (revert this; simp; omega))
  clear a0_2 a1_2 a2_2 a3_2 a4_2 a5_2 a6_2 a7_2 al_2
  clear b3 d3
  go_wp2_with fail
  have b0_4 : (w3.alloc (.cells #[.int .i64 0, .int .i64 0, .int .i64 0, .slice none 0 0, .slice none 0 0, .slice none 0 0, .slice none 0 0, .slice none 0 0] 28)).cell? ⟨w3.heap.size, 0, none⟩ = some (.int .i64 0) := by go_cell
  have b1_4 : (w3.alloc (.cells #[.int .i64 0, .int .i64 0, .int .i64 0, .slice none 0 0, .slice none 0 0, .slice none 0 0, .slice none 0 0, .slice none 0 0] 28)).cell? ⟨w3.heap.size, 1, none⟩ = some (.int .i64 0) := by go_cell
  have b2_4 : (w3.alloc (.cells #[.int .i64 0, .int .i64 0, .int .i64 0, .slice none 0 0, .slice none 0 0, .slice none 0 0, .slice none 0 0, .slice none 0 0] 28)).cell? ⟨w3.heap.size, 2, none⟩ = some (.int .i64 0) := by go_cell
  have b3_4 : (w3.alloc (.cells #[.int .i64 0, .int .i64 0, .int .i64 0, .slice none 0 0, .slice none 0 0, .slice none 0 0, .slice none 0 0, .slice none 0 0] 28)).cell? ⟨w3.heap.size, 3, none⟩ = some (.slice none 0 0) := by go_cell
  have b4_4 : (w3.alloc (.cells #[.int .i64 0, .int .i64 0, .int .i64 0, .slice none 0 0, .slice none 0 0, .slice none 0 0, .slice none 0 0, .slice none 0 0] 28)).cell? ⟨w3.heap.size, 4, none⟩ = some (.slice none 0 0) := by go_cell
  have b5_4 : (w3.alloc (.cells #[.int .i64 0, .int .i64 0, .int .i64 0, .slice none 0 0, .slice none 0 0, .slice none 0 0, .slice none 0 0, .slice none 0 0] 28)).cell? ⟨w3.heap.size, 5, none⟩ = some (.slice none 0 0) := by go_cell
  have b6_4 : (w3.alloc (.cells #[.int .i64 0, .int .i64 0, .int .i64 0, .slice none 0 0, .slice none 0 0, .slice none 0 0, .slice none 0 0, .slice none 0 0] 28)).cell? ⟨w3.heap.size, 6, none⟩ = some (.slice none 0 0) := by go_cell
  have b7_4 : (w3.alloc (.cells #[.int .i64 0, .int .i64 0, .int .i64 0, .slice none 0 0, .slice none 0 0, .slice none 0 0, .slice none 0 0, .slice none 0 0] 28)).cell? ⟨w3.heap.size, 7, none⟩ = some (.slice none 0 0) := by go_cell
  have bl_4 : w3.heap.size < (w3.alloc (.cells #[.int .i64 0, .int .i64 0, .int .i64 0, .slice none 0 0, .slice none 0 0, .slice none 0 0, .slice none 0 0, .slice none 0 0] 28)).heap.size := by simp
  have d4 : Below w3.heap.size w3 (w3.alloc (.cells #[.int .i64 0, .int .i64 0, .int .i64 0, .slice none 0 0, .slice none 0 0, .slice none 0 0, .slice none 0 0, .slice none 0 0] 28)) := by go_grown
  generalize (w3.alloc (.cells #[.int .i64 0, .int .i64 0, .int .i64 0, .slice none 0 0, .slice none 0 0, .slice none 0 0, .slice none 0 0, .slice none 0 0] 28)) = w4 at b0_4 b1_4 b2_4 b3_4 b4_4 b5_4 b6_4 b7_4 bl_4 d4 ⊢
  have c4 : Below w.heap.size w w4 := c3.trans (d4.mono c3.size)
  have a0_4 : w4.cell? ⟨w1.heap.size, 0, none⟩ = some (.int .i64 0) := (by rw [d4.cell (by first | omega | (simp; done) | (simp; omega))]; go_cell)
  have a1_4 : w4.cell? ⟨w1.heap.size, 1, none⟩ = some (.int .i64 0) := (by rw [d4.cell (by first | omega | (simp; done) | (simp; omega))]; go_cell)
  have a2_4 : w4.cell? ⟨w1.heap.size, 2, none⟩ = some (.int .i64 0) := (by rw [d4.cell (by first | omega | (simp; done) | (simp; omega))]; go_cell)
  have a3_4 : w4.cell? ⟨w1.heap.size, 3, none⟩ = some (.slice none 0 0) := (by rw [d4.cell (by first | omega | (simp; done) | (simp; omega))]; go_cell)
  have a4_4 : w4.cell? ⟨w1.heap.size, 4, none⟩ = some (.slice none 0 0) := (by rw [d4.cell (by first | omega | (simp; done) | (simp; omega))]; go_cell)
  have a5_4 : w4.cell? ⟨w1.heap.size, 5, none⟩ = some (.slice none 0 0) := (by rw [d4.cell (by first | omega | (simp; done) | (simp; omega))]; go_cell)
  have a6_4 : w4.cell? ⟨w1.heap.size, 6, none⟩ = some (.slice none 0 0) := (by rw [d4.cell (by first | omega | (simp; done) | (simp; omega))]; go_cell)
  have a7_4 : w4.cell? ⟨w1.heap.size, 7, none⟩ = some (.slice none 0 0) := (by rw [d4.cell (by first | omega | (simp; done) | (simp; omega))]; go_cell)
  have al_4 : w1.heap.size < w4.heap.size := (by have := d4.size; omega)
  clear a0_3 a1_3 a2_3 a3_3 a4_3 a5_3 a6_3 a7_3 al_3
  clear d4
  refine (eqShard_n 0 _).mono ?_
  rintro e w5 ⟨rfl, b5⟩
  have d5 : Below w4.heap.size w4 w5 := (Below.trans (by go_grown) (b5.mono (by first | omega | (simp; done) | (simp; omega))))
  have c5 : Below w.heap.size w w5 := c4.trans (d5.mono c4.size)
  have a0_5 : w5.cell? ⟨w1.heap.size, 0, none⟩ = some (.int .i64 0) := (by rw [b5.cell (by first | omega | (simp; done) | (simp; omega))]; go_cell)
  have a1_5 : w5.cell? ⟨w1.heap.size, 1, none⟩ = some (.int .i64 0) := (by rw [b5.cell (by first | omega | (simp; done) | (simp; omega))]; go_cell)
  have a2_5 : w5.cell? ⟨w1.heap.size, 2, none⟩ = some (.int .i64 0) := (by rw [b5.cell (by first | omega | (simp; done) | (simp; omega))]; go_cell)
  have a3_5 : w5.cell? ⟨w1.heap.size, 3, none⟩ = some (.slice none 0 0) := (by rw [b5.cell (by first | omega | (simp; done) | (simp; omega))]; go_cell)
  have a4_5 : w5.cell? ⟨w1.heap.size, 4, none⟩ = some (.slice none 0 0) := (by rw [b5.cell (by first | omega | (simp; done) | (simp; omega))]; go_cell)
  have a5_5 : w5.cell? ⟨w1.heap.size, 5, none⟩ = some (.slice none 0 0) := (by rw [b5.cell (by first | omega | (simp; done) | (simp; omega))]; go_cell)
  have a6_5 : w5.cell? ⟨w1.heap.size, 6, none⟩ = some (.slice none 0 0) := (by rw [b5.cell (by first | omega | (simp; done) | (simp; omega))]; go_cell)
  have a7_5 : w5.cell? ⟨w1.heap.size, 7, none⟩ = some (.slice none 0 0) := (by rw [b5.cell (by first | omega | (simp; done) | (simp; omega))]; go_cell)
  have al_5 : w1.heap.size < w5.heap.size := (by have := b5.size; first | omega | (revert this; simp; done) | (revert this; simp; omega))
  have b0_5 : w5.cell? ⟨w3.heap.size, 0, none⟩ = some (.int .i64 0) := (by rw [b5.cell (by first | omega | (simp; done) | (simp; omega))]; go_cell)
  have b1_5 : w5.cell? ⟨w3.heap.size, 1, none⟩ = some (.int .i64 0) := (by rw [b5.cell (by first | omega | (simp; done) | (simp; omega))]; go_cell)
  have b2_5 : w5.cell? ⟨w3.heap.size, 2, none⟩ = some (.int .i64 0) := (by rw [b5.cell (by first | omega | (simp; done) | (simp; omega))]; go_cell)
  have b3_5 : w5.cell? ⟨w3.heap.size, 3, none⟩ = some (.slice none 0 0) := (by rw [b5.cell (by first | omega | (simp; done) | (simp; omega))]; go_cell)
  have b4_5 : w5.cell? ⟨w3.heap.size, 4, none⟩ = some (.slice none 0 0) := (by rw [b5.cell (by first | omega | (simp; done) | (simp; omega))]; go_cell)
  have b5_5 : w5.cell? ⟨w3.heap.size, 5, none⟩ = some (.slice none 0 0) := (by rw [b5.cell (by first | omega | (simp; done) | (simp; omega))]; go_cell)
  have b6_5 : w5.cell? ⟨w3.heap.size, 6, none⟩ = some (.slice none 0 0) := (by rw [b5.cell (by first | omega | (simp; done) | (simp; omega))]; go_cell)
  have b7_5 : w5.cell? ⟨w3.heap.size, 7, none⟩ = some (.slice none 0 0) := (by rw [b5.cell (by first | omega | (simp; done) | (simp; omega))]; go_cell)
  have bl_5 : w3.heap.size < w5.heap.size := (by have := b5.size; first | omega | (revert this; simp; done) | (revert this; simp; omega))
  clear a0_4 a1_4 a2_4 a3_4 a4_4 a5_4 a6_4 a7_4 al_4 b0_4 b1_4 b2_4 b3_4 b4_4 b5_4 b6_4 b7_4 bl_4
  clear b5 d5
  go_wp2_with fail
  refine (markShard_n 0 1 _).mono ?_
  rintro e w6 ⟨rfl, b6⟩
  have d6 : Below w5.heap.size w5 w6 := (Below.trans (by go_grown) (b6.mono (by first | omega | (simp; done) | (simp; omega))))
  have c6 : Below w.heap.size w w6 := c5.trans (d6.mono c5.size)
  have a0_6 : w6.cell? ⟨w1.heap.size, 0, none⟩ = some (.int .i64 0) := (by rw [b6.cell (by first | omega | (simp; done) | (simp; omega))]; go_cell)
  have a1_6 : w6.cell? ⟨w1.heap.size, 1, none⟩ = some (.int .i64 0) := (by rw [b6.cell (by first | omega | (simp; done) | (simp; omega))]; go_cell)
  have a2_6 : w6.cell? ⟨w1.heap.size, 2, none⟩ = some (.int .i64 0) := (by rw [b6.cell (by first | omega | (simp; done) | (simp; omega))]; go_cell)
  have a3_6 : w6.cell? ⟨w1.heap.size, 3, none⟩ = some (.slice none 0 0) := (by rw [b6.cell (by first | omega | (simp; done) | (simp; omega))]; go_cell)
  have a4_6 : w6.cell? ⟨w1.heap.size, 4, none⟩ = some (.slice none 0 0) := (by rw [b6.cell (by first | omega | (simp; done) | (simp; omega))]; go_cell)
  have a5_6 : w6.cell? ⟨w1.heap.size, 5, none⟩ = some (.slice none 0 0) := (by rw [b6.cell (by first | omega | (simp; done) | (simp; omega))]; go_cell)
  have a6_6 : w6.cell? ⟨w1.heap.size, 6, none⟩ = some (.slice none 0 0) := (by rw [b6.cell (by first | omega | (simp; done) | (simp; omega))]; go_cell)
  have a7_6 : w6.cell? ⟨w1.heap.size, 7, none⟩ = some (.slice none 0 0) := (by rw [b6.cell (by first | omega | (simp; done) | (simp; omega))]; go_cell)
  have al_6 : w1.heap.size < w6.heap.size := (by have := b6.size; first | omega | (revert this; simp; done) | (revert this; simp; omega))
  have b0_6 : w6.cell? ⟨w3.heap.size, 0, none⟩ = some (.int .i64 0) := (by rw [b6.cell (by first | omega | (simp; done) | (simp; omega))]; go_cell)
  have b1_6 : w6.cell? ⟨w3.heap.size, 1, none⟩ = some (.int .i64 0) := (by rw [b6.cell (by first | omega | (simp; done) | (simp; omega))]; go_cell)
  have b2_6 : w6.cell? ⟨w3.heap.size, 2, none⟩ = some (.int .i64 0) := (by rw [b6.cell (by first | omega | (simp; done) | (simp; omega))]; go_cell)
  have b3_6 : w6.cell? ⟨w3.heap.size, 3, none⟩ = some (.slice none 0 0) := (by rw [b6.cell (by first | omega | (simp; done) | (simp; omega))]; go_cell)
  have b4_6 : w6.cell? ⟨w3.heap.size, 4, none⟩ = some (.slice none 0 0) := (by rw [b6.cell (by first | omega | (simp; done) | (simp; omega))]; go_cell)
  have b5_6 : w6.cell? ⟨w3.heap.size, 5, none⟩ = some (.slice none 0 0) := (by rw [b6.cell (by first | omega | (simp; done) | (simp; omega))]; go_cell)
  have b6_6 : w6.cell? ⟨w3.heap.size, 6, none⟩ = some (.slice none 0 0) := (by rw [b6.cell (by first | omega | (simp; done) | (simp; omega))]; go_cell)
  have b7_6 : w6.cell? ⟨w3.heap.size, 7, none⟩ = some (.slice none 0 0) := (by rw [b6.cell (by first | omega | (simp; done) | (simp; omega))]; go_cell)
  have bl_6 : w3.heap.size < w6.heap.size := (by have := b6.size; first | omega | (revert this; simp; done) | (revert this; simp; omega))
  clear a0_5 a1_5 a2_5 a3_5 a4_5 a5_5 a6_5 a7_5 al_5 b0_5 b1_5 b2_5 b3_5 b4_5 b5_5 b6_5 b7_5 bl_5
  clear b6 d6
  go_wp2_with fail
  refine (heldShard_n 0 1 _ (by omega) (by omega)).mono ?_
  rintro e w7 ⟨rfl, b7⟩
  have d7 : Below w6.heap.size w6 w7 := (Below.trans (by go_grown) (b7.mono (by first | omega | (simp; done) | (simp; omega))))
  have c7 : Below w.heap.size w w7 := c6.trans (d7.mono c6.size)
  have a0_7 : w7.cell? ⟨w1.heap.size, 0, none⟩ = some (.int .i64 0) := (by rw [b7.cell (by first | omega | (simp; done) | (simp; omega))]; go_cell)
  have a1_7 : w7.cell? ⟨w1.heap.size, 1, none⟩ = some (.int .i64 0) := (by rw [b7.cell (by first | omega | (simp; done) | (simp; omega))]; go_cell)
  have a2_7 : w7.cell? ⟨w1.heap.size, 2, none⟩ = some (.int .i64 0) := (by rw [b7.cell (by first | omega | (simp; done) | (simp; omega))]; go_cell)
  have a3_7 : w7.cell? ⟨w1.heap.size, 3, none⟩ = some (.slice none 0 0) := (by rw [b7.cell (by first | omega | (simp; done) | (simp; omega))]; go_cell)
  have a4_7 : w7.cell? ⟨w1.heap.size, 4, none⟩ = some (.slice none 0 0) := (by rw [b7.cell (by first | omega | (simp; done) | (simp; omega))]; go_cell)
  have a5_7 : w7.cell? ⟨w1.heap.size, 5, none⟩ = some (.slice none 0 0) := (by rw [b7.cell (by first | omega | (simp; done) | (simp; omega))]; go_cell)
  have a6_7 : w7.cell? ⟨w1.heap.size, 6, none⟩ = some (.slice none 0 0) := (by rw [b7.cell (by first | omega | (simp; done) | (simp; omega))]; go_cell)
  have a7_7 : w7.cell? ⟨w1.heap.size, 7, none⟩ = some (.slice none 0 0) := (by rw [b7.cell (by first | omega | (simp; done) | (simp; omega))]; go_cell)
  have al_7 : w1.heap.size < w7.heap.size := (by have := b7.size; first | omega | (revert this; simp; done) | (revert this; simp; omega))
  have b0_7 : w7.cell? ⟨w3.heap.size, 0, none⟩ = some (.int .i64 0) := (by rw [b7.cell (by first | omega | (simp; done) | (simp; omega))]; go_cell)
  have b1_7 : w7.cell? ⟨w3.heap.size, 1, none⟩ = some (.int .i64 0) := (by rw [b7.cell (by first | omega | (simp; done) | (simp; omega))]; go_cell)
  have b2_7 : w7.cell? ⟨w3.heap.size, 2, none⟩ = some (.int .i64 0) := (by rw [b7.cell (by first | omega | (simp; done) | (simp; omega))]; go_cell)
  have b3_7 : w7.cell? ⟨w3.heap.size, 3, none⟩ = some (.slice none 0 0) := (by rw [b7.cell (by first | omega | (simp; done) | (simp; omega))]; go_cell)
  have b4_7 : w7.cell? ⟨w3.heap.size, 4, none⟩ = some (.slice none 0 0) := (by rw [b7.cell (by first | omega | (simp; done) | (simp; omega))]; go_cell)
  have b5_7 : w7.cell? ⟨w3.heap.size, 5, none⟩ = some (.slice none 0 0) := (by rw [b7.cell (by first | omega | (simp; done) | (simp; omega))]; go_cell)
  have b6_7 : w7.cell? ⟨w3.heap.size, 6, none⟩ = some (.slice none 0 0) := (by rw [b7.cell (by first | omega | (simp; done) | (simp; omega))]; go_cell)
  have b7_7 : w7.cell? ⟨w3.heap.size, 7, none⟩ = some (.slice none 0 0) := (by rw [b7.cell (by first | omega | (simp; done) | (simp; omega))]; go_cell)
  have bl_7 : w3.heap.size < w7.heap.size := (by have := b7.size; first | omega | (revert this; simp; done) | (revert this; simp; omega))
  clear a0_6 a1_6 a2_6 a3_6 a4_6 a5_6 a6_6 a7_6 al_6 b0_6 b1_6 b2_6 b3_6 b4_6 b5_6 b6_6 b7_6 bl_6
  clear b7 d7
  go_wp2_with fail
  refine (implSOpen_no p _ hp).mono ?_
  rintro e w8 ⟨rfl, b8⟩
  have d8 : Below w7.heap.size w7 w8 := (Below.trans (by go_grown) (b8.mono (by first | omega | (simp; done) | (simp; omega))))
  have c8 : Below w.heap.size w w8 := c7.trans (d8.mono c7.size)
  have a0_8 : w8.cell? ⟨w1.heap.size, 0, none⟩ = some (.int .i64 0) := (by rw [b8.cell (by first | omega | (simp; done) | (simp; omega))]; go_cell)
  have a1_8 : w8.cell? ⟨w1.heap.size, 1, none⟩ = some (.int .i64 0) := (by rw [b8.cell (by first | omega | (simp; done) | (simp; omega))]; go_cell)
  have a2_8 : w8.cell? ⟨w1.heap.size, 2, none⟩ = some (.int .i64 0) := (by rw [b8.cell (by first | omega | (simp; done) | (simp; omega))]; go_cell)
  have a3_8 : w8.cell? ⟨w1.heap.size, 3, none⟩ = some (.slice none 0 0) := (by rw [b8.cell (by first | omega | (simp; done) | (simp; omega))]; go_cell)
  have a4_8 : w8.cell? ⟨w1.heap.size, 4, none⟩ = some (.slice none 0 0) := (by rw [b8.cell (by first | omega | (simp; done) | (simp; omega))]; go_cell)
  have a5_8 : w8.cell? ⟨w1.heap.size, 5, none⟩ = some (.slice none 0 0) := (by rw [b8.cell (by first | omega | (simp; done) | (simp; omega))]; go_cell)
  have a6_8 : w8.cell? ⟨w1.heap.size, 6, none⟩ = some (.slice none 0 0) := (by rw [b8.cell (by first | omega | (simp; done) | (simp; omega))]; go_cell)
  have a7_8 : w8.cell? ⟨w1.heap.size, 7, none⟩ = some (.slice none 0 0) := (by rw [b8.cell (by first | omega | (simp; done) | (simp; omega))]; go_cell)
  have al_8 : w1.heap.size < w8.heap.size := (by have := b8.size; first | omega | (revert this; simp; done) | (revert this; simp; omega))
  have b0_8 : w8.cell? ⟨w3.heap.size, 0, none⟩ = some (.int .i64 0) := (by rw [b8.cell (by first | omega | (simp; done) | (simp; omega))]; go_cell)
  have b1_8 : w8.cell? ⟨w3.heap.size, 1, none⟩ = some (.int .i64 0) := (by rw [b8.cell (by first | omega | (simp; done) | (simp; omega))]; go_cell)
  have b2_8 : w8.cell? ⟨w3.heap.size, 2, none⟩ = some (.int .i64 0) := (by rw [b8.cell (by first | omega | (simp; done) | (simp; omega))]; go_cell)
  have b3_8 : w8.cell? ⟨w3.heap.size, 3, none⟩ = some (.slice none 0 0) := (by rw [b8.cell (by first | omega | (simp; done) | (simp; omega))]; go_cell)
  have b4_8 : w8.cell? ⟨w3.heap.size, 4, none⟩ = some (.slice none 0 0) := (by rw [b8.cell (by first | omega | (simp; done) | (simp; omega))]; go_cell)
  have b5_8 : w8.cell? ⟨w3.heap.size, 5, none⟩ = some (.slice none 0 0) := (by rw [b8.cell (by first | omega | (simp; done) | (simp; omega))]; go_cell)
  have b6_8 : w8.cell? ⟨w3.heap.size, 6, none⟩ = some (.slice none 0 0) := (by rw [b8.cell (by first | omega | (simp; done) | (simp; omega))]; go_cell)
  have b7_8 : w8.cell? ⟨w3.heap.size, 7, none⟩ = some (.slice none 0 0) := (by rw [b8.cell (by first | omega | (simp; done) | (simp; omega))]; go_cell)
  have bl_8 : w3.heap.size < w8.heap.size := (by have := b8.size; first | omega | (revert this; simp; done) | (revert this; simp; omega))
  clear a0_7 a1_7 a2_7 a3_7 a4_7 a5_7 a6_7 a7_7 al_7 b0_7 b1_7 b2_7 b3_7 b4_7 b5_7 b6_7 b7_7 bl_7
  clear b8 d8
  go_wp2_with fail
  have h0_9 : (w8.alloc (.cells #[.int .i64 0, .int .i64 0, .int .i64 0, .slice none 0 0, .slice none 0 0, .slice none 0 0, .slice none 0 0, .slice none 0 0] 28)).cell? ⟨w8.heap.size, 0, none⟩ = some (.int .i64 0) := by go_cell
  have h1_9 : (w8.alloc (.cells #[.int .i64 0, .int .i64 0, .int .i64 0, .slice none 0 0, .slice none 0 0, .slice none 0 0, .slice none 0 0, .slice none 0 0] 28)).cell? ⟨w8.heap.size, 1, none⟩ = some (.int .i64 0) := by go_cell
  have h2_9 : (w8.alloc (.cells #[.int .i64 0, .int .i64 0, .int .i64 0, .slice none 0 0, .slice none 0 0, .slice none 0 0, .slice none 0 0, .slice none 0 0] 28)).cell? ⟨w8.heap.size, 2, none⟩ = some (.int .i64 0) := by go_cell
  have h3_9 : (w8.alloc (.cells #[.int .i64 0, .int .i64 0, .int .i64 0, .slice none 0 0, .slice none 0 0, .slice none 0 0, .slice none 0 0, .slice none 0 0] 28)).cell? ⟨w8.heap.size, 3, none⟩ = some (.slice none 0 0) := by go_cell
  have h4_9 : (w8.alloc (.cells #[.int .i64 0, .int .i64 0, .int .i64 0, .slice none 0 0, .slice none 0 0, .slice none 0 0, .slice none 0 0, .slice none 0 0] 28)).cell? ⟨w8.heap.size, 4, none⟩ = some (.slice none 0 0) := by go_cell
  have h5_9 : (w8.alloc (.cells #[.int .i64 0, .int .i64 0, .int .i64 0, .slice none 0 0, .slice none 0 0, .slice none 0 0, .slice none 0 0, .slice none 0 0] 28)).cell? ⟨w8.heap.size, 5, none⟩ = some (.slice none 0 0) := by go_cell
  have h6_9 : (w8.alloc (.cells #[.int .i64 0, .int .i64 0, .int .i64 0, .slice none 0 0, .slice none 0 0, .slice none 0 0, .slice none 0 0, .slice none 0 0] 28)).cell? ⟨w8.heap.size, 6, none⟩ = some (.slice none 0 0) := by go_cell
  have h7_9 : (w8.alloc (.cells #[.int .i64 0, .int .i64 0, .int .i64 0, .slice none 0 0, .slice none 0 0, .slice none 0 0, .slice none 0 0, .slice none 0 0] 28)).cell? ⟨w8.heap.size, 7, none⟩ = some (.slice none 0 0) := by go_cell
  have hl_9 : w8.heap.size < (w8.alloc (.cells #[.int .i64 0, .int .i64 0, .int .i64 0, .slice none 0 0, .slice none 0 0, .slice none 0 0, .slice none 0 0, .slice none 0 0] 28)).heap.size := by simp
  have d9 : Below w8.heap.size w8 (w8.alloc (.cells #[.int .i64 0, .int .i64 0, .int .i64 0, .slice none 0 0, .slice none 0 0, .slice none 0 0, .slice none 0 0, .slice none 0 0] 28)) := by go_grown
  generalize (w8.alloc (.cells #[.int .i64 0, .int .i64 0, .int .i64 0, .slice none 0 0, .slice none 0 0, .slice none 0 0, .slice none 0 0, .slice none 0 0] 28)) = w9 at h0_9 h1_9 h2_9 h3_9 h4_9 h5_9 h6_9 h7_9 hl_9 d9 ⊢
  have c9 : Below w.heap.size w w9 := c8.trans (d9.mono c8.size)
  have a0_9 : w9.cell? ⟨w1.heap.size, 0, none⟩ = some (.int .i64 0) := (by rw [d9.cell (by first | omega | (simp; done) | (simp; omega))]; go_cell)
  have a1_9 : w9.cell? ⟨w1.heap.size, 1, none⟩ = some (.int .i64 0) := (by rw [d9.cell (by first | omega | (simp; done) | (simp; omega))]; go_cell)
  have a2_9 : w9.cell? ⟨w1.heap.size, 2, none⟩ = some (.int .i64 0) := (by rw [d9.cell (by first | omega | (simp; done) | (simp; omega))]; go_cell)
  have a3_9 : w9.cell? ⟨w1.heap.size, 3, none⟩ = some (.slice none 0 0) := (by rw [d9.cell (by first | omega | (simp; done) | (simp; omega))]; go_cell)
  have a4_9 : w9.cell? ⟨w1.heap.size, 4, none⟩ = some (.slice none 0 0) := (by rw [d9.cell (by first | omega | (simp; done) | (simp; omega))]; go_cell)
  have a5_9 : w9.cell? ⟨w1.heap.size, 5, none⟩ = some (.slice none 0 0) := (by rw [d9.cell (by first | omega | (simp; done) | (simp; omega))]; go_cell)
  have a6_9 : w9.cell? ⟨w1.heap.size, 6, none⟩ = some (.slice none 0 0) := (by rw [d9.cell (by first | omega | (simp; done) | (simp; omega))]; go_cell)
  have a7_9 : w9.cell? ⟨w1.heap.size, 7, none⟩ = some (.slice none 0 0) := (by rw [d9.cell (by first | omega | (simp; done) | (simp; omega))]; go_cell)
  have al_9 : w1.heap.size < w9.heap.size := (by have := d9.size; omega)
  have b0_9 : w9.cell? ⟨w3.heap.size, 0, none⟩ = some (.int .i64 0) := (by rw [d9.cell (by first | omega | (simp; done) | (simp; omega))]; go_cell)
  have b1_9 : w9.cell? ⟨w3.heap.size, 1, none⟩ = some (.int .i64 0) := (by rw [d9.cell (by first | omega | (simp; done) | (simp; omega))]; go_cell)
  have b2_9 : w9.cell? ⟨w3.heap.size, 2, none⟩ = some (.int .i64 0) := (by rw [d9.cell (by first | omega | (simp; done) | (simp; omega))]; go_cell)
  have b3_9 : w9.cell? ⟨w3.heap.size, 3, none⟩ = some (.slice none 0 0) := (by rw [d9.cell (by first | omega | (simp; done) | (simp; omega))]; go_cell)
  have b4_9 : w9.cell? ⟨w3.heap.size, 4, none⟩ = some (.slice none 0 0) := (by rw [d9.cell (by first | omega | (simp; done) | (simp; omega))]; go_cell)
  have b5_9 : w9.cell? ⟨w3.heap.size, 5, none⟩ = some (.slice none 0 0) := (by rw [d9.cell (by first | omega | (simp; done) | (simp; omega))]; go_cell)
  have b6_9 : w9.cell? ⟨w3.heap.size, 6, none⟩ = some (.slice none 0 0) := (by rw [d9.cell (by first | omega | (simp; done) | (simp; omega))]; go_cell)
  have b7_9 : w9.cell? ⟨w3.heap.size, 7, none⟩ = some (.slice none 0 0) := (by rw [d9.cell (by first | omega | (simp; done) | (simp; omega))]; go_cell)
  have bl_9 : w3.heap.size < w9.heap.size := (by have := d9.size; omega)
  clear a0_8 a1_8 a2_8 a3_8 a4_8 a5_8 a6_8 a7_8 al_8 b0_8 b1_8 b2_8 b3_8 b4_8 b5_8 b6_8 b7_8 bl_8
  clear d9
  refine (eqShard_n 0 _).mono ?_
  rintro e w10 ⟨rfl, b10⟩
  have d10 : Below w9.heap.size w9 w10 := (Below.trans (by go_grown) (b10.mono (by first | omega | (simp; done) | (simp; omega))))
  have c10 : Below w.heap.size w w10 := c9.trans (d10.mono c9.size)
  have b0_10 : w10.cell? ⟨w3.heap.size, 0, none⟩ = some (.int .i64 0) := (by rw [b10.cell (by first | omega | (simp; done) | (simp; omega))]; go_cell)
  have b1_10 : w10.cell? ⟨w3.heap.size, 1, none⟩ = some (.int .i64 0) := (by rw [b10.cell (by first | omega | (simp; done) | (simp; omega))]; go_cell)
  have b2_10 : w10.cell? ⟨w3.heap.size, 2, none⟩ = some (.int .i64 0) := (by rw [b10.cell (by first | omega | (simp; done) | (simp; omega))]; go_cell)
  have b3_10 : w10.cell? ⟨w3.heap.size, 3, none⟩ = some (.slice none 0 0) := (by rw [b10.cell (by first | omega | (simp; done) | (simp; omega))]; go_cell)
  have b4_10 : w10.cell? ⟨w3.heap.size, 4, none⟩ = some (.slice none 0 0) := (by rw [b10.cell (by first | omega | (simp; done) | (simp; omega))]; go_cell)
  have b5_10 : w10.cell? ⟨w3.heap.size, 5, none⟩ = some (.slice none 0 0) := (by rw [b10.cell (by first | omega | (simp; done) | (simp; omega))]; go_cell)
  have b6_10 : w10.cell? ⟨w3.heap.size, 6, none⟩ = some (.slice none 0 0) := (by rw [b10.cell (by first | omega | (simp; done) | (simp; omega))]; go_cell)
  have b7_10 : w10.cell? ⟨w3.heap.size, 7, none⟩ = some (.slice none 0 0) := (by rw [b10.cell (by first | omega | (simp; done) | (simp; omega))]; go_cell)
  have bl_10 : w3.heap.size < w10.heap.size := (by have := b10.size; first | omega | (revert this; simp; done) | (revert this; simp; omega))
  clear b0_9 b1_9 b2_9 b3_9 b4_9 b5_9 b6_9 b7_9 bl_9
  clear b10 d10
  go_wp2_with fail
  refine (heldShard_n 0 1 _ (by omega) (by omega)).mono ?_
  rintro e w11 ⟨rfl, b11⟩
  have d11 : Below w10.heap.size w10 w11 := (Below.trans (by go_grown) (b11.mono (by first | omega | (simp; done) | (simp; omega))))
  have c11 : Below w.heap.size w w11 := c10.trans (d11.mono c10.size)
  go_wp2
  go_ret
  exact ⟨by simp, c11⟩
theorem lawSOpen_any (p : Int) (w : World) :
    Calls Try.prog 3 #[.int .i64 p] w fun e w' => e = .returned (.bool true) ∧ Below w.heap.size w w' := by
  by_cases hp : 0 ≤ p ∧ p < 2
  · exact lawSOpen_yes p w hp.1 hp.2
  · exact lawSOpen_no p w hp
end Go.Proofs.Ytildbhhoedhkjaa
