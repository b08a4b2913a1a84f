/- The law FnExactValRead: its walk. -/
import Derived.Test.YtnpfkhbnfihbdacDoorVx
import Derived.Test.YtnpfkhbnfihbdacDoorVa
import Derived.Test.YtnpfkhbnfihbdacDoorVm
namespace Go.Proofs.YtnpfkhbnfihbdacDoor
open Go.RowKit

theorem valR_length {k : Int} {s : List UInt8} {n : Int} {l : List (Int × Int)} {b : Bool} (h : ValR k s n l b) : l.length ≤ 200 := by
  rcases h with ⟨_, rfl, _⟩ | ⟨_, _, h⟩ | ⟨_, _, rfl, _⟩
  · simp
  · exact readR_length h
  · simp

set_option maxRecDepth 100000 in
set_option maxHeartbeats 2000000 in
theorem lawVRead_any (k : Int) (s : ByteArray) (w : World) (_ : s.size ≤ maxLen) (hL : Lib4 w) :
    Calls Tryd.prog 4 #[.int .i64 k, .string s] w fun e w' => e = .returned (.bool true) ∧ Below w.heap.size w w' := by
  by_cases hbig : s.size ≤ 1048576
  · have HL := hid hL
    clear hL
    go_enter Tryd.func4, Tryd.ntmps4
    go_wp2_with fail
    refine (specVRead_any k s _ hbig).mono ?_
    rintro e w1 ⟨⟨n, vs, l, b, rfl, hs, hsR, _⟩, b1⟩
    have HSR := hid hsR
    have HS1 := hid hs
    have HB1 := hid b1
    clear hsR hs
    have HLen := hid (valR_length HSR.out)
    obtain ⟨so, sc, hsv, _⟩ := HS1.out
    subst hsv
    have c1 := HB1.out
    go_wp2_with fail
    have a0_2 : (w1.alloc (.cells #[.int .i64 n, .slice so l.length sc] 29)).cell? ⟨w1.heap.size, 0, none⟩ = some (.int .i64 n) := by go_cell
    have a1_2 : (w1.alloc (.cells #[.int .i64 n, .slice so l.length sc] 29)).cell? ⟨w1.heap.size, 1, none⟩ = some (.slice so l.length sc) := by go_cell
    have al_2 : w1.heap.size < (w1.alloc (.cells #[.int .i64 n, .slice so l.length sc] 29)).heap.size := by simp
    have d2 : Below w1.heap.size w1 (w1.alloc (.cells #[.int .i64 n, .slice so l.length sc] 29)) := by go_grown
    generalize (w1.alloc (.cells #[.int .i64 n, .slice so l.length sc] 29)) = w2 at a0_2 a1_2 al_2 d2 ⊢
    have c2 : Below w.heap.size w w2 := c1.trans (d2.mono c1.size)
    have HS2 := hid (HS1.out.later d2)
    have z12 : w1.heap.size < w2.heap.size := al_2
    clear d2
    refine (implVRead_any k s _ hbig (HL.out.below c2)).mono ?_
    rintro e w3 ⟨⟨n', vg, l', b', rfl, og, hgR⟩, b3⟩
    obtain ⟨rfl, rfl, rfl⟩ := ValR.unique HSR.out hgR
    have HG3 := hid og
    clear og hgR
    have d3 : Below w2.heap.size w2 w3 := (Below.trans (by go_grown) (b3.mono (by first | omega | (simp; done) | (simp; omega))))
    have c3 : Below w.heap.size w w3 := c2.trans (d3.mono c2.size)
    have a0_3 : w3.cell? ⟨w1.heap.size, 0, none⟩ = some (.int .i64 n) := (by rw [b3.cell (by first | omega | (simp; done) | (simp; omega))]; go_cell)
    have a1_3 : w3.cell? ⟨w1.heap.size, 1, none⟩ = some (.slice so l.length sc) := (by rw [b3.cell (by first | omega | (simp; done) | (simp; omega))]; go_cell)
    have al_3 : w1.heap.size < w3.heap.size := (by have := b3.size; first | omega | (revert this; simp; done) | (revert this; simp; omega))
    clear a0_2 a1_2 al_2
    have HS3 := hid (HS2.out.later d3)
    have z23 := d3.size
    have HGB : Hid (∀ j, vg.ownBlock = some j → j < w3.heap.size) := hidT (fun j hj => (HG3.out.block j hj).2)
    clear b3 d3
    obtain ⟨go, gc, hgv, _⟩ := HG3.out.rd
    subst hgv
    go_wp2_with fail
    have g0_4 : (w3.alloc (.cells #[.int .i64 n, .slice go l.length gc] 29)).cell? ⟨w3.heap.size, 0, none⟩ = some (.int .i64 n) := by go_cell
    have g1_4 : (w3.alloc (.cells #[.int .i64 n, .slice go l.length gc] 29)).cell? ⟨w3.heap.size, 1, none⟩ = some (.slice go l.length gc) := by go_cell
    have gl_4 : w3.heap.size < (w3.alloc (.cells #[.int .i64 n, .slice go l.length gc] 29)).heap.size := by simp
    have d4 : Below w3.heap.size w3 (w3.alloc (.cells #[.int .i64 n, .slice go l.length gc] 29)) := by go_grown
    generalize (w3.alloc (.cells #[.int .i64 n, .slice go l.length gc] 29)) = w4 at g0_4 g1_4 gl_4 d4 ⊢
    have c4 : Below w.heap.size w w4 := c3.trans (d4.mono c3.size)
    have a0_4 : w4.cell? ⟨w1.heap.size, 0, none⟩ = some (.int .i64 n) := (by rw [d4.cell (by first | omega | (simp; done) | (simp; omega))]; go_cell)
    have a1_4 : w4.cell? ⟨w1.heap.size, 1, none⟩ = some (.slice so l.length sc) := (by rw [d4.cell (by first | omega | (simp; done) | (simp; omega))]; go_cell)
    have al_4 : w1.heap.size < w4.heap.size := (by have := d4.size; omega)
    clear a0_3 a1_3 al_3
    have HS4 := hid (HS3.out.later d4)
    have HG4 := hid (HG3.out.later d4)
    clear d4 HS3 HG3
    refine (eqVal_self n _ _ l _ HG4.out.rd HS4.out).mono ?_
    rintro e w5 ⟨rfl, b5⟩
    have d5 : Below w4.heap.size w4 w5 := (Below.trans (by go_grown) (b5.mono (by first | omega | (simp; done) | (simp; omega))))
    have c5 : Below w.heap.size w w5 := c4.trans (d5.mono c4.size)
    have a0_5 : w5.cell? ⟨w1.heap.size, 0, none⟩ = some (.int .i64 n) := (by rw [b5.cell (by first | omega | (simp; done) | (simp; omega))]; go_cell)
    have a1_5 : w5.cell? ⟨w1.heap.size, 1, none⟩ = some (.slice so l.length sc) := (by rw [b5.cell (by first | omega | (simp; done) | (simp; omega))]; go_cell)
    have al_5 : w1.heap.size < w5.heap.size := (by have := b5.size; first | omega | (revert this; simp; done) | (revert this; simp; omega))
    have g0_5 : w5.cell? ⟨w3.heap.size, 0, none⟩ = some (.int .i64 n) := (by rw [b5.cell (by first | omega | (simp; done) | (simp; omega))]; go_cell)
    have g1_5 : w5.cell? ⟨w3.heap.size, 1, none⟩ = some (.slice go l.length gc) := (by rw [b5.cell (by first | omega | (simp; done) | (simp; omega))]; go_cell)
    have gl_5 : w3.heap.size < w5.heap.size := (by have := b5.size; first | omega | (revert this; simp; done) | (revert this; simp; omega))
    clear a0_4 a1_4 al_4 g0_4 g1_4 gl_4
    have HS5 := hid (HS4.out.later d5)
    have HG5 := hid (HG4.out.later d5)
    clear b5 d5 HS4 HG4
    go_wp2_with fail
    refine (markVal_any n _ l 1 _ _ HG5.out (by omega) (by omega) (Nat.le_trans HLen.out (by decide))).mono ?_
    rintro e w6 ⟨rfl, og6, g6⟩
    have z35 : w3.heap.size < w5.heap.size := gl_5
    have HB6 : Hid (Below w2.heap.size w5 w6) := hidT (Below.of_grown g6 (by omega) (fun j hj => (HG5.out.block j hj).1))
    have hne : some w3.heap.size ≠ (Value.slice go l.length gc).ownBlock := fun e => by have := HGB.out _ e.symm; omega
    have z6 := g6.size
    have a0_6 := (HB6.out.cell (p := ⟨w1.heap.size, 0, none⟩) z12).trans a0_5
    have a1_6 := (HB6.out.cell (p := ⟨w1.heap.size, 1, none⟩) z12).trans a1_5
    have g0_6 := g6.cell g0_5 hne
    have g1_6 := g6.cell g1_5 hne
    have al_6 : w1.heap.size < w6.heap.size := by omega
    have gl_6 : w3.heap.size < w6.heap.size := by omega
    have c6 : Below w.heap.size w w6 := c5.trans (HB6.out.mono (by have := HB1.out.size; omega))
    have HS6 := hid (HS2.out.before HS5.out (Nat.le_refl _) HB6.out)
    have HG6 := hid og6
    clear og6 hne a0_5 a1_5 al_5 g0_5 g1_5 gl_5 HS5 HG5 g6
    go_wp2_with fail
    refine (heldVal_any n _ l.length 1 _ HG6.out.rd (by omega) (by omega) (Nat.le_trans HLen.out (by decide))).mono ?_
    rintro e w7 ⟨rfl, b7⟩
    have d7 : Below w6.heap.size w6 w7 := (Below.trans (by go_grown) (b7.mono (by first | omega | (simp; done) | (simp; omega))))
    have c7 : Below w.heap.size w w7 := c6.trans (d7.mono c6.size)
    have a0_7 : w7.cell? ⟨w1.heap.size, 0, none⟩ = some (.int .i64 n) := (by rw [b7.cell (by first | omega | (simp; done) | (simp; omega))]; go_cell)
    have a1_7 : w7.cell? ⟨w1.heap.size, 1, none⟩ = some (.slice so l.length sc) := (by rw [b7.cell (by first | omega | (simp; done) | (simp; omega))]; go_cell)
    have al_7 : w1.heap.size < w7.heap.size := (by have := b7.size; first | omega | (revert this; simp; done) | (revert this; simp; omega))
    have g0_7 : w7.cell? ⟨w3.heap.size, 0, none⟩ = some (.int .i64 n) := (by rw [b7.cell (by first | omega | (simp; done) | (simp; omega))]; go_cell)
    have g1_7 : w7.cell? ⟨w3.heap.size, 1, none⟩ = some (.slice go l.length gc) := (by rw [b7.cell (by first | omega | (simp; done) | (simp; omega))]; go_cell)
    have gl_7 : w3.heap.size < w7.heap.size := (by have := b7.size; first | omega | (revert this; simp; done) | (revert this; simp; omega))
    clear a0_6 a1_6 al_6 g0_6 g1_6 gl_6
    have HS7 := hid (HS6.out.later d7)
    have HG7 := hid (HG6.out.later d7)
    clear b7 d7 HS6 HG6
    go_wp2_with fail
    refine (implVRead_any k s _ hbig (HL.out.below c7)).mono ?_
    rintro e w8 ⟨⟨n', vh, l', b', rfl, oh, hhR⟩, b8⟩
    obtain ⟨rfl, rfl, rfl⟩ := ValR.unique HSR.out hhR
    have HH8 := hid oh
    clear oh hhR
    have d8 : Below w7.heap.size w7 w8 := (Below.trans (by go_grown) (b8.mono (by first | omega | (simp; done) | (simp; omega))))
    have c8 : Below w.heap.size w w8 := c7.trans (d8.mono c7.size)
    have a0_8 : w8.cell? ⟨w1.heap.size, 0, none⟩ = some (.int .i64 n) := (by rw [b8.cell (by first | omega | (simp; done) | (simp; omega))]; go_cell)
    have a1_8 : w8.cell? ⟨w1.heap.size, 1, none⟩ = some (.slice so l.length sc) := (by rw [b8.cell (by first | omega | (simp; done) | (simp; omega))]; go_cell)
    have al_8 : w1.heap.size < w8.heap.size := (by have := b8.size; first | omega | (revert this; simp; done) | (revert this; simp; omega))
    have g0_8 : w8.cell? ⟨w3.heap.size, 0, none⟩ = some (.int .i64 n) := (by rw [b8.cell (by first | omega | (simp; done) | (simp; omega))]; go_cell)
    have g1_8 : w8.cell? ⟨w3.heap.size, 1, none⟩ = some (.slice go l.length gc) := (by rw [b8.cell (by first | omega | (simp; done) | (simp; omega))]; go_cell)
    have gl_8 : w3.heap.size < w8.heap.size := (by have := b8.size; first | omega | (revert this; simp; done) | (revert this; simp; omega))
    clear a0_7 a1_7 al_7 g0_7 g1_7 gl_7
    have HS8 := hid (HS7.out.later d8)
    have HG8 := hid (HG7.out.later d8)
    clear b8 d8 HS7 HG7
    obtain ⟨ho, hc, hhv, _⟩ := HH8.out.rd
    subst hhv
    go_wp2_with fail
    have h0_9 : (w8.alloc (.cells #[.int .i64 n, .slice ho l.length hc] 29)).cell? ⟨w8.heap.size, 0, none⟩ = some (.int .i64 n) := by go_cell
    have h1_9 : (w8.alloc (.cells #[.int .i64 n, .slice ho l.length hc] 29)).cell? ⟨w8.heap.size, 1, none⟩ = some (.slice ho l.length hc) := by go_cell
    have hl_9 : w8.heap.size < (w8.alloc (.cells #[.int .i64 n, .slice ho l.length hc] 29)).heap.size := by simp
    have d9 : Below w8.heap.size w8 (w8.alloc (.cells #[.int .i64 n, .slice ho l.length hc] 29)) := by go_grown
    generalize (w8.alloc (.cells #[.int .i64 n, .slice ho l.length hc] 29)) = w9 at h0_9 h1_9 hl_9 d9 ⊢
    have c9 : Below w.heap.size w w9 := c8.trans (d9.mono c8.size)
    have a0_9 : w9.cell? ⟨w1.heap.size, 0, none⟩ = some (.int .i64 n) := (by rw [d9.cell (by first | omega | (simp; done) | (simp; omega))]; go_cell)
    have a1_9 : w9.cell? ⟨w1.heap.size, 1, none⟩ = some (.slice so l.length sc) := (by rw [d9.cell (by first | omega | (simp; done) | (simp; omega))]; go_cell)
    have al_9 : w1.heap.size < w9.heap.size := (by have := d9.size; omega)
    have g0_9 : w9.cell? ⟨w3.heap.size, 0, none⟩ = some (.int .i64 n) := (by rw [d9.cell (by first | omega | (simp; done) | (simp; omega))]; go_cell)
    have g1_9 : w9.cell? ⟨w3.heap.size, 1, none⟩ = some (.slice go l.length gc) := (by rw [d9.cell (by first | omega | (simp; done) | (simp; omega))]; go_cell)
    have gl_9 : w3.heap.size < w9.heap.size := (by have := d9.size; omega)
    clear a0_8 a1_8 al_8 g0_8 g1_8 gl_8
    have HS9 := hid (HS8.out.later d9)
    have HG9 := hid (HG8.out.later d9)
    have HH9 := hid (HH8.out.later d9)
    clear d9 HS8 HG8 HH8
    refine (eqVal_self n _ _ l _ HH9.out.rd HS9.out).mono ?_
    rintro e w10 ⟨rfl, b10⟩
    have d10 : Below w9.heap.size w9 w10 := (Below.trans (by go_grown) (b10.mono (by first | omega | (simp; done) | (simp; omega))))
    have c10 : Below w.heap.size w w10 := c9.trans (d10.mono c9.size)
    have g0_10 : w10.cell? ⟨w3.heap.size, 0, none⟩ = some (.int .i64 n) := (by rw [b10.cell (by first | omega | (simp; done) | (simp; omega))]; go_cell)
    have g1_10 : w10.cell? ⟨w3.heap.size, 1, none⟩ = some (.slice go l.length gc) := (by rw [b10.cell (by first | omega | (simp; done) | (simp; omega))]; go_cell)
    have gl_10 : w3.heap.size < w10.heap.size := (by have := b10.size; first | omega | (revert this; simp; done) | (revert this; simp; omega))
    clear g0_9 g1_9 gl_9
    have HG10 := hid (HG9.out.later d10)
    clear b10 d10
    go_wp2_with fail
    refine (heldVal_any n _ l.length 1 _ HG10.out.rd (by omega) (by omega) (Nat.le_trans HLen.out (by decide))).mono ?_
    rintro e w11 ⟨rfl, b11⟩
    have d11 : Below w10.heap.size w10 w11 := (Below.trans (by go_grown) (b11.mono (by first | omega | (simp; done) | (simp; omega))))
    have c11 : Below w.heap.size w w11 := c10.trans (d11.mono c10.size)
    go_wp2
    go_ret
    exact ⟨by simp, c11⟩
  · go_enter Tryd.func4, Tryd.ntmps4
    go_wp2
    go_ret
    exact ⟨by simp, Below.refl _ _⟩
end Go.Proofs.YtnpfkhbnfihbdacDoor
