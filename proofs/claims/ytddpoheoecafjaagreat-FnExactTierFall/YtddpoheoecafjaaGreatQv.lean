/- impl.TierFall: contract. Written by a program (gqv.py). -/
import Derived.Test.YtddpoheoecafjaaGreatQr
import Derived.Test.YtddpoheoecafjaaGreatQw
import Derived.Test.YtddpoheoecafjaaGreatQn
namespace Go.Proofs.YtddpoheoecafjaaGreat
open Go.RowKit
attribute [local go_sem ↓] Go.wp_at_zero Go.wp_at_succ

abbrev fallFn : Value := .func (.func 61) #[] #[]
set_option maxRecDepth 100000 in
set_option maxHeartbeats 4000000 in
theorem bT_no (i0 i1 i2 : Int) (q0 q1 q2 q3 : Bool) (i3 i4 i5 i6 i7 : Int) (va0 va1 : Value) (I F : List KD) (w : World) (ha : RSCache w va0 va1 I F) (hT : okT i0 i1 i2 q0 q1 q2 q3 i3 i4 i5 i6 i7 I F = false) :
    Calls Tryz.prog 46 #[.agg #[.int .i64 i0, .int .i64 i1, .int .i64 i2, .bool q0, .bool q1, .bool q2, .bool q3, .int .i64 i3, .int .i64 i4, .int .i64 i5, .int .i64 i6, .int .i64 i7, va0, va1], fallFn] w fun e w' => EndB w.heap.size w' [.int .i64 0, .int .i64 0, .int .i64 0, .bool false, .bool false, .bool false, .bool false, .int .i64 0, .int .i64 0, .int .i64 0, .int .i64 0, .int .i64 0] [] [] (.slice none 0 0) (.slice none 0 0) e ∧ Below w.heap.size w w' := by
  have HA := hid ha
  have HT := hid hT
  obtain ⟨ao0, ao1, ac0, ac1, rfl, rfl⟩ := ha.open
  clear ha hT
  go_enter Tryz.func46, Tryz.ntmps46
  go_wp2_with fail
  generalize hW1 : ((w.alloc (.cells #[.int .i64 i0, .int .i64 i1, .int .i64 i2, .bool q0, .bool q1, .bool q2, .bool q3, .int .i64 i3, .int .i64 i4, .int .i64 i5, .int .i64 i6, .int .i64 i7, .slice ao0 I.length ac0, .slice ao1 F.length ac1] 38)).alloc (.cells #[.int .i64 0, .int .i64 0, .int .i64 0, .bool false, .bool false, .bool false, .bool false, .int .i64 0, .int .i64 0, .int .i64 0, .int .i64 0, .int .i64 0, .slice none 0 0, .slice none 0 0] 38)) = w1
  have a0_1 : w1.cell? ⟨w.heap.size, 0, none⟩ = some (.int .i64 i0) := by subst hW1; go_cell
  have a1_1 : w1.cell? ⟨w.heap.size, 1, none⟩ = some (.int .i64 i1) := by subst hW1; go_cell
  have a2_1 : w1.cell? ⟨w.heap.size, 2, none⟩ = some (.int .i64 i2) := by subst hW1; go_cell
  have a3_1 : w1.cell? ⟨w.heap.size, 3, none⟩ = some (.bool q0) := by subst hW1; go_cell
  have a4_1 : w1.cell? ⟨w.heap.size, 4, none⟩ = some (.bool q1) := by subst hW1; go_cell
  have a5_1 : w1.cell? ⟨w.heap.size, 5, none⟩ = some (.bool q2) := by subst hW1; go_cell
  have a6_1 : w1.cell? ⟨w.heap.size, 6, none⟩ = some (.bool q3) := by subst hW1; go_cell
  have a7_1 : w1.cell? ⟨w.heap.size, 7, none⟩ = some (.int .i64 i3) := by subst hW1; go_cell
  have a8_1 : w1.cell? ⟨w.heap.size, 8, none⟩ = some (.int .i64 i4) := by subst hW1; go_cell
  have a9_1 : w1.cell? ⟨w.heap.size, 9, none⟩ = some (.int .i64 i5) := by subst hW1; go_cell
  have a10_1 : w1.cell? ⟨w.heap.size, 10, none⟩ = some (.int .i64 i6) := by subst hW1; go_cell
  have a11_1 : w1.cell? ⟨w.heap.size, 11, none⟩ = some (.int .i64 i7) := by subst hW1; go_cell
  have a12_1 : w1.cell? ⟨w.heap.size, 12, none⟩ = some (.slice ao0 I.length ac0) := by subst hW1; go_cell
  have a13_1 : w1.cell? ⟨w.heap.size, 13, none⟩ = some (.slice ao1 F.length ac1) := by subst hW1; go_cell
  have al_1 : w.heap.size < w1.heap.size := by subst hW1; first | (simp; done) | (simp; omega)
  have r0_1 : w1.cell? ⟨w.heap.size + 1, 0, none⟩ = some (.int .i64 0) := by subst hW1; go_cell
  have rf0_1 : w1.frozen? ⟨w.heap.size + 1, 0, none⟩ = false := by subst hW1; (first | go_cell | (simp [World.frozen?, World.alloc]; done) | rfl)
  have r1_1 : w1.cell? ⟨w.heap.size + 1, 1, none⟩ = some (.int .i64 0) := by subst hW1; go_cell
  have rf1_1 : w1.frozen? ⟨w.heap.size + 1, 1, none⟩ = false := by subst hW1; (first | go_cell | (simp [World.frozen?, World.alloc]; done) | rfl)
  have r2_1 : w1.cell? ⟨w.heap.size + 1, 2, none⟩ = some (.int .i64 0) := by subst hW1; go_cell
  have rf2_1 : w1.frozen? ⟨w.heap.size + 1, 2, none⟩ = false := by subst hW1; (first | go_cell | (simp [World.frozen?, World.alloc]; done) | rfl)
  have r3_1 : w1.cell? ⟨w.heap.size + 1, 3, none⟩ = some (.bool false) := by subst hW1; go_cell
  have rf3_1 : w1.frozen? ⟨w.heap.size + 1, 3, none⟩ = false := by subst hW1; (first | go_cell | (simp [World.frozen?, World.alloc]; done) | rfl)
  have r4_1 : w1.cell? ⟨w.heap.size + 1, 4, none⟩ = some (.bool false) := by subst hW1; go_cell
  have rf4_1 : w1.frozen? ⟨w.heap.size + 1, 4, none⟩ = false := by subst hW1; (first | go_cell | (simp [World.frozen?, World.alloc]; done) | rfl)
  have r5_1 : w1.cell? ⟨w.heap.size + 1, 5, none⟩ = some (.bool false) := by subst hW1; go_cell
  have rf5_1 : w1.frozen? ⟨w.heap.size + 1, 5, none⟩ = false := by subst hW1; (first | go_cell | (simp [World.frozen?, World.alloc]; done) | rfl)
  have r6_1 : w1.cell? ⟨w.heap.size + 1, 6, none⟩ = some (.bool false) := by subst hW1; go_cell
  have rf6_1 : w1.frozen? ⟨w.heap.size + 1, 6, none⟩ = false := by subst hW1; (first | go_cell | (simp [World.frozen?, World.alloc]; done) | rfl)
  have r7_1 : w1.cell? ⟨w.heap.size + 1, 7, none⟩ = some (.int .i64 0) := by subst hW1; go_cell
  have rf7_1 : w1.frozen? ⟨w.heap.size + 1, 7, none⟩ = false := by subst hW1; (first | go_cell | (simp [World.frozen?, World.alloc]; done) | rfl)
  have r8_1 : w1.cell? ⟨w.heap.size + 1, 8, none⟩ = some (.int .i64 0) := by subst hW1; go_cell
  have rf8_1 : w1.frozen? ⟨w.heap.size + 1, 8, none⟩ = false := by subst hW1; (first | go_cell | (simp [World.frozen?, World.alloc]; done) | rfl)
  have r9_1 : w1.cell? ⟨w.heap.size + 1, 9, none⟩ = some (.int .i64 0) := by subst hW1; go_cell
  have rf9_1 : w1.frozen? ⟨w.heap.size + 1, 9, none⟩ = false := by subst hW1; (first | go_cell | (simp [World.frozen?, World.alloc]; done) | rfl)
  have r10_1 : w1.cell? ⟨w.heap.size + 1, 10, none⟩ = some (.int .i64 0) := by subst hW1; go_cell
  have rf10_1 : w1.frozen? ⟨w.heap.size + 1, 10, none⟩ = false := by subst hW1; (first | go_cell | (simp [World.frozen?, World.alloc]; done) | rfl)
  have r11_1 : w1.cell? ⟨w.heap.size + 1, 11, none⟩ = some (.int .i64 0) := by subst hW1; go_cell
  have rf11_1 : w1.frozen? ⟨w.heap.size + 1, 11, none⟩ = false := by subst hW1; (first | go_cell | (simp [World.frozen?, World.alloc]; done) | rfl)
  have r12_1 : w1.cell? ⟨w.heap.size + 1, 12, none⟩ = some (.slice none 0 0) := by subst hW1; go_cell
  have rf12_1 : w1.frozen? ⟨w.heap.size + 1, 12, none⟩ = false := by subst hW1; (first | go_cell | (simp [World.frozen?, World.alloc]; done) | rfl)
  have r13_1 : w1.cell? ⟨w.heap.size + 1, 13, none⟩ = some (.slice none 0 0) := by subst hW1; go_cell
  have rf13_1 : w1.frozen? ⟨w.heap.size + 1, 13, none⟩ = false := by subst hW1; (first | go_cell | (simp [World.frozen?, World.alloc]; done) | rfl)
  have rl_1 : w.heap.size + 1 < w1.heap.size := by subst hW1; first | (simp; done) | (simp; omega)
  have c1 : Below w.heap.size w w1 := by subst hW1; go_grown
  have s1 : w1.heap.size = w.heap.size + 2 := by subst hW1; simp
  clear hW1
  have qa0_1 := cell_regrown a0_1
  have qa1_1 := cell_regrown a1_1
  have qa2_1 := cell_regrown a2_1
  have qa3_1 := cell_regrown a3_1
  have qa4_1 := cell_regrown a4_1
  have qa5_1 := cell_regrown a5_1
  have qa6_1 := cell_regrown a6_1
  have qa7_1 := cell_regrown a7_1
  have qa8_1 := cell_regrown a8_1
  have qa9_1 := cell_regrown a9_1
  have qa10_1 := cell_regrown a10_1
  have qa11_1 := cell_regrown a11_1
  have qa12_1 := cell_regrown a12_1
  have qa13_1 := cell_regrown a13_1
  have qr0_1 := cell_regrown r0_1
  have qr1_1 := cell_regrown r1_1
  have qr2_1 := cell_regrown r2_1
  have qr3_1 := cell_regrown r3_1
  have qr4_1 := cell_regrown r4_1
  have qr5_1 := cell_regrown r5_1
  have qr6_1 := cell_regrown r6_1
  have qr7_1 := cell_regrown r7_1
  have qr8_1 := cell_regrown r8_1
  have qr9_1 := cell_regrown r9_1
  have qr10_1 := cell_regrown r10_1
  have qr11_1 := cell_regrown r11_1
  have qr12_1 := cell_regrown r12_1
  have qr13_1 := cell_regrown r13_1
  refine (implTOk_is HT.out _ (HA.out.later c1)).mono ?_
  rintro e w2 ⟨rfl, b2⟩
  have d2 : Below w1.heap.size w1 w2 := (Below.trans (by go_grown) (b2.mono (by first | omega | (simp; done) | (simp; omega))))
  have c2 : Below w.heap.size w w2 := c1.trans (d2.mono c1.size)
  have a0_2 : w2.cell? ⟨w.heap.size, 0, none⟩ = some (.int .i64 i0) := (by rw [b2.cell (by first | omega | (simp; done) | (simp; omega))]; go_cell)
  have a1_2 : w2.cell? ⟨w.heap.size, 1, none⟩ = some (.int .i64 i1) := (by rw [b2.cell (by first | omega | (simp; done) | (simp; omega))]; go_cell)
  have a2_2 : w2.cell? ⟨w.heap.size, 2, none⟩ = some (.int .i64 i2) := (by rw [b2.cell (by first | omega | (simp; done) | (simp; omega))]; go_cell)
  have a3_2 : w2.cell? ⟨w.heap.size, 3, none⟩ = some (.bool q0) := (by rw [b2.cell (by first | omega | (simp; done) | (simp; omega))]; go_cell)
  have a4_2 : w2.cell? ⟨w.heap.size, 4, none⟩ = some (.bool q1) := (by rw [b2.cell (by first | omega | (simp; done) | (simp; omega))]; go_cell)
  have a5_2 : w2.cell? ⟨w.heap.size, 5, none⟩ = some (.bool q2) := (by rw [b2.cell (by first | omega | (simp; done) | (simp; omega))]; go_cell)
  have a6_2 : w2.cell? ⟨w.heap.size, 6, none⟩ = some (.bool q3) := (by rw [b2.cell (by first | omega | (simp; done) | (simp; omega))]; go_cell)
  have a7_2 : w2.cell? ⟨w.heap.size, 7, none⟩ = some (.int .i64 i3) := (by rw [b2.cell (by first | omega | (simp; done) | (simp; omega))]; go_cell)
  have a8_2 : w2.cell? ⟨w.heap.size, 8, none⟩ = some (.int .i64 i4) := (by rw [b2.cell (by first | omega | (simp; done) | (simp; omega))]; go_cell)
  have a9_2 : w2.cell? ⟨w.heap.size, 9, none⟩ = some (.int .i64 i5) := (by rw [b2.cell (by first | omega | (simp; done) | (simp; omega))]; go_cell)
  have a10_2 : w2.cell? ⟨w.heap.size, 10, none⟩ = some (.int .i64 i6) := (by rw [b2.cell (by first | omega | (simp; done) | (simp; omega))]; go_cell)
  have a11_2 : w2.cell? ⟨w.heap.size, 11, none⟩ = some (.int .i64 i7) := (by rw [b2.cell (by first | omega | (simp; done) | (simp; omega))]; go_cell)
  have a12_2 : w2.cell? ⟨w.heap.size, 12, none⟩ = some (.slice ao0 I.length ac0) := (by rw [b2.cell (by first | omega | (simp; done) | (simp; omega))]; go_cell)
  have a13_2 : w2.cell? ⟨w.heap.size, 13, none⟩ = some (.slice ao1 F.length ac1) := (by rw [b2.cell (by first | omega | (simp; done) | (simp; omega))]; go_cell)
  have al_2 : w.heap.size < w2.heap.size := (by have := b2.size; first | omega | (revert this; simp; done) | (revert this; simp; omega))
  have r0_2 : w2.cell? ⟨w.heap.size + 1, 0, none⟩ = some (.int .i64 0) := (by rw [b2.cell (by first | omega | (simp; done) | (simp; omega))]; go_cell)
  have rf0_2 : w2.frozen? ⟨w.heap.size + 1, 0, none⟩ = false := (by rw [b2.frozen (by first | omega | (simp; done) | (simp; omega))]; (first | go_cell | (simp [World.frozen?, World.alloc]; done) | rfl))
  have r1_2 : w2.cell? ⟨w.heap.size + 1, 1, none⟩ = some (.int .i64 0) := (by rw [b2.cell (by first | omega | (simp; done) | (simp; omega))]; go_cell)
  have rf1_2 : w2.frozen? ⟨w.heap.size + 1, 1, none⟩ = false := (by rw [b2.frozen (by first | omega | (simp; done) | (simp; omega))]; (first | go_cell | (simp [World.frozen?, World.alloc]; done) | rfl))
  have r2_2 : w2.cell? ⟨w.heap.size + 1, 2, none⟩ = some (.int .i64 0) := (by rw [b2.cell (by first | omega | (simp; done) | (simp; omega))]; go_cell)
  have rf2_2 : w2.frozen? ⟨w.heap.size + 1, 2, none⟩ = false := (by rw [b2.frozen (by first | omega | (simp; done) | (simp; omega))]; (first | go_cell | (simp [World.frozen?, World.alloc]; done) | rfl))
  have r3_2 : w2.cell? ⟨w.heap.size + 1, 3, none⟩ = some (.bool false) := (by rw [b2.cell (by first | omega | (simp; done) | (simp; omega))]; go_cell)
  have rf3_2 : w2.frozen? ⟨w.heap.size + 1, 3, none⟩ = false := (by rw [b2.frozen (by first | omega | (simp; done) | (simp; omega))]; (first | go_cell | (simp [World.frozen?, World.alloc]; done) | rfl))
  have r4_2 : w2.cell? ⟨w.heap.size + 1, 4, none⟩ = some (.bool false) := (by rw [b2.cell (by first | omega | (simp; done) | (simp; omega))]; go_cell)
  have rf4_2 : w2.frozen? ⟨w.heap.size + 1, 4, none⟩ = false := (by rw [b2.frozen (by first | omega | (simp; done) | (simp; omega))]; (first | go_cell | (simp [World.frozen?, World.alloc]; done) | rfl))
  have r5_2 : w2.cell? ⟨w.heap.size + 1, 5, none⟩ = some (.bool false) := (by rw [b2.cell (by first | omega | (simp; done) | (simp; omega))]; go_cell)
  have rf5_2 : w2.frozen? ⟨w.heap.size + 1, 5, none⟩ = false := (by rw [b2.frozen (by first | omega | (simp; done) | (simp; omega))]; (first | go_cell | (simp [World.frozen?, World.alloc]; done) | rfl))
  have r6_2 : w2.cell? ⟨w.heap.size + 1, 6, none⟩ = some (.bool false) := (by rw [b2.cell (by first | omega | (simp; done) | (simp; omega))]; go_cell)
  have rf6_2 : w2.frozen? ⟨w.heap.size + 1, 6, none⟩ = false := (by rw [b2.frozen (by first | omega | (simp; done) | (simp; omega))]; (first | go_cell | (simp [World.frozen?, World.alloc]; done) | rfl))
  have r7_2 : w2.cell? ⟨w.heap.size + 1, 7, none⟩ = some (.int .i64 0) := (by rw [b2.cell (by first | omega | (simp; done) | (simp; omega))]; go_cell)
  have rf7_2 : w2.frozen? ⟨w.heap.size + 1, 7, none⟩ = false := (by rw [b2.frozen (by first | omega | (simp; done) | (simp; omega))]; (first | go_cell | (simp [World.frozen?, World.alloc]; done) | rfl))
  have r8_2 : w2.cell? ⟨w.heap.size + 1, 8, none⟩ = some (.int .i64 0) := (by rw [b2.cell (by first | omega | (simp; done) | (simp; omega))]; go_cell)
  have rf8_2 : w2.frozen? ⟨w.heap.size + 1, 8, none⟩ = false := (by rw [b2.frozen (by first | omega | (simp; done) | (simp; omega))]; (first | go_cell | (simp [World.frozen?, World.alloc]; done) | rfl))
  have r9_2 : w2.cell? ⟨w.heap.size + 1, 9, none⟩ = some (.int .i64 0) := (by rw [b2.cell (by first | omega | (simp; done) | (simp; omega))]; go_cell)
  have rf9_2 : w2.frozen? ⟨w.heap.size + 1, 9, none⟩ = false := (by rw [b2.frozen (by first | omega | (simp; done) | (simp; omega))]; (first | go_cell | (simp [World.frozen?, World.alloc]; done) | rfl))
  have r10_2 : w2.cell? ⟨w.heap.size + 1, 10, none⟩ = some (.int .i64 0) := (by rw [b2.cell (by first | omega | (simp; done) | (simp; omega))]; go_cell)
  have rf10_2 : w2.frozen? ⟨w.heap.size + 1, 10, none⟩ = false := (by rw [b2.frozen (by first | omega | (simp; done) | (simp; omega))]; (first | go_cell | (simp [World.frozen?, World.alloc]; done) | rfl))
  have r11_2 : w2.cell? ⟨w.heap.size + 1, 11, none⟩ = some (.int .i64 0) := (by rw [b2.cell (by first | omega | (simp; done) | (simp; omega))]; go_cell)
  have rf11_2 : w2.frozen? ⟨w.heap.size + 1, 11, none⟩ = false := (by rw [b2.frozen (by first | omega | (simp; done) | (simp; omega))]; (first | go_cell | (simp [World.frozen?, World.alloc]; done) | rfl))
  have r12_2 : w2.cell? ⟨w.heap.size + 1, 12, none⟩ = some (.slice none 0 0) := (by rw [b2.cell (by first | omega | (simp; done) | (simp; omega))]; go_cell)
  have rf12_2 : w2.frozen? ⟨w.heap.size + 1, 12, none⟩ = false := (by rw [b2.frozen (by first | omega | (simp; done) | (simp; omega))]; (first | go_cell | (simp [World.frozen?, World.alloc]; done) | rfl))
  have r13_2 : w2.cell? ⟨w.heap.size + 1, 13, none⟩ = some (.slice none 0 0) := (by rw [b2.cell (by first | omega | (simp; done) | (simp; omega))]; go_cell)
  have rf13_2 : w2.frozen? ⟨w.heap.size + 1, 13, none⟩ = false := (by rw [b2.frozen (by first | omega | (simp; done) | (simp; omega))]; (first | go_cell | (simp [World.frozen?, World.alloc]; done) | rfl))
  have rl_2 : w.heap.size + 1 < w2.heap.size := (by have := b2.size; first | omega | (revert this; simp; done) | (revert this; simp; omega))
  clear a0_1 a1_1 a2_1 a3_1 a4_1 a5_1 a6_1 a7_1 a8_1 a9_1 a10_1 a11_1 a12_1 a13_1 al_1 r0_1 rf0_1 r1_1 rf1_1 r2_1 rf2_1 r3_1 rf3_1 r4_1 rf4_1 r5_1 rf5_1 r6_1 rf6_1 r7_1 rf7_1 r8_1 rf8_1 r9_1 rf9_1 r10_1 rf10_1 r11_1 rf11_1 r12_1 rf12_1 r13_1 rf13_1 rl_1
  clear b2 d2
  have hl := al_2
  go_wp2
  have HB := ((((((((((((((c2.setCell (p := ⟨w.heap.size + 1, 0, none⟩) (by show w.heap.size ≤ w.heap.size + 1; omega) (.int .i64 0)).setCell (p := ⟨w.heap.size + 1, 1, none⟩) (by show w.heap.size ≤ w.heap.size + 1; omega) (.int .i64 0)).setCell (p := ⟨w.heap.size + 1, 2, none⟩) (by show w.heap.size ≤ w.heap.size + 1; omega) (.int .i64 0)).setCell (p := ⟨w.heap.size + 1, 3, none⟩) (by show w.heap.size ≤ w.heap.size + 1; omega) (.bool false)).setCell (p := ⟨w.heap.size + 1, 4, none⟩) (by show w.heap.size ≤ w.heap.size + 1; omega) (.bool false)).setCell (p := ⟨w.heap.size + 1, 5, none⟩) (by show w.heap.size ≤ w.heap.size + 1; omega) (.bool false)).setCell (p := ⟨w.heap.size + 1, 6, none⟩) (by show w.heap.size ≤ w.heap.size + 1; omega) (.bool false)).setCell (p := ⟨w.heap.size + 1, 7, none⟩) (by show w.heap.size ≤ w.heap.size + 1; omega) (.int .i64 0)).setCell (p := ⟨w.heap.size + 1, 8, none⟩) (by show w.heap.size ≤ w.heap.size + 1; omega) (.int .i64 0)).setCell (p := ⟨w.heap.size + 1, 9, none⟩) (by show w.heap.size ≤ w.heap.size + 1; omega) (.int .i64 0)).setCell (p := ⟨w.heap.size + 1, 10, none⟩) (by show w.heap.size ≤ w.heap.size + 1; omega) (.int .i64 0)).setCell (p := ⟨w.heap.size + 1, 11, none⟩) (by show w.heap.size ≤ w.heap.size + 1; omega) (.int .i64 0)).setCell (p := ⟨w.heap.size + 1, 12, none⟩) (by show w.heap.size ≤ w.heap.size + 1; omega) (.slice none 0 0)).setCell (p := ⟨w.heap.size + 1, 13, none⟩) (by show w.heap.size ≤ w.heap.size + 1; omega) (.slice none 0 0))
  have HL := (show w.heap.size < ((((((((((((((w2.setCell ⟨w.heap.size + 1, 0, none⟩ (.int .i64 0)).setCell ⟨w.heap.size + 1, 1, none⟩ (.int .i64 0)).setCell ⟨w.heap.size + 1, 2, none⟩ (.int .i64 0)).setCell ⟨w.heap.size + 1, 3, none⟩ (.bool false)).setCell ⟨w.heap.size + 1, 4, none⟩ (.bool false)).setCell ⟨w.heap.size + 1, 5, none⟩ (.bool false)).setCell ⟨w.heap.size + 1, 6, none⟩ (.bool false)).setCell ⟨w.heap.size + 1, 7, none⟩ (.int .i64 0)).setCell ⟨w.heap.size + 1, 8, none⟩ (.int .i64 0)).setCell ⟨w.heap.size + 1, 9, none⟩ (.int .i64 0)).setCell ⟨w.heap.size + 1, 10, none⟩ (.int .i64 0)).setCell ⟨w.heap.size + 1, 11, none⟩ (.int .i64 0)).setCell ⟨w.heap.size + 1, 12, none⟩ (.slice none 0 0)).setCell ⟨w.heap.size + 1, 13, none⟩ (.slice none 0 0)).heap.size by simp only [World.setCell, Array.size_modify]; exact hl)
  generalize hWF : ((((((((((((((w2.setCell ⟨w.heap.size + 1, 0, none⟩ (.int .i64 0)).setCell ⟨w.heap.size + 1, 1, none⟩ (.int .i64 0)).setCell ⟨w.heap.size + 1, 2, none⟩ (.int .i64 0)).setCell ⟨w.heap.size + 1, 3, none⟩ (.bool false)).setCell ⟨w.heap.size + 1, 4, none⟩ (.bool false)).setCell ⟨w.heap.size + 1, 5, none⟩ (.bool false)).setCell ⟨w.heap.size + 1, 6, none⟩ (.bool false)).setCell ⟨w.heap.size + 1, 7, none⟩ (.int .i64 0)).setCell ⟨w.heap.size + 1, 8, none⟩ (.int .i64 0)).setCell ⟨w.heap.size + 1, 9, none⟩ (.int .i64 0)).setCell ⟨w.heap.size + 1, 10, none⟩ (.int .i64 0)).setCell ⟨w.heap.size + 1, 11, none⟩ (.int .i64 0)).setCell ⟨w.heap.size + 1, 12, none⟩ (.slice none 0 0)).setCell ⟨w.heap.size + 1, 13, none⟩ (.slice none 0 0)) = wF at HB HL ⊢
  have e0 : wF.cell? ⟨w.heap.size + 1, 0, none⟩ = some (.int .i64 0) := by subst hWF; go_cell
  have e1 : wF.cell? ⟨w.heap.size + 1, 1, none⟩ = some (.int .i64 0) := by subst hWF; go_cell
  have e2 : wF.cell? ⟨w.heap.size + 1, 2, none⟩ = some (.int .i64 0) := by subst hWF; go_cell
  have e3 : wF.cell? ⟨w.heap.size + 1, 3, none⟩ = some (.bool false) := by subst hWF; go_cell
  have e4 : wF.cell? ⟨w.heap.size + 1, 4, none⟩ = some (.bool false) := by subst hWF; go_cell
  have e5 : wF.cell? ⟨w.heap.size + 1, 5, none⟩ = some (.bool false) := by subst hWF; go_cell
  have e6 : wF.cell? ⟨w.heap.size + 1, 6, none⟩ = some (.bool false) := by subst hWF; go_cell
  have e7 : wF.cell? ⟨w.heap.size + 1, 7, none⟩ = some (.int .i64 0) := by subst hWF; go_cell
  have e8 : wF.cell? ⟨w.heap.size + 1, 8, none⟩ = some (.int .i64 0) := by subst hWF; go_cell
  have e9 : wF.cell? ⟨w.heap.size + 1, 9, none⟩ = some (.int .i64 0) := by subst hWF; go_cell
  have e10 : wF.cell? ⟨w.heap.size + 1, 10, none⟩ = some (.int .i64 0) := by subst hWF; go_cell
  have e11 : wF.cell? ⟨w.heap.size + 1, 11, none⟩ = some (.int .i64 0) := by subst hWF; go_cell
  have e12 : wF.cell? ⟨w.heap.size + 1, 12, none⟩ = some (.slice none 0 0) := by subst hWF; go_cell
  have e13 : wF.cell? ⟨w.heap.size + 1, 13, none⟩ = some (.slice none 0 0) := by subst hWF; go_cell
  clear hWF
  exact bodyPost_ret (v := .tuple #[.agg #[.int .i64 0, .int .i64 0, .int .i64 0, .bool false, .bool false, .bool false, .bool false, .int .i64 0, .int .i64 0, .int .i64 0, .int .i64 0, .int .i64 0, .slice none 0 0, .slice none 0 0], .slice none 0 0, .slice none 0 0]) (by simp [results, Tryz.results46, go_sem, e0, e1, e2, e3, e4, e5, e6, e7, e8, e9, e10, e11, e12, e13]) rfl ⟨⟨none, 0, none, 0, w.heap.size, rfl, Nat.le_refl _, HL, OwnM.nil _ _, .inl ⟨rfl, rfl⟩⟩, HB⟩
set_option maxRecDepth 100000 in
set_option maxHeartbeats 8000000 in
theorem implTFall_by (i0 i1 i2 : Int) (q0 q1 q2 q3 : Bool) (i3 i4 i5 i6 i7 : Int) (va0 va1 : Value) (I F : List KD) (n0 n1 n2 : Int) (p0 p1 p2 p3 : Bool) (n3 n4 n5 n6 n7 : Int) (L0 L1 : List KD) (w : World) (ha : RSCache w va0 va1 I F)
    (hB : ∀ W v0 v1, RSCache W v0 v1 I F → Calls Tryz.prog 46 #[.agg #[.int .i64 i0, .int .i64 i1, .int .i64 i2, .bool q0, .bool q1, .bool q2, .bool q3, .int .i64 i3, .int .i64 i4, .int .i64 i5, .int .i64 i6, .int .i64 i7, v0, v1], fallFn] W fun e w' => EndB W.heap.size w' [.int .i64 n0, .int .i64 n1, .int .i64 n2, .bool p0, .bool p1, .bool p2, .bool p3, .int .i64 n3, .int .i64 n4, .int .i64 n5, .int .i64 n6, .int .i64 n7] L0 L1 (.slice none 0 0) (.slice none 0 0) e ∧ Below W.heap.size W w') :
    Calls Tryz.prog 29 #[.agg #[.int .i64 i0, .int .i64 i1, .int .i64 i2, .bool q0, .bool q1, .bool q2, .bool q3, .int .i64 i3, .int .i64 i4, .int .i64 i5, .int .i64 i6, .int .i64 i7, va0, va1]] w fun e w' => EndT w.heap.size w' [.int .i64 n0, .int .i64 n1, .int .i64 n2, .bool p0, .bool p1, .bool p2, .bool p3, .int .i64 n3, .int .i64 n4, .int .i64 n5, .int .i64 n6, .int .i64 n7] L0 L1 e ∧ Below w.heap.size w w' := by
  have HA := hid ha
  have HB := hid hB
  obtain ⟨ao0, ao1, ac0, ac1, rfl, rfl⟩ := ha.open
  clear ha hB
  go_enter Tryz.func29, Tryz.ntmps29
  go_wp2_with fail
  generalize hW1 : ((w.alloc (.cells #[.int .i64 i0, .int .i64 i1, .int .i64 i2, .bool q0, .bool q1, .bool q2, .bool q3, .int .i64 i3, .int .i64 i4, .int .i64 i5, .int .i64 i6, .int .i64 i7, .slice ao0 I.length ac0, .slice ao1 F.length ac1] 38)).alloc (.cells #[.int .i64 0, .int .i64 0, .int .i64 0, .bool false, .bool false, .bool false, .bool false, .int .i64 0, .int .i64 0, .int .i64 0, .int .i64 0, .int .i64 0, .slice none 0 0, .slice none 0 0] 38)) = w1
  have a0_1 : w1.cell? ⟨w.heap.size, 0, none⟩ = some (.int .i64 i0) := by subst hW1; go_cell
  have a1_1 : w1.cell? ⟨w.heap.size, 1, none⟩ = some (.int .i64 i1) := by subst hW1; go_cell
  have a2_1 : w1.cell? ⟨w.heap.size, 2, none⟩ = some (.int .i64 i2) := by subst hW1; go_cell
  have a3_1 : w1.cell? ⟨w.heap.size, 3, none⟩ = some (.bool q0) := by subst hW1; go_cell
  have a4_1 : w1.cell? ⟨w.heap.size, 4, none⟩ = some (.bool q1) := by subst hW1; go_cell
  have a5_1 : w1.cell? ⟨w.heap.size, 5, none⟩ = some (.bool q2) := by subst hW1; go_cell
  have a6_1 : w1.cell? ⟨w.heap.size, 6, none⟩ = some (.bool q3) := by subst hW1; go_cell
  have a7_1 : w1.cell? ⟨w.heap.size, 7, none⟩ = some (.int .i64 i3) := by subst hW1; go_cell
  have a8_1 : w1.cell? ⟨w.heap.size, 8, none⟩ = some (.int .i64 i4) := by subst hW1; go_cell
  have a9_1 : w1.cell? ⟨w.heap.size, 9, none⟩ = some (.int .i64 i5) := by subst hW1; go_cell
  have a10_1 : w1.cell? ⟨w.heap.size, 10, none⟩ = some (.int .i64 i6) := by subst hW1; go_cell
  have a11_1 : w1.cell? ⟨w.heap.size, 11, none⟩ = some (.int .i64 i7) := by subst hW1; go_cell
  have a12_1 : w1.cell? ⟨w.heap.size, 12, none⟩ = some (.slice ao0 I.length ac0) := by subst hW1; go_cell
  have a13_1 : w1.cell? ⟨w.heap.size, 13, none⟩ = some (.slice ao1 F.length ac1) := by subst hW1; go_cell
  have al_1 : w.heap.size < w1.heap.size := by subst hW1; first | (simp; done) | (simp; omega)
  have r0_1 : w1.cell? ⟨w.heap.size + 1, 0, none⟩ = some (.int .i64 0) := by subst hW1; go_cell
  have rf0_1 : w1.frozen? ⟨w.heap.size + 1, 0, none⟩ = false := by subst hW1; (first | go_cell | (simp [World.frozen?, World.alloc]; done) | rfl)
  have r1_1 : w1.cell? ⟨w.heap.size + 1, 1, none⟩ = some (.int .i64 0) := by subst hW1; go_cell
  have rf1_1 : w1.frozen? ⟨w.heap.size + 1, 1, none⟩ = false := by subst hW1; (first | go_cell | (simp [World.frozen?, World.alloc]; done) | rfl)
  have r2_1 : w1.cell? ⟨w.heap.size + 1, 2, none⟩ = some (.int .i64 0) := by subst hW1; go_cell
  have rf2_1 : w1.frozen? ⟨w.heap.size + 1, 2, none⟩ = false := by subst hW1; (first | go_cell | (simp [World.frozen?, World.alloc]; done) | rfl)
  have r3_1 : w1.cell? ⟨w.heap.size + 1, 3, none⟩ = some (.bool false) := by subst hW1; go_cell
  have rf3_1 : w1.frozen? ⟨w.heap.size + 1, 3, none⟩ = false := by subst hW1; (first | go_cell | (simp [World.frozen?, World.alloc]; done) | rfl)
  have r4_1 : w1.cell? ⟨w.heap.size + 1, 4, none⟩ = some (.bool false) := by subst hW1; go_cell
  have rf4_1 : w1.frozen? ⟨w.heap.size + 1, 4, none⟩ = false := by subst hW1; (first | go_cell | (simp [World.frozen?, World.alloc]; done) | rfl)
  have r5_1 : w1.cell? ⟨w.heap.size + 1, 5, none⟩ = some (.bool false) := by subst hW1; go_cell
  have rf5_1 : w1.frozen? ⟨w.heap.size + 1, 5, none⟩ = false := by subst hW1; (first | go_cell | (simp [World.frozen?, World.alloc]; done) | rfl)
  have r6_1 : w1.cell? ⟨w.heap.size + 1, 6, none⟩ = some (.bool false) := by subst hW1; go_cell
  have rf6_1 : w1.frozen? ⟨w.heap.size + 1, 6, none⟩ = false := by subst hW1; (first | go_cell | (simp [World.frozen?, World.alloc]; done) | rfl)
  have r7_1 : w1.cell? ⟨w.heap.size + 1, 7, none⟩ = some (.int .i64 0) := by subst hW1; go_cell
  have rf7_1 : w1.frozen? ⟨w.heap.size + 1, 7, none⟩ = false := by subst hW1; (first | go_cell | (simp [World.frozen?, World.alloc]; done) | rfl)
  have r8_1 : w1.cell? ⟨w.heap.size + 1, 8, none⟩ = some (.int .i64 0) := by subst hW1; go_cell
  have rf8_1 : w1.frozen? ⟨w.heap.size + 1, 8, none⟩ = false := by subst hW1; (first | go_cell | (simp [World.frozen?, World.alloc]; done) | rfl)
  have r9_1 : w1.cell? ⟨w.heap.size + 1, 9, none⟩ = some (.int .i64 0) := by subst hW1; go_cell
  have rf9_1 : w1.frozen? ⟨w.heap.size + 1, 9, none⟩ = false := by subst hW1; (first | go_cell | (simp [World.frozen?, World.alloc]; done) | rfl)
  have r10_1 : w1.cell? ⟨w.heap.size + 1, 10, none⟩ = some (.int .i64 0) := by subst hW1; go_cell
  have rf10_1 : w1.frozen? ⟨w.heap.size + 1, 10, none⟩ = false := by subst hW1; (first | go_cell | (simp [World.frozen?, World.alloc]; done) | rfl)
  have r11_1 : w1.cell? ⟨w.heap.size + 1, 11, none⟩ = some (.int .i64 0) := by subst hW1; go_cell
  have rf11_1 : w1.frozen? ⟨w.heap.size + 1, 11, none⟩ = false := by subst hW1; (first | go_cell | (simp [World.frozen?, World.alloc]; done) | rfl)
  have r12_1 : w1.cell? ⟨w.heap.size + 1, 12, none⟩ = some (.slice none 0 0) := by subst hW1; go_cell
  have rf12_1 : w1.frozen? ⟨w.heap.size + 1, 12, none⟩ = false := by subst hW1; (first | go_cell | (simp [World.frozen?, World.alloc]; done) | rfl)
  have r13_1 : w1.cell? ⟨w.heap.size + 1, 13, none⟩ = some (.slice none 0 0) := by subst hW1; go_cell
  have rf13_1 : w1.frozen? ⟨w.heap.size + 1, 13, none⟩ = false := by subst hW1; (first | go_cell | (simp [World.frozen?, World.alloc]; done) | rfl)
  have rl_1 : w.heap.size + 1 < w1.heap.size := by subst hW1; first | (simp; done) | (simp; omega)
  have c1 : Below w.heap.size w w1 := by subst hW1; go_grown
  have s1 : w1.heap.size = w.heap.size + 2 := by subst hW1; simp
  clear hW1
  have qa0_1 := cell_regrown a0_1
  have qa1_1 := cell_regrown a1_1
  have qa2_1 := cell_regrown a2_1
  have qa3_1 := cell_regrown a3_1
  have qa4_1 := cell_regrown a4_1
  have qa5_1 := cell_regrown a5_1
  have qa6_1 := cell_regrown a6_1
  have qa7_1 := cell_regrown a7_1
  have qa8_1 := cell_regrown a8_1
  have qa9_1 := cell_regrown a9_1
  have qa10_1 := cell_regrown a10_1
  have qa11_1 := cell_regrown a11_1
  have qa12_1 := cell_regrown a12_1
  have qa13_1 := cell_regrown a13_1
  have qr0_1 := cell_regrown r0_1
  have qr1_1 := cell_regrown r1_1
  have qr2_1 := cell_regrown r2_1
  have qr3_1 := cell_regrown r3_1
  have qr4_1 := cell_regrown r4_1
  have qr5_1 := cell_regrown r5_1
  have qr6_1 := cell_regrown r6_1
  have qr7_1 := cell_regrown r7_1
  have qr8_1 := cell_regrown r8_1
  have qr9_1 := cell_regrown r9_1
  have qr10_1 := cell_regrown r10_1
  have qr11_1 := cell_regrown r11_1
  have qr12_1 := cell_regrown r12_1
  have qr13_1 := cell_regrown r13_1
  have hr1 := rl_1
  refine (HB.out _ _ _ (HA.out.later c1)).mono ?_
  rintro e w2 ⟨⟨ua, uc, fo, fc, g, he, hg0, hg1, ho, hf⟩, b2⟩
  simp only [List.cons_append, List.nil_append] at he
  subst he
  have HO := hid ho
  have HF := hid hf
  have HG := hid (And.intro hg0 hg1)
  have d2 : Below w1.heap.size w1 w2 := (Below.trans (by go_grown) (b2.mono (by first | omega | (simp; done) | (simp; omega))))
  have c2 : Below w.heap.size w w2 := c1.trans (d2.mono c1.size)
  have r0_2 : w2.cell? ⟨w.heap.size + 1, 0, none⟩ = some (.int .i64 0) := (by rw [b2.cell (by first | omega | (simp; done) | (simp; omega))]; go_cell)
  have rf0_2 : w2.frozen? ⟨w.heap.size + 1, 0, none⟩ = false := (by rw [b2.frozen (by first | omega | (simp; done) | (simp; omega))]; (first | go_cell | (simp [World.frozen?, World.alloc]; done) | rfl))
  have r1_2 : w2.cell? ⟨w.heap.size + 1, 1, none⟩ = some (.int .i64 0) := (by rw [b2.cell (by first | omega | (simp; done) | (simp; omega))]; go_cell)
  have rf1_2 : w2.frozen? ⟨w.heap.size + 1, 1, none⟩ = false := (by rw [b2.frozen (by first | omega | (simp; done) | (simp; omega))]; (first | go_cell | (simp [World.frozen?, World.alloc]; done) | rfl))
  have r2_2 : w2.cell? ⟨w.heap.size + 1, 2, none⟩ = some (.int .i64 0) := (by rw [b2.cell (by first | omega | (simp; done) | (simp; omega))]; go_cell)
  have rf2_2 : w2.frozen? ⟨w.heap.size + 1, 2, none⟩ = false := (by rw [b2.frozen (by first | omega | (simp; done) | (simp; omega))]; (first | go_cell | (simp [World.frozen?, World.alloc]; done) | rfl))
  have r3_2 : w2.cell? ⟨w.heap.size + 1, 3, none⟩ = some (.bool false) := (by rw [b2.cell (by first | omega | (simp; done) | (simp; omega))]; go_cell)
  have rf3_2 : w2.frozen? ⟨w.heap.size + 1, 3, none⟩ = false := (by rw [b2.frozen (by first | omega | (simp; done) | (simp; omega))]; (first | go_cell | (simp [World.frozen?, World.alloc]; done) | rfl))
  have r4_2 : w2.cell? ⟨w.heap.size + 1, 4, none⟩ = some (.bool false) := (by rw [b2.cell (by first | omega | (simp; done) | (simp; omega))]; go_cell)
  have rf4_2 : w2.frozen? ⟨w.heap.size + 1, 4, none⟩ = false := (by rw [b2.frozen (by first | omega | (simp; done) | (simp; omega))]; (first | go_cell | (simp [World.frozen?, World.alloc]; done) | rfl))
  have r5_2 : w2.cell? ⟨w.heap.size + 1, 5, none⟩ = some (.bool false) := (by rw [b2.cell (by first | omega | (simp; done) | (simp; omega))]; go_cell)
  have rf5_2 : w2.frozen? ⟨w.heap.size + 1, 5, none⟩ = false := (by rw [b2.frozen (by first | omega | (simp; done) | (simp; omega))]; (first | go_cell | (simp [World.frozen?, World.alloc]; done) | rfl))
  have r6_2 : w2.cell? ⟨w.heap.size + 1, 6, none⟩ = some (.bool false) := (by rw [b2.cell (by first | omega | (simp; done) | (simp; omega))]; go_cell)
  have rf6_2 : w2.frozen? ⟨w.heap.size + 1, 6, none⟩ = false := (by rw [b2.frozen (by first | omega | (simp; done) | (simp; omega))]; (first | go_cell | (simp [World.frozen?, World.alloc]; done) | rfl))
  have r7_2 : w2.cell? ⟨w.heap.size + 1, 7, none⟩ = some (.int .i64 0) := (by rw [b2.cell (by first | omega | (simp; done) | (simp; omega))]; go_cell)
  have rf7_2 : w2.frozen? ⟨w.heap.size + 1, 7, none⟩ = false := (by rw [b2.frozen (by first | omega | (simp; done) | (simp; omega))]; (first | go_cell | (simp [World.frozen?, World.alloc]; done) | rfl))
  have r8_2 : w2.cell? ⟨w.heap.size + 1, 8, none⟩ = some (.int .i64 0) := (by rw [b2.cell (by first | omega | (simp; done) | (simp; omega))]; go_cell)
  have rf8_2 : w2.frozen? ⟨w.heap.size + 1, 8, none⟩ = false := (by rw [b2.frozen (by first | omega | (simp; done) | (simp; omega))]; (first | go_cell | (simp [World.frozen?, World.alloc]; done) | rfl))
  have r9_2 : w2.cell? ⟨w.heap.size + 1, 9, none⟩ = some (.int .i64 0) := (by rw [b2.cell (by first | omega | (simp; done) | (simp; omega))]; go_cell)
  have rf9_2 : w2.frozen? ⟨w.heap.size + 1, 9, none⟩ = false := (by rw [b2.frozen (by first | omega | (simp; done) | (simp; omega))]; (first | go_cell | (simp [World.frozen?, World.alloc]; done) | rfl))
  have r10_2 : w2.cell? ⟨w.heap.size + 1, 10, none⟩ = some (.int .i64 0) := (by rw [b2.cell (by first | omega | (simp; done) | (simp; omega))]; go_cell)
  have rf10_2 : w2.frozen? ⟨w.heap.size + 1, 10, none⟩ = false := (by rw [b2.frozen (by first | omega | (simp; done) | (simp; omega))]; (first | go_cell | (simp [World.frozen?, World.alloc]; done) | rfl))
  have r11_2 : w2.cell? ⟨w.heap.size + 1, 11, none⟩ = some (.int .i64 0) := (by rw [b2.cell (by first | omega | (simp; done) | (simp; omega))]; go_cell)
  have rf11_2 : w2.frozen? ⟨w.heap.size + 1, 11, none⟩ = false := (by rw [b2.frozen (by first | omega | (simp; done) | (simp; omega))]; (first | go_cell | (simp [World.frozen?, World.alloc]; done) | rfl))
  have r12_2 : w2.cell? ⟨w.heap.size + 1, 12, none⟩ = some (.slice none 0 0) := (by rw [b2.cell (by first | omega | (simp; done) | (simp; omega))]; go_cell)
  have rf12_2 : w2.frozen? ⟨w.heap.size + 1, 12, none⟩ = false := (by rw [b2.frozen (by first | omega | (simp; done) | (simp; omega))]; (first | go_cell | (simp [World.frozen?, World.alloc]; done) | rfl))
  have r13_2 : w2.cell? ⟨w.heap.size + 1, 13, none⟩ = some (.slice none 0 0) := (by rw [b2.cell (by first | omega | (simp; done) | (simp; omega))]; go_cell)
  have rf13_2 : w2.frozen? ⟨w.heap.size + 1, 13, none⟩ = false := (by rw [b2.frozen (by first | omega | (simp; done) | (simp; omega))]; (first | go_cell | (simp [World.frozen?, World.alloc]; done) | rfl))
  have rl_2 : w.heap.size + 1 < w2.heap.size := (by have := b2.size; first | omega | (revert this; simp; done) | (revert this; simp; omega))
  clear r0_1 rf0_1 r1_1 rf1_1 r2_1 rf2_1 r3_1 rf3_1 r4_1 rf4_1 r5_1 rf5_1 r6_1 rf6_1 r7_1 rf7_1 r8_1 rf8_1 r9_1 rf9_1 r10_1 rf10_1 r11_1 rf11_1 r12_1 rf12_1 r13_1 rf13_1 rl_1
  clear b2 d2 ho hf hg0 hg1
  go_upto_region 2 with fail
  generalize hW3 : (w2.alloc (.cells #[.int .i64 n0, .int .i64 n1, .int .i64 n2, .bool p0, .bool p1, .bool p2, .bool p3, .int .i64 n3, .int .i64 n4, .int .i64 n5, .int .i64 n6, .int .i64 n7, .slice ua L0.length uc, .slice fo L1.length fc] 38)) = w3
  have n0_3 : w3.cell? ⟨w2.heap.size, 0, none⟩ = some (.int .i64 n0) := by subst hW3; go_cell
  have n1_3 : w3.cell? ⟨w2.heap.size, 1, none⟩ = some (.int .i64 n1) := by subst hW3; go_cell
  have n2_3 : w3.cell? ⟨w2.heap.size, 2, none⟩ = some (.int .i64 n2) := by subst hW3; go_cell
  have n3_3 : w3.cell? ⟨w2.heap.size, 3, none⟩ = some (.bool p0) := by subst hW3; go_cell
  have n4_3 : w3.cell? ⟨w2.heap.size, 4, none⟩ = some (.bool p1) := by subst hW3; go_cell
  have n5_3 : w3.cell? ⟨w2.heap.size, 5, none⟩ = some (.bool p2) := by subst hW3; go_cell
  have n6_3 : w3.cell? ⟨w2.heap.size, 6, none⟩ = some (.bool p3) := by subst hW3; go_cell
  have n7_3 : w3.cell? ⟨w2.heap.size, 7, none⟩ = some (.int .i64 n3) := by subst hW3; go_cell
  have n8_3 : w3.cell? ⟨w2.heap.size, 8, none⟩ = some (.int .i64 n4) := by subst hW3; go_cell
  have n9_3 : w3.cell? ⟨w2.heap.size, 9, none⟩ = some (.int .i64 n5) := by subst hW3; go_cell
  have n10_3 : w3.cell? ⟨w2.heap.size, 10, none⟩ = some (.int .i64 n6) := by subst hW3; go_cell
  have n11_3 : w3.cell? ⟨w2.heap.size, 11, none⟩ = some (.int .i64 n7) := by subst hW3; go_cell
  have n12_3 : w3.cell? ⟨w2.heap.size, 12, none⟩ = some (.slice ua L0.length uc) := by subst hW3; go_cell
  have n13_3 : w3.cell? ⟨w2.heap.size, 13, none⟩ = some (.slice fo L1.length fc) := by subst hW3; go_cell
  have nl_3 : w2.heap.size < w3.heap.size := by subst hW3; simp
  have d3 : Below w2.heap.size w2 w3 := by subst hW3; go_grown
  clear hW3
  have c3 : Below w.heap.size w w3 := c2.trans (d3.mono c2.size)
  have r0_3 : w3.cell? ⟨w.heap.size + 1, 0, none⟩ = some (.int .i64 0) := (by rw [d3.cell (by first | omega | (simp; done) | (simp; omega))]; go_cell)
  have rf0_3 : w3.frozen? ⟨w.heap.size + 1, 0, none⟩ = false := (by rw [d3.frozen (by first | omega | (simp; done) | (simp; omega))]; (first | go_cell | (simp [World.frozen?, World.alloc]; done) | rfl))
  have r1_3 : w3.cell? ⟨w.heap.size + 1, 1, none⟩ = some (.int .i64 0) := (by rw [d3.cell (by first | omega | (simp; done) | (simp; omega))]; go_cell)
  have rf1_3 : w3.frozen? ⟨w.heap.size + 1, 1, none⟩ = false := (by rw [d3.frozen (by first | omega | (simp; done) | (simp; omega))]; (first | go_cell | (simp [World.frozen?, World.alloc]; done) | rfl))
  have r2_3 : w3.cell? ⟨w.heap.size + 1, 2, none⟩ = some (.int .i64 0) := (by rw [d3.cell (by first | omega | (simp; done) | (simp; omega))]; go_cell)
  have rf2_3 : w3.frozen? ⟨w.heap.size + 1, 2, none⟩ = false := (by rw [d3.frozen (by first | omega | (simp; done) | (simp; omega))]; (first | go_cell | (simp [World.frozen?, World.alloc]; done) | rfl))
  have r3_3 : w3.cell? ⟨w.heap.size + 1, 3, none⟩ = some (.bool false) := (by rw [d3.cell (by first | omega | (simp; done) | (simp; omega))]; go_cell)
  have rf3_3 : w3.frozen? ⟨w.heap.size + 1, 3, none⟩ = false := (by rw [d3.frozen (by first | omega | (simp; done) | (simp; omega))]; (first | go_cell | (simp [World.frozen?, World.alloc]; done) | rfl))
  have r4_3 : w3.cell? ⟨w.heap.size + 1, 4, none⟩ = some (.bool false) := (by rw [d3.cell (by first | omega | (simp; done) | (simp; omega))]; go_cell)
  have rf4_3 : w3.frozen? ⟨w.heap.size + 1, 4, none⟩ = false := (by rw [d3.frozen (by first | omega | (simp; done) | (simp; omega))]; (first | go_cell | (simp [World.frozen?, World.alloc]; done) | rfl))
  have r5_3 : w3.cell? ⟨w.heap.size + 1, 5, none⟩ = some (.bool false) := (by rw [d3.cell (by first | omega | (simp; done) | (simp; omega))]; go_cell)
  have rf5_3 : w3.frozen? ⟨w.heap.size + 1, 5, none⟩ = false := (by rw [d3.frozen (by first | omega | (simp; done) | (simp; omega))]; (first | go_cell | (simp [World.frozen?, World.alloc]; done) | rfl))
  have r6_3 : w3.cell? ⟨w.heap.size + 1, 6, none⟩ = some (.bool false) := (by rw [d3.cell (by first | omega | (simp; done) | (simp; omega))]; go_cell)
  have rf6_3 : w3.frozen? ⟨w.heap.size + 1, 6, none⟩ = false := (by rw [d3.frozen (by first | omega | (simp; done) | (simp; omega))]; (first | go_cell | (simp [World.frozen?, World.alloc]; done) | rfl))
  have r7_3 : w3.cell? ⟨w.heap.size + 1, 7, none⟩ = some (.int .i64 0) := (by rw [d3.cell (by first | omega | (simp; done) | (simp; omega))]; go_cell)
  have rf7_3 : w3.frozen? ⟨w.heap.size + 1, 7, none⟩ = false := (by rw [d3.frozen (by first | omega | (simp; done) | (simp; omega))]; (first | go_cell | (simp [World.frozen?, World.alloc]; done) | rfl))
  have r8_3 : w3.cell? ⟨w.heap.size + 1, 8, none⟩ = some (.int .i64 0) := (by rw [d3.cell (by first | omega | (simp; done) | (simp; omega))]; go_cell)
  have rf8_3 : w3.frozen? ⟨w.heap.size + 1, 8, none⟩ = false := (by rw [d3.frozen (by first | omega | (simp; done) | (simp; omega))]; (first | go_cell | (simp [World.frozen?, World.alloc]; done) | rfl))
  have r9_3 : w3.cell? ⟨w.heap.size + 1, 9, none⟩ = some (.int .i64 0) := (by rw [d3.cell (by first | omega | (simp; done) | (simp; omega))]; go_cell)
  have rf9_3 : w3.frozen? ⟨w.heap.size + 1, 9, none⟩ = false := (by rw [d3.frozen (by first | omega | (simp; done) | (simp; omega))]; (first | go_cell | (simp [World.frozen?, World.alloc]; done) | rfl))
  have r10_3 : w3.cell? ⟨w.heap.size + 1, 10, none⟩ = some (.int .i64 0) := (by rw [d3.cell (by first | omega | (simp; done) | (simp; omega))]; go_cell)
  have rf10_3 : w3.frozen? ⟨w.heap.size + 1, 10, none⟩ = false := (by rw [d3.frozen (by first | omega | (simp; done) | (simp; omega))]; (first | go_cell | (simp [World.frozen?, World.alloc]; done) | rfl))
  have r11_3 : w3.cell? ⟨w.heap.size + 1, 11, none⟩ = some (.int .i64 0) := (by rw [d3.cell (by first | omega | (simp; done) | (simp; omega))]; go_cell)
  have rf11_3 : w3.frozen? ⟨w.heap.size + 1, 11, none⟩ = false := (by rw [d3.frozen (by first | omega | (simp; done) | (simp; omega))]; (first | go_cell | (simp [World.frozen?, World.alloc]; done) | rfl))
  have r12_3 : w3.cell? ⟨w.heap.size + 1, 12, none⟩ = some (.slice none 0 0) := (by rw [d3.cell (by first | omega | (simp; done) | (simp; omega))]; go_cell)
  have rf12_3 : w3.frozen? ⟨w.heap.size + 1, 12, none⟩ = false := (by rw [d3.frozen (by first | omega | (simp; done) | (simp; omega))]; (first | go_cell | (simp [World.frozen?, World.alloc]; done) | rfl))
  have r13_3 : w3.cell? ⟨w.heap.size + 1, 13, none⟩ = some (.slice none 0 0) := (by rw [d3.cell (by first | omega | (simp; done) | (simp; omega))]; go_cell)
  have rf13_3 : w3.frozen? ⟨w.heap.size + 1, 13, none⟩ = false := (by rw [d3.frozen (by first | omega | (simp; done) | (simp; omega))]; (first | go_cell | (simp [World.frozen?, World.alloc]; done) | rfl))
  have rl_3 : w.heap.size + 1 < w3.heap.size := (by have := d3.size; omega)
  clear r0_2 rf0_2 r1_2 rf1_2 r2_2 rf2_2 r3_2 rf3_2 r4_2 rf4_2 r5_2 rf5_2 r6_2 rf6_2 r7_2 rf7_2 r8_2 rf8_2 r9_2 rf9_2 r10_2 rf10_2 r11_2 rf11_2 r12_2 rf12_2 r13_2 rf13_2 rl_2
  have HG3 : Hid (w1.heap.size ≤ g ∧ g < w3.heap.size) := hid ⟨HG.out.1, Nat.lt_of_lt_of_le HG.out.2 d3.size⟩
  have HO3 : Hid (OwnM 84 4 3 true w3 (Span (g + 1) w3.heap.size) (.slice ua L0.length uc) L0) := hid ((HO.out.later d3).mono (fun b hb _ => ⟨hb.1, Nat.lt_of_lt_of_le hb.2 d3.size⟩))
  have HF3 := hid (HF.out.later d3)
  have HGR := hid (show w.heap.size + 1 < g from Nat.lt_of_lt_of_le hr1 HG.out.1)
  have V3 : Hid (VarAt w3 (w.heap.size + 1) [.int .i64 0, .int .i64 0, .int .i64 0, .bool false, .bool false, .bool false, .bool false, .int .i64 0, .int .i64 0, .int .i64 0, .int .i64 0, .int .i64 0, .slice none 0 0, .slice none 0 0]) := hid ⟨rl_3, fun i v hv => by
    match i, hv with
    | 0, hv => cases hv; exact ⟨r0_3, rf0_3⟩
    | 1, hv => cases hv; exact ⟨r1_3, rf1_3⟩
    | 2, hv => cases hv; exact ⟨r2_3, rf2_3⟩
    | 3, hv => cases hv; exact ⟨r3_3, rf3_3⟩
    | 4, hv => cases hv; exact ⟨r4_3, rf4_3⟩
    | 5, hv => cases hv; exact ⟨r5_3, rf5_3⟩
    | 6, hv => cases hv; exact ⟨r6_3, rf6_3⟩
    | 7, hv => cases hv; exact ⟨r7_3, rf7_3⟩
    | 8, hv => cases hv; exact ⟨r8_3, rf8_3⟩
    | 9, hv => cases hv; exact ⟨r9_3, rf9_3⟩
    | 10, hv => cases hv; exact ⟨r10_3, rf10_3⟩
    | 11, hv => cases hv; exact ⟨r11_3, rf11_3⟩
    | 12, hv => cases hv; exact ⟨r12_3, rf12_3⟩
    | 13, hv => cases hv; exact ⟨r13_3, rf13_3⟩⟩
  clear d3
  go_wp2
  have HC := (cutB_store HGR.out (Nat.le_succ _) 13 (by simp) (.slice fo L1.length fc) (cutB_store HGR.out (Nat.le_succ _) 12 (by simp) (.slice ua L0.length uc) (cutB_store HGR.out (Nat.le_succ _) 11 (by simp) (.int .i64 n7) (cutB_store HGR.out (Nat.le_succ _) 10 (by simp) (.int .i64 n6) (cutB_store HGR.out (Nat.le_succ _) 9 (by simp) (.int .i64 n5) (cutB_store HGR.out (Nat.le_succ _) 8 (by simp) (.int .i64 n4) (cutB_store HGR.out (Nat.le_succ _) 7 (by simp) (.int .i64 n3) (cutB_store HGR.out (Nat.le_succ _) 6 (by simp) (.bool p3) (cutB_store HGR.out (Nat.le_succ _) 5 (by simp) (.bool p2) (cutB_store HGR.out (Nat.le_succ _) 4 (by simp) (.bool p1) (cutB_store HGR.out (Nat.le_succ _) 3 (by simp) (.bool p0) (cutB_store HGR.out (Nat.le_succ _) 2 (by simp) (.int .i64 n2) (cutB_store HGR.out (Nat.le_succ _) 1 (by simp) (.int .i64 n1) (cutB_store HGR.out (Nat.le_succ _) 0 (by simp) (.int .i64 n0) ⟨V3.out, HG3.out.2, HO3.out, HF3.out, c3⟩))))))))))))))
  have e0 := HC.1.c 0 rfl
  have e1 := HC.1.c 1 rfl
  have e2 := HC.1.c 2 rfl
  have e3 := HC.1.c 3 rfl
  have e4 := HC.1.c 4 rfl
  have e5 := HC.1.c 5 rfl
  have e6 := HC.1.c 6 rfl
  have e7 := HC.1.c 7 rfl
  have e8 := HC.1.c 8 rfl
  have e9 := HC.1.c 9 rfl
  have e10 := HC.1.c 10 rfl
  have e11 := HC.1.c 11 rfl
  have e12 := HC.1.c 12 rfl
  have e13 := HC.1.c 13 rfl
  have HCC := hid HC.2
  clear HC
  exact bodyPost_ret (v := .agg #[.int .i64 n0, .int .i64 n1, .int .i64 n2, .bool p0, .bool p1, .bool p2, .bool p3, .int .i64 n3, .int .i64 n4, .int .i64 n5, .int .i64 n6, .int .i64 n7, .slice ua L0.length uc, .slice fo L1.length fc]) (by simp [results, Tryz.results29, go_sem, e0, e1, e2, e3, e4, e5, e6, e7, e8, e9, e10, e11, e12, e13]) rfl ⟨⟨ua, uc, fo, fc, g, rfl, Nat.le_of_succ_le (Nat.le_of_lt HGR.out), HCC.out.1, HCC.out.2.1, HCC.out.2.2.1⟩, HCC.out.2.2.2⟩
theorem askR_rd {q2 : Bool} {i3 i4 i5 i6 i7 i2 : Int} (h : askR q2 true i3 i4 i5 i6 i7 i2 = true) : q2 = true ∧ i4 = 0 ∧ i5 = 0 ∧ i6 = 0 ∧ i7 = 0 := by
  simp only [askR, cond_true, Bool.and_eq_true] at h
  exact ⟨h.1.1.1, zO_yes h.1.2⟩
theorem askR_wr {i3 i4 i5 i6 i7 i2 : Int} (h : askR true false i3 i4 i5 i6 i7 i2 = true) : i3 = 0 := by
  simp only [askR, cond_true, cond_false, Bool.and_eq_true, decide_eq_true_eq] at h
  exact h.1.1
theorem askR_no {i3 i4 i5 i6 i7 i2 : Int} (h : askR false false i3 i4 i5 i6 i7 i2 = true) : i3 = 0 ∧ i4 = 0 ∧ i5 = 0 ∧ i6 = 0 ∧ i7 = 0 := by
  simp only [askR, cond_false, Bool.and_eq_true, decide_eq_true_eq] at h
  exact ⟨h.1, zO_yes h.2⟩
/-- A tier that was answered, as its scalars. -/
abbrev scD (D : TD) : List Value := [.int .i64 D.i0, .int .i64 D.i1, .int .i64 D.i2, .bool D.q0, .bool D.q1, .bool D.q2, .bool D.q3, .int .i64 D.i3, .int .i64 D.i4, .int .i64 D.i5, .int .i64 D.i6, .int .i64 D.i7]
theorem implTFall_any (i0 i1 i2 : Int) (q0 q1 q2 q3 : Bool) (i3 i4 i5 i6 i7 : Int) (va0 va1 : Value) (I F : List KD) (w : World) (ha : RSCache w va0 va1 I F) {D : TD} (hD : ansTF i0 i1 i2 q0 q1 q2 q3 i3 i4 i5 i6 i7 I F = D) :
    Calls Tryz.prog 29 #[.agg #[.int .i64 i0, .int .i64 i1, .int .i64 i2, .bool q0, .bool q1, .bool q2, .bool q3, .int .i64 i3, .int .i64 i4, .int .i64 i5, .int .i64 i6, .int .i64 i7, va0, va1]] w fun e w' => EndT w.heap.size w' (scD D) D.I D.F e ∧ Below w.heap.size w w' := by
  cases hT : okT i0 i1 i2 q0 q1 q2 q3 i3 i4 i5 i6 i7 I F with
  | false =>
    have hE : D = zTD := by rw [← hD, ansTF, hT]; rfl
    subst hE
    exact implTFall_by i0 i1 i2 q0 q1 q2 q3 i3 i4 i5 i6 i7 va0 va1 I F 0 0 0 false false false false 0 0 0 0 0 [] [] w ha (fun W v0 v1 hR => bT_no i0 i1 i2 q0 q1 q2 q3 i3 i4 i5 i6 i7 v0 v1 I F W hR hT)
  | true =>
    have hP := okT_parts hT
    by_cases hi : i1 = 1000
    · have hE : D = ⟨i0, i1, i2, q0, q1, q2, q3, i3, i4, i5, i6, i7, I, F⟩ := by rw [← hD, ansTF, hT, if_pos hi]; rfl
      subst hE
      have hk := hP.2.2.2.2.2.2.2
      have hn : ¬ i1 < 1000 := by omega
      cases q3 with
      | true =>
        obtain ⟨rfl, rfl, rfl, rfl, rfl⟩ := askR_rd hk
        exact implTFall_by i0 i1 i2 q0 q1 true true i3 0 0 0 0 va0 va1 I F i0 i1 i2 q0 q1 true true i3 0 0 0 0 I F w ha (fun W v0 v1 hR => bTFall_max_rd i0 i1 i2 q0 q1 true true i3 0 0 0 0 v0 v1 I F W hR hT hn (fun W => waitOf_rd _ _ _ _ _ _ W))
      | false =>
        cases q2 with
        | true =>
          obtain rfl := askR_wr hk
          exact implTFall_by i0 i1 i2 q0 q1 true false 0 i4 i5 i6 i7 va0 va1 I F i0 i1 i2 q0 q1 true false 0 i4 i5 i6 i7 I F w ha (fun W v0 v1 hR => bTFall_max_wr i0 i1 i2 q0 q1 true false 0 i4 i5 i6 i7 v0 v1 I F W hR hT hn (fun W => waitOf_wr _ _ _ _ _ W))
        | false =>
          obtain ⟨rfl, rfl, rfl, rfl, rfl⟩ := askR_no hk
          exact implTFall_by i0 i1 i2 q0 q1 false false 0 0 0 0 0 va0 va1 I F i0 i1 i2 q0 q1 false false 0 0 0 0 0 I F w ha (fun W v0 v1 hR => bTFall_max_no i0 i1 i2 q0 q1 false false 0 0 0 0 0 v0 v1 I F W hR hT hn (fun W => waitOf_no _ _ _ _ _ W))
    · have hE : D = ⟨i0, i1 + 1, 0, false, false, false, false, 0, 0, 0, 0, 0, [], zeroF⟩ := by rw [← hD, ansTF, hT, if_neg hi]; rfl
      subst hE
      have hlt : i1 < 1000 := by have := hP.2.1; omega
      refine implTFall_by i0 i1 i2 q0 q1 q2 q3 i3 i4 i5 i6 i7 va0 va1 I F i0 (i1 + 1) 0 false false false false 0 0 0 0 0 [] zeroF w ha (fun W v0 v1 hR => ?_)
      cases q3 with
      | true => exact bTFall_less i0 i1 i2 q0 q1 q2 true i3 i4 i5 i6 i7 v0 v1 I F _ _ W hR hT hlt (fun W => waitOf_rd _ _ _ _ _ _ W)
      | false =>
        cases q2 with
        | true => exact bTFall_less i0 i1 i2 q0 q1 true false i3 i4 i5 i6 i7 v0 v1 I F _ _ W hR hT hlt (fun W => waitOf_wr _ _ _ _ _ W)
        | false => exact bTFall_less i0 i1 i2 q0 q1 false false i3 i4 i5 i6 i7 v0 v1 I F _ _ W hR hT hlt (fun W => waitOf_no _ _ _ _ _ W)
end Go.Proofs.YtddpoheoecafjaaGreat
