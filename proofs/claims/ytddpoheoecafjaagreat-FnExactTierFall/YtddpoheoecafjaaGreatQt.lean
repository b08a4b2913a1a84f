/- spec.TierFall: contract. Written by a program (gqg.py). -/
import Derived.Test.YtddpoheoecafjaaGreatQh
import Derived.Deep.RegionHeld3
namespace Go.Proofs.YtddpoheoecafjaaGreat
open Go.RowKit
attribute [local go_sem ↓] Go.wp_at_zero Go.wp_at_succ

/-- An answer that is a tier, its cache as it reads. -/
def EndRT (w' : World) (D : TD) (e : Ending) : Prop := ∃ v0 v1, e = .returned (.agg #[.int .i64 D.i0, .int .i64 D.i1, .int .i64 D.i2, .bool D.q0, .bool D.q1, .bool D.q2, .bool D.q3, .int .i64 D.i3, .int .i64 D.i4, .int .i64 D.i5, .int .i64 D.i6, .int .i64 D.i7, v0, v1]) ∧ RSCache w' v0 v1 D.I D.F
theorem row_zero {w : World} {g : Nat} (h : RowN w g 0 (fun _ => 0)) (hg : g < w.heap.size) : RSCache w (.slice none 0 0) (.slice (some ⟨g, 0, none⟩) 24 24) [] zeroF := ⟨RdM.nil _ none 0, by
  have := h.rd hg
  rwa [show ((List.range 24).map fun i => (([(fun (_ : Nat) => (0 : Int)) i], []) : KD)) = zeroF from by decide] at this⟩
set_option maxRecDepth 100000 in
set_option maxHeartbeats 4000000 in
theorem specTFall_any (i0 i1 i2 : Int) (q0 q1 q2 q3 : Bool) (i3 i4 i5 i6 i7 : Int) (va0 va1 : Value) (I F : List KD) (w : World) (ha : RSCache w va0 va1 I F) {D : TD} (hD : ansTF i0 i1 i2 q0 q1 q2 q3 i3 i4 i5 i6 i7 I F = D) :
    Calls Tryz.prog 28 #[.agg #[.int .i64 i0, .int .i64 i1, .int .i64 i2, .bool q0, .bool q1, .bool q2, .bool q3, .int .i64 i3, .int .i64 i4, .int .i64 i5, .int .i64 i6, .int .i64 i7, va0, va1]] w fun e w' => EndRT w' D e ∧ Below w.heap.size w w' := by
  have HA := hid ha
  obtain ⟨ao0, ao1, ac0, ac1, rfl, rfl⟩ := ha.open
  clear ha
  cases hT : okT i0 i1 i2 q0 q1 q2 q3 i3 i4 i5 i6 i7 I F with
  | false =>
    have hE : D = zTD := by rw [← hD, ansTF, hT]; rfl
    subst hE
    have HT := hid hT
    clear hT hD
    go_enter Tryz.func28, Tryz.ntmps28
    go_wp2_with fail
    generalize hW1 : ((w.alloc (.cells #[.int .i64 i0, .int .i64 i1, .int .i64 i2, .bool q0, .bool q1, .bool q2, .bool q3, .int .i64 i3, .int .i64 i4, .int .i64 i5, .int .i64 i6, .int .i64 i7, .slice ao0 I.length ac0, .slice ao1 F.length ac1] 38)).alloc (.cells #[.int .i64 0, .int .i64 0, .int .i64 0, .bool false, .bool false, .bool false, .bool false, .int .i64 0, .int .i64 0, .int .i64 0, .int .i64 0, .int .i64 0, .slice none 0 0, .slice none 0 0] 38)) = w1
    have a0_1 : w1.cell? ⟨w.heap.size, 0, none⟩ = some (.int .i64 i0) := by subst hW1; go_cell
    have a1_1 : w1.cell? ⟨w.heap.size, 1, none⟩ = some (.int .i64 i1) := by subst hW1; go_cell
    have a2_1 : w1.cell? ⟨w.heap.size, 2, none⟩ = some (.int .i64 i2) := by subst hW1; go_cell
    have a3_1 : w1.cell? ⟨w.heap.size, 3, none⟩ = some (.bool q0) := by subst hW1; go_cell
    have a4_1 : w1.cell? ⟨w.heap.size, 4, none⟩ = some (.bool q1) := by subst hW1; go_cell
    have a5_1 : w1.cell? ⟨w.heap.size, 5, none⟩ = some (.bool q2) := by subst hW1; go_cell
    have a6_1 : w1.cell? ⟨w.heap.size, 6, none⟩ = some (.bool q3) := by subst hW1; go_cell
    have a7_1 : w1.cell? ⟨w.heap.size, 7, none⟩ = some (.int .i64 i3) := by subst hW1; go_cell
    have a8_1 : w1.cell? ⟨w.heap.size, 8, none⟩ = some (.int .i64 i4) := by subst hW1; go_cell
    have a9_1 : w1.cell? ⟨w.heap.size, 9, none⟩ = some (.int .i64 i5) := by subst hW1; go_cell
    have a10_1 : w1.cell? ⟨w.heap.size, 10, none⟩ = some (.int .i64 i6) := by subst hW1; go_cell
    have a11_1 : w1.cell? ⟨w.heap.size, 11, none⟩ = some (.int .i64 i7) := by subst hW1; go_cell
    have a12_1 : w1.cell? ⟨w.heap.size, 12, none⟩ = some (.slice ao0 I.length ac0) := by subst hW1; go_cell
    have a13_1 : w1.cell? ⟨w.heap.size, 13, none⟩ = some (.slice ao1 F.length ac1) := by subst hW1; go_cell
    have al_1 : w.heap.size < w1.heap.size := by subst hW1; first | (simp; done) | (simp; omega)
    have r0_1 : w1.cell? ⟨w.heap.size + 1, 0, none⟩ = some (.int .i64 0) := by subst hW1; go_cell
    have rf0_1 : w1.frozen? ⟨w.heap.size + 1, 0, none⟩ = false := by subst hW1; (first | go_cell | (simp [World.frozen?, World.alloc]; done) | rfl)
    have r1_1 : w1.cell? ⟨w.heap.size + 1, 1, none⟩ = some (.int .i64 0) := by subst hW1; go_cell
    have rf1_1 : w1.frozen? ⟨w.heap.size + 1, 1, none⟩ = false := by subst hW1; (first | go_cell | (simp [World.frozen?, World.alloc]; done) | rfl)
    have r2_1 : w1.cell? ⟨w.heap.size + 1, 2, none⟩ = some (.int .i64 0) := by subst hW1; go_cell
    have rf2_1 : w1.frozen? ⟨w.heap.size + 1, 2, none⟩ = false := by subst hW1; (first | go_cell | (simp [World.frozen?, World.alloc]; done) | rfl)
    have r3_1 : w1.cell? ⟨w.heap.size + 1, 3, none⟩ = some (.bool false) := by subst hW1; go_cell
    have rf3_1 : w1.frozen? ⟨w.heap.size + 1, 3, none⟩ = false := by subst hW1; (first | go_cell | (simp [World.frozen?, World.alloc]; done) | rfl)
    have r4_1 : w1.cell? ⟨w.heap.size + 1, 4, none⟩ = some (.bool false) := by subst hW1; go_cell
    have rf4_1 : w1.frozen? ⟨w.heap.size + 1, 4, none⟩ = false := by subst hW1; (first | go_cell | (simp [World.frozen?, World.alloc]; done) | rfl)
    have r5_1 : w1.cell? ⟨w.heap.size + 1, 5, none⟩ = some (.bool false) := by subst hW1; go_cell
    have rf5_1 : w1.frozen? ⟨w.heap.size + 1, 5, none⟩ = false := by subst hW1; (first | go_cell | (simp [World.frozen?, World.alloc]; done) | rfl)
    have r6_1 : w1.cell? ⟨w.heap.size + 1, 6, none⟩ = some (.bool false) := by subst hW1; go_cell
    have rf6_1 : w1.frozen? ⟨w.heap.size + 1, 6, none⟩ = false := by subst hW1; (first | go_cell | (simp [World.frozen?, World.alloc]; done) | rfl)
    have r7_1 : w1.cell? ⟨w.heap.size + 1, 7, none⟩ = some (.int .i64 0) := by subst hW1; go_cell
    have rf7_1 : w1.frozen? ⟨w.heap.size + 1, 7, none⟩ = false := by subst hW1; (first | go_cell | (simp [World.frozen?, World.alloc]; done) | rfl)
    have r8_1 : w1.cell? ⟨w.heap.size + 1, 8, none⟩ = some (.int .i64 0) := by subst hW1; go_cell
    have rf8_1 : w1.frozen? ⟨w.heap.size + 1, 8, none⟩ = false := by subst hW1; (first | go_cell | (simp [World.frozen?, World.alloc]; done) | rfl)
    have r9_1 : w1.cell? ⟨w.heap.size + 1, 9, none⟩ = some (.int .i64 0) := by subst hW1; go_cell
    have rf9_1 : w1.frozen? ⟨w.heap.size + 1, 9, none⟩ = false := by subst hW1; (first | go_cell | (simp [World.frozen?, World.alloc]; done) | rfl)
    have r10_1 : w1.cell? ⟨w.heap.size + 1, 10, none⟩ = some (.int .i64 0) := by subst hW1; go_cell
    have rf10_1 : w1.frozen? ⟨w.heap.size + 1, 10, none⟩ = false := by subst hW1; (first | go_cell | (simp [World.frozen?, World.alloc]; done) | rfl)
    have r11_1 : w1.cell? ⟨w.heap.size + 1, 11, none⟩ = some (.int .i64 0) := by subst hW1; go_cell
    have rf11_1 : w1.frozen? ⟨w.heap.size + 1, 11, none⟩ = false := by subst hW1; (first | go_cell | (simp [World.frozen?, World.alloc]; done) | rfl)
    have r12_1 : w1.cell? ⟨w.heap.size + 1, 12, none⟩ = some (.slice none 0 0) := by subst hW1; go_cell
    have rf12_1 : w1.frozen? ⟨w.heap.size + 1, 12, none⟩ = false := by subst hW1; (first | go_cell | (simp [World.frozen?, World.alloc]; done) | rfl)
    have r13_1 : w1.cell? ⟨w.heap.size + 1, 13, none⟩ = some (.slice none 0 0) := by subst hW1; go_cell
    have rf13_1 : w1.frozen? ⟨w.heap.size + 1, 13, none⟩ = false := by subst hW1; (first | go_cell | (simp [World.frozen?, World.alloc]; done) | rfl)
    have rl_1 : w.heap.size + 1 < w1.heap.size := by subst hW1; first | (simp; done) | (simp; omega)
    have c1 : Below w.heap.size w w1 := by subst hW1; go_grown
    have s1 : w1.heap.size = w.heap.size + 2 := by subst hW1; simp
    clear hW1
    have qa0_1 := cell_regrown a0_1
    have qa1_1 := cell_regrown a1_1
    have qa2_1 := cell_regrown a2_1
    have qa3_1 := cell_regrown a3_1
    have qa4_1 := cell_regrown a4_1
    have qa5_1 := cell_regrown a5_1
    have qa6_1 := cell_regrown a6_1
    have qa7_1 := cell_regrown a7_1
    have qa8_1 := cell_regrown a8_1
    have qa9_1 := cell_regrown a9_1
    have qa10_1 := cell_regrown a10_1
    have qa11_1 := cell_regrown a11_1
    have qa12_1 := cell_regrown a12_1
    have qa13_1 := cell_regrown a13_1
    have qr0_1 := cell_regrown r0_1
    have qr1_1 := cell_regrown r1_1
    have qr2_1 := cell_regrown r2_1
    have qr3_1 := cell_regrown r3_1
    have qr4_1 := cell_regrown r4_1
    have qr5_1 := cell_regrown r5_1
    have qr6_1 := cell_regrown r6_1
    have qr7_1 := cell_regrown r7_1
    have qr8_1 := cell_regrown r8_1
    have qr9_1 := cell_regrown r9_1
    have qr10_1 := cell_regrown r10_1
    have qr11_1 := cell_regrown r11_1
    have qr12_1 := cell_regrown r12_1
    have qr13_1 := cell_regrown r13_1
    refine (specTOk_is HT.out _ (HA.out.later c1)).mono ?_
    rintro e w2 ⟨rfl, b2⟩
    have d2 : Below w1.heap.size w1 w2 := (Below.trans (by go_grown) (b2.mono (by first | omega | (simp; done) | (simp; omega))))
    have c2 : Below w.heap.size w w2 := c1.trans (d2.mono c1.size)
    have r0_2 : w2.cell? ⟨w.heap.size + 1, 0, none⟩ = some (.int .i64 0) := (by rw [b2.cell (by first | omega | (simp; done) | (simp; omega))]; go_cell)
    have rf0_2 : w2.frozen? ⟨w.heap.size + 1, 0, none⟩ = false := (by rw [b2.frozen (by first | omega | (simp; done) | (simp; omega))]; (first | go_cell | (simp [World.frozen?, World.alloc]; done) | rfl))
    have r1_2 : w2.cell? ⟨w.heap.size + 1, 1, none⟩ = some (.int .i64 0) := (by rw [b2.cell (by first | omega | (simp; done) | (simp; omega))]; go_cell)
    have rf1_2 : w2.frozen? ⟨w.heap.size + 1, 1, none⟩ = false := (by rw [b2.frozen (by first | omega | (simp; done) | (simp; omega))]; (first | go_cell | (simp [World.frozen?, World.alloc]; done) | rfl))
    have r2_2 : w2.cell? ⟨w.heap.size + 1, 2, none⟩ = some (.int .i64 0) := (by rw [b2.cell (by first | omega | (simp; done) | (simp; omega))]; go_cell)
    have rf2_2 : w2.frozen? ⟨w.heap.size + 1, 2, none⟩ = false := (by rw [b2.frozen (by first | omega | (simp; done) | (simp; omega))]; (first | go_cell | (simp [World.frozen?, World.alloc]; done) | rfl))
    have r3_2 : w2.cell? ⟨w.heap.size + 1, 3, none⟩ = some (.bool false) := (by rw [b2.cell (by first | omega | (simp; done) | (simp; omega))]; go_cell)
    have rf3_2 : w2.frozen? ⟨w.heap.size + 1, 3, none⟩ = false := (by rw [b2.frozen (by first | omega | (simp; done) | (simp; omega))]; (first | go_cell | (simp [World.frozen?, World.alloc]; done) | rfl))
    have r4_2 : w2.cell? ⟨w.heap.size + 1, 4, none⟩ = some (.bool false) := (by rw [b2.cell (by first | omega | (simp; done) | (simp; omega))]; go_cell)
    have rf4_2 : w2.frozen? ⟨w.heap.size + 1, 4, none⟩ = false := (by rw [b2.frozen (by first | omega | (simp; done) | (simp; omega))]; (first | go_cell | (simp [World.frozen?, World.alloc]; done) | rfl))
    have r5_2 : w2.cell? ⟨w.heap.size + 1, 5, none⟩ = some (.bool false) := (by rw [b2.cell (by first | omega | (simp; done) | (simp; omega))]; go_cell)
    have rf5_2 : w2.frozen? ⟨w.heap.size + 1, 5, none⟩ = false := (by rw [b2.frozen (by first | omega | (simp; done) | (simp; omega))]; (first | go_cell | (simp [World.frozen?, World.alloc]; done) | rfl))
    have r6_2 : w2.cell? ⟨w.heap.size + 1, 6, none⟩ = some (.bool false) := (by rw [b2.cell (by first | omega | (simp; done) | (simp; omega))]; go_cell)
    have rf6_2 : w2.frozen? ⟨w.heap.size + 1, 6, none⟩ = false := (by rw [b2.frozen (by first | omega | (simp; done) | (simp; omega))]; (first | go_cell | (simp [World.frozen?, World.alloc]; done) | rfl))
    have r7_2 : w2.cell? ⟨w.heap.size + 1, 7, none⟩ = some (.int .i64 0) := (by rw [b2.cell (by first | omega | (simp; done) | (simp; omega))]; go_cell)
    have rf7_2 : w2.frozen? ⟨w.heap.size + 1, 7, none⟩ = false := (by rw [b2.frozen (by first | omega | (simp; done) | (simp; omega))]; (first | go_cell | (simp [World.frozen?, World.alloc]; done) | rfl))
    have r8_2 : w2.cell? ⟨w.heap.size + 1, 8, none⟩ = some (.int .i64 0) := (by rw [b2.cell (by first | omega | (simp; done) | (simp; omega))]; go_cell)
    have rf8_2 : w2.frozen? ⟨w.heap.size + 1, 8, none⟩ = false := (by rw [b2.frozen (by first | omega | (simp; done) | (simp; omega))]; (first | go_cell | (simp [World.frozen?, World.alloc]; done) | rfl))
    have r9_2 : w2.cell? ⟨w.heap.size + 1, 9, none⟩ = some (.int .i64 0) := (by rw [b2.cell (by first | omega | (simp; done) | (simp; omega))]; go_cell)
    have rf9_2 : w2.frozen? ⟨w.heap.size + 1, 9, none⟩ = false := (by rw [b2.frozen (by first | omega | (simp; done) | (simp; omega))]; (first | go_cell | (simp [World.frozen?, World.alloc]; done) | rfl))
    have r10_2 : w2.cell? ⟨w.heap.size + 1, 10, none⟩ = some (.int .i64 0) := (by rw [b2.cell (by first | omega | (simp; done) | (simp; omega))]; go_cell)
    have rf10_2 : w2.frozen? ⟨w.heap.size + 1, 10, none⟩ = false := (by rw [b2.frozen (by first | omega | (simp; done) | (simp; omega))]; (first | go_cell | (simp [World.frozen?, World.alloc]; done) | rfl))
    have r11_2 : w2.cell? ⟨w.heap.size + 1, 11, none⟩ = some (.int .i64 0) := (by rw [b2.cell (by first | omega | (simp; done) | (simp; omega))]; go_cell)
    have rf11_2 : w2.frozen? ⟨w.heap.size + 1, 11, none⟩ = false := (by rw [b2.frozen (by first | omega | (simp; done) | (simp; omega))]; (first | go_cell | (simp [World.frozen?, World.alloc]; done) | rfl))
    have r12_2 : w2.cell? ⟨w.heap.size + 1, 12, none⟩ = some (.slice none 0 0) := (by rw [b2.cell (by first | omega | (simp; done) | (simp; omega))]; go_cell)
    have rf12_2 : w2.frozen? ⟨w.heap.size + 1, 12, none⟩ = false := (by rw [b2.frozen (by first | omega | (simp; done) | (simp; omega))]; (first | go_cell | (simp [World.frozen?, World.alloc]; done) | rfl))
    have r13_2 : w2.cell? ⟨w.heap.size + 1, 13, none⟩ = some (.slice none 0 0) := (by rw [b2.cell (by first | omega | (simp; done) | (simp; omega))]; go_cell)
    have rf13_2 : w2.frozen? ⟨w.heap.size + 1, 13, none⟩ = false := (by rw [b2.frozen (by first | omega | (simp; done) | (simp; omega))]; (first | go_cell | (simp [World.frozen?, World.alloc]; done) | rfl))
    have rl_2 : w.heap.size + 1 < w2.heap.size := (by have := b2.size; first | omega | (revert this; simp; done) | (revert this; simp; omega))
    clear r0_1 rf0_1 r1_1 rf1_1 r2_1 rf2_1 r3_1 rf3_1 r4_1 rf4_1 r5_1 rf5_1 r6_1 rf6_1 r7_1 rf7_1 r8_1 rf8_1 r9_1 rf9_1 r10_1 rf10_1 r11_1 rf11_1 r12_1 rf12_1 r13_1 rf13_1 rl_1
    clear b2 d2
    go_wp2
    have HB := ((((((((((((((c2.setCell (p := ⟨w.heap.size + 1, 0, none⟩) (by show w.heap.size ≤ w.heap.size + 1; omega) (.int .i64 0)).setCell (p := ⟨w.heap.size + 1, 1, none⟩) (by show w.heap.size ≤ w.heap.size + 1; omega) (.int .i64 0)).setCell (p := ⟨w.heap.size + 1, 2, none⟩) (by show w.heap.size ≤ w.heap.size + 1; omega) (.int .i64 0)).setCell (p := ⟨w.heap.size + 1, 3, none⟩) (by show w.heap.size ≤ w.heap.size + 1; omega) (.bool false)).setCell (p := ⟨w.heap.size + 1, 4, none⟩) (by show w.heap.size ≤ w.heap.size + 1; omega) (.bool false)).setCell (p := ⟨w.heap.size + 1, 5, none⟩) (by show w.heap.size ≤ w.heap.size + 1; omega) (.bool false)).setCell (p := ⟨w.heap.size + 1, 6, none⟩) (by show w.heap.size ≤ w.heap.size + 1; omega) (.bool false)).setCell (p := ⟨w.heap.size + 1, 7, none⟩) (by show w.heap.size ≤ w.heap.size + 1; omega) (.int .i64 0)).setCell (p := ⟨w.heap.size + 1, 8, none⟩) (by show w.heap.size ≤ w.heap.size + 1; omega) (.int .i64 0)).setCell (p := ⟨w.heap.size + 1, 9, none⟩) (by show w.heap.size ≤ w.heap.size + 1; omega) (.int .i64 0)).setCell (p := ⟨w.heap.size + 1, 10, none⟩) (by show w.heap.size ≤ w.heap.size + 1; omega) (.int .i64 0)).setCell (p := ⟨w.heap.size + 1, 11, none⟩) (by show w.heap.size ≤ w.heap.size + 1; omega) (.int .i64 0)).setCell (p := ⟨w.heap.size + 1, 12, none⟩) (by show w.heap.size ≤ w.heap.size + 1; omega) (.slice none 0 0)).setCell (p := ⟨w.heap.size + 1, 13, none⟩) (by show w.heap.size ≤ w.heap.size + 1; omega) (.slice none 0 0))
    generalize hWF : ((((((((((((((w2.setCell ⟨w.heap.size + 1, 0, none⟩ (.int .i64 0)).setCell ⟨w.heap.size + 1, 1, none⟩ (.int .i64 0)).setCell ⟨w.heap.size + 1, 2, none⟩ (.int .i64 0)).setCell ⟨w.heap.size + 1, 3, none⟩ (.bool false)).setCell ⟨w.heap.size + 1, 4, none⟩ (.bool false)).setCell ⟨w.heap.size + 1, 5, none⟩ (.bool false)).setCell ⟨w.heap.size + 1, 6, none⟩ (.bool false)).setCell ⟨w.heap.size + 1, 7, none⟩ (.int .i64 0)).setCell ⟨w.heap.size + 1, 8, none⟩ (.int .i64 0)).setCell ⟨w.heap.size + 1, 9, none⟩ (.int .i64 0)).setCell ⟨w.heap.size + 1, 10, none⟩ (.int .i64 0)).setCell ⟨w.heap.size + 1, 11, none⟩ (.int .i64 0)).setCell ⟨w.heap.size + 1, 12, none⟩ (.slice none 0 0)).setCell ⟨w.heap.size + 1, 13, none⟩ (.slice none 0 0)) = wF at HB ⊢
    have e0 : wF.cell? ⟨w.heap.size + 1, 0, none⟩ = some (.int .i64 0) := by subst hWF; go_cell
    have e1 : wF.cell? ⟨w.heap.size + 1, 1, none⟩ = some (.int .i64 0) := by subst hWF; go_cell
    have e2 : wF.cell? ⟨w.heap.size + 1, 2, none⟩ = some (.int .i64 0) := by subst hWF; go_cell
    have e3 : wF.cell? ⟨w.heap.size + 1, 3, none⟩ = some (.bool false) := by subst hWF; go_cell
    have e4 : wF.cell? ⟨w.heap.size + 1, 4, none⟩ = some (.bool false) := by subst hWF; go_cell
    have e5 : wF.cell? ⟨w.heap.size + 1, 5, none⟩ = some (.bool false) := by subst hWF; go_cell
    have e6 : wF.cell? ⟨w.heap.size + 1, 6, none⟩ = some (.bool false) := by subst hWF; go_cell
    have e7 : wF.cell? ⟨w.heap.size + 1, 7, none⟩ = some (.int .i64 0) := by subst hWF; go_cell
    have e8 : wF.cell? ⟨w.heap.size + 1, 8, none⟩ = some (.int .i64 0) := by subst hWF; go_cell
    have e9 : wF.cell? ⟨w.heap.size + 1, 9, none⟩ = some (.int .i64 0) := by subst hWF; go_cell
    have e10 : wF.cell? ⟨w.heap.size + 1, 10, none⟩ = some (.int .i64 0) := by subst hWF; go_cell
    have e11 : wF.cell? ⟨w.heap.size + 1, 11, none⟩ = some (.int .i64 0) := by subst hWF; go_cell
    have e12 : wF.cell? ⟨w.heap.size + 1, 12, none⟩ = some (.slice none 0 0) := by subst hWF; go_cell
    have e13 : wF.cell? ⟨w.heap.size + 1, 13, none⟩ = some (.slice none 0 0) := by subst hWF; go_cell
    clear hWF
    exact bodyPost_ret (v := .agg #[.int .i64 0, .int .i64 0, .int .i64 0, .bool false, .bool false, .bool false, .bool false, .int .i64 0, .int .i64 0, .int .i64 0, .int .i64 0, .int .i64 0, .slice none 0 0, .slice none 0 0]) (by simp [results, Tryz.results28, go_sem, e0, e1, e2, e3, e4, e5, e6, e7, e8, e9, e10, e11, e12, e13]) rfl ⟨⟨_, _, rfl, ⟨RdM.nil _ none 0, RdM.nil _ none 0⟩⟩, HB⟩
  | true =>
    have HT := hid hT
    have HP := hid (okT_parts' hT)
    by_cases hi : i1 = 1000
    · have hE : D = ⟨i0, i1, i2, q0, q1, q2, q3, i3, i4, i5, i6, i7, I, F⟩ := by rw [← hD, ansTF, hT, if_pos hi]; rfl
      subst hE
      have HH := hid hi
      have hb : (i1 == 1000) = true := by simpa using hi
      clear hT hD hi
      go_enter Tryz.func28, Tryz.ntmps28
      go_wp2_with fail
      generalize hW1 : ((w.alloc (.cells #[.int .i64 i0, .int .i64 i1, .int .i64 i2, .bool q0, .bool q1, .bool q2, .bool q3, .int .i64 i3, .int .i64 i4, .int .i64 i5, .int .i64 i6, .int .i64 i7, .slice ao0 I.length ac0, .slice ao1 F.length ac1] 38)).alloc (.cells #[.int .i64 0, .int .i64 0, .int .i64 0, .bool false, .bool false, .bool false, .bool false, .int .i64 0, .int .i64 0, .int .i64 0, .int .i64 0, .int .i64 0, .slice none 0 0, .slice none 0 0] 38)) = w1
      have a0_1 : w1.cell? ⟨w.heap.size, 0, none⟩ = some (.int .i64 i0) := by subst hW1; go_cell
      have a1_1 : w1.cell? ⟨w.heap.size, 1, none⟩ = some (.int .i64 i1) := by subst hW1; go_cell
      have a2_1 : w1.cell? ⟨w.heap.size, 2, none⟩ = some (.int .i64 i2) := by subst hW1; go_cell
      have a3_1 : w1.cell? ⟨w.heap.size, 3, none⟩ = some (.bool q0) := by subst hW1; go_cell
      have a4_1 : w1.cell? ⟨w.heap.size, 4, none⟩ = some (.bool q1) := by subst hW1; go_cell
      have a5_1 : w1.cell? ⟨w.heap.size, 5, none⟩ = some (.bool q2) := by subst hW1; go_cell
      have a6_1 : w1.cell? ⟨w.heap.size, 6, none⟩ = some (.bool q3) := by subst hW1; go_cell
      have a7_1 : w1.cell? ⟨w.heap.size, 7, none⟩ = some (.int .i64 i3) := by subst hW1; go_cell
      have a8_1 : w1.cell? ⟨w.heap.size, 8, none⟩ = some (.int .i64 i4) := by subst hW1; go_cell
      have a9_1 : w1.cell? ⟨w.heap.size, 9, none⟩ = some (.int .i64 i5) := by subst hW1; go_cell
      have a10_1 : w1.cell? ⟨w.heap.size, 10, none⟩ = some (.int .i64 i6) := by subst hW1; go_cell
      have a11_1 : w1.cell? ⟨w.heap.size, 11, none⟩ = some (.int .i64 i7) := by subst hW1; go_cell
      have a12_1 : w1.cell? ⟨w.heap.size, 12, none⟩ = some (.slice ao0 I.length ac0) := by subst hW1; go_cell
      have a13_1 : w1.cell? ⟨w.heap.size, 13, none⟩ = some (.slice ao1 F.length ac1) := by subst hW1; go_cell
      have al_1 : w.heap.size < w1.heap.size := by subst hW1; first | (simp; done) | (simp; omega)
      have r0_1 : w1.cell? ⟨w.heap.size + 1, 0, none⟩ = some (.int .i64 0) := by subst hW1; go_cell
      have rf0_1 : w1.frozen? ⟨w.heap.size + 1, 0, none⟩ = false := by subst hW1; (first | go_cell | (simp [World.frozen?, World.alloc]; done) | rfl)
      have r1_1 : w1.cell? ⟨w.heap.size + 1, 1, none⟩ = some (.int .i64 0) := by subst hW1; go_cell
      have rf1_1 : w1.frozen? ⟨w.heap.size + 1, 1, none⟩ = false := by subst hW1; (first | go_cell | (simp [World.frozen?, World.alloc]; done) | rfl)
      have r2_1 : w1.cell? ⟨w.heap.size + 1, 2, none⟩ = some (.int .i64 0) := by subst hW1; go_cell
      have rf2_1 : w1.frozen? ⟨w.heap.size + 1, 2, none⟩ = false := by subst hW1; (first | go_cell | (simp [World.frozen?, World.alloc]; done) | rfl)
      have r3_1 : w1.cell? ⟨w.heap.size + 1, 3, none⟩ = some (.bool false) := by subst hW1; go_cell
      have rf3_1 : w1.frozen? ⟨w.heap.size + 1, 3, none⟩ = false := by subst hW1; (first | go_cell | (simp [World.frozen?, World.alloc]; done) | rfl)
      have r4_1 : w1.cell? ⟨w.heap.size + 1, 4, none⟩ = some (.bool false) := by subst hW1; go_cell
      have rf4_1 : w1.frozen? ⟨w.heap.size + 1, 4, none⟩ = false := by subst hW1; (first | go_cell | (simp [World.frozen?, World.alloc]; done) | rfl)
      have r5_1 : w1.cell? ⟨w.heap.size + 1, 5, none⟩ = some (.bool false) := by subst hW1; go_cell
      have rf5_1 : w1.frozen? ⟨w.heap.size + 1, 5, none⟩ = false := by subst hW1; (first | go_cell | (simp [World.frozen?, World.alloc]; done) | rfl)
      have r6_1 : w1.cell? ⟨w.heap.size + 1, 6, none⟩ = some (.bool false) := by subst hW1; go_cell
      have rf6_1 : w1.frozen? ⟨w.heap.size + 1, 6, none⟩ = false := by subst hW1; (first | go_cell | (simp [World.frozen?, World.alloc]; done) | rfl)
      have r7_1 : w1.cell? ⟨w.heap.size + 1, 7, none⟩ = some (.int .i64 0) := by subst hW1; go_cell
      have rf7_1 : w1.frozen? ⟨w.heap.size + 1, 7, none⟩ = false := by subst hW1; (first | go_cell | (simp [World.frozen?, World.alloc]; done) | rfl)
      have r8_1 : w1.cell? ⟨w.heap.size + 1, 8, none⟩ = some (.int .i64 0) := by subst hW1; go_cell
      have rf8_1 : w1.frozen? ⟨w.heap.size + 1, 8, none⟩ = false := by subst hW1; (first | go_cell | (simp [World.frozen?, World.alloc]; done) | rfl)
      have r9_1 : w1.cell? ⟨w.heap.size + 1, 9, none⟩ = some (.int .i64 0) := by subst hW1; go_cell
      have rf9_1 : w1.frozen? ⟨w.heap.size + 1, 9, none⟩ = false := by subst hW1; (first | go_cell | (simp [World.frozen?, World.alloc]; done) | rfl)
      have r10_1 : w1.cell? ⟨w.heap.size + 1, 10, none⟩ = some (.int .i64 0) := by subst hW1; go_cell
      have rf10_1 : w1.frozen? ⟨w.heap.size + 1, 10, none⟩ = false := by subst hW1; (first | go_cell | (simp [World.frozen?, World.alloc]; done) | rfl)
      have r11_1 : w1.cell? ⟨w.heap.size + 1, 11, none⟩ = some (.int .i64 0) := by subst hW1; go_cell
      have rf11_1 : w1.frozen? ⟨w.heap.size + 1, 11, none⟩ = false := by subst hW1; (first | go_cell | (simp [World.frozen?, World.alloc]; done) | rfl)
      have r12_1 : w1.cell? ⟨w.heap.size + 1, 12, none⟩ = some (.slice none 0 0) := by subst hW1; go_cell
      have rf12_1 : w1.frozen? ⟨w.heap.size + 1, 12, none⟩ = false := by subst hW1; (first | go_cell | (simp [World.frozen?, World.alloc]; done) | rfl)
      have r13_1 : w1.cell? ⟨w.heap.size + 1, 13, none⟩ = some (.slice none 0 0) := by subst hW1; go_cell
      have rf13_1 : w1.frozen? ⟨w.heap.size + 1, 13, none⟩ = false := by subst hW1; (first | go_cell | (simp [World.frozen?, World.alloc]; done) | rfl)
      have rl_1 : w.heap.size + 1 < w1.heap.size := by subst hW1; first | (simp; done) | (simp; omega)
      have c1 : Below w.heap.size w w1 := by subst hW1; go_grown
      have s1 : w1.heap.size = w.heap.size + 2 := by subst hW1; simp
      clear hW1
      have qa0_1 := cell_regrown a0_1
      have qa1_1 := cell_regrown a1_1
      have qa2_1 := cell_regrown a2_1
      have qa3_1 := cell_regrown a3_1
      have qa4_1 := cell_regrown a4_1
      have qa5_1 := cell_regrown a5_1
      have qa6_1 := cell_regrown a6_1
      have qa7_1 := cell_regrown a7_1
      have qa8_1 := cell_regrown a8_1
      have qa9_1 := cell_regrown a9_1
      have qa10_1 := cell_regrown a10_1
      have qa11_1 := cell_regrown a11_1
      have qa12_1 := cell_regrown a12_1
      have qa13_1 := cell_regrown a13_1
      have qr0_1 := cell_regrown r0_1
      have qr1_1 := cell_regrown r1_1
      have qr2_1 := cell_regrown r2_1
      have qr3_1 := cell_regrown r3_1
      have qr4_1 := cell_regrown r4_1
      have qr5_1 := cell_regrown r5_1
      have qr6_1 := cell_regrown r6_1
      have qr7_1 := cell_regrown r7_1
      have qr8_1 := cell_regrown r8_1
      have qr9_1 := cell_regrown r9_1
      have qr10_1 := cell_regrown r10_1
      have qr11_1 := cell_regrown r11_1
      have qr12_1 := cell_regrown r12_1
      have qr13_1 := cell_regrown r13_1
      refine (specTOk_is HT.out _ (HA.out.later c1)).mono ?_
      rintro e w2 ⟨rfl, b2⟩
      have d2 : Below w1.heap.size w1 w2 := (Below.trans (by go_grown) (b2.mono (by first | omega | (simp; done) | (simp; omega))))
      have c2 : Below w.heap.size w w2 := c1.trans (d2.mono c1.size)
      have a0_2 : w2.cell? ⟨w.heap.size, 0, none⟩ = some (.int .i64 i0) := (by rw [b2.cell (by first | omega | (simp; done) | (simp; omega))]; go_cell)
      have a1_2 : w2.cell? ⟨w.heap.size, 1, none⟩ = some (.int .i64 i1) := (by rw [b2.cell (by first | omega | (simp; done) | (simp; omega))]; go_cell)
      have a2_2 : w2.cell? ⟨w.heap.size, 2, none⟩ = some (.int .i64 i2) := (by rw [b2.cell (by first | omega | (simp; done) | (simp; omega))]; go_cell)
      have a3_2 : w2.cell? ⟨w.heap.size, 3, none⟩ = some (.bool q0) := (by rw [b2.cell (by first | omega | (simp; done) | (simp; omega))]; go_cell)
      have a4_2 : w2.cell? ⟨w.heap.size, 4, none⟩ = some (.bool q1) := (by rw [b2.cell (by first | omega | (simp; done) | (simp; omega))]; go_cell)
      have a5_2 : w2.cell? ⟨w.heap.size, 5, none⟩ = some (.bool q2) := (by rw [b2.cell (by first | omega | (simp; done) | (simp; omega))]; go_cell)
      have a6_2 : w2.cell? ⟨w.heap.size, 6, none⟩ = some (.bool q3) := (by rw [b2.cell (by first | omega | (simp; done) | (simp; omega))]; go_cell)
      have a7_2 : w2.cell? ⟨w.heap.size, 7, none⟩ = some (.int .i64 i3) := (by rw [b2.cell (by first | omega | (simp; done) | (simp; omega))]; go_cell)
      have a8_2 : w2.cell? ⟨w.heap.size, 8, none⟩ = some (.int .i64 i4) := (by rw [b2.cell (by first | omega | (simp; done) | (simp; omega))]; go_cell)
      have a9_2 : w2.cell? ⟨w.heap.size, 9, none⟩ = some (.int .i64 i5) := (by rw [b2.cell (by first | omega | (simp; done) | (simp; omega))]; go_cell)
      have a10_2 : w2.cell? ⟨w.heap.size, 10, none⟩ = some (.int .i64 i6) := (by rw [b2.cell (by first | omega | (simp; done) | (simp; omega))]; go_cell)
      have a11_2 : w2.cell? ⟨w.heap.size, 11, none⟩ = some (.int .i64 i7) := (by rw [b2.cell (by first | omega | (simp; done) | (simp; omega))]; go_cell)
      have a12_2 : w2.cell? ⟨w.heap.size, 12, none⟩ = some (.slice ao0 I.length ac0) := (by rw [b2.cell (by first | omega | (simp; done) | (simp; omega))]; go_cell)
      have a13_2 : w2.cell? ⟨w.heap.size, 13, none⟩ = some (.slice ao1 F.length ac1) := (by rw [b2.cell (by first | omega | (simp; done) | (simp; omega))]; go_cell)
      have al_2 : w.heap.size < w2.heap.size := (by have := b2.size; first | omega | (revert this; simp; done) | (revert this; simp; omega))
      have r0_2 : w2.cell? ⟨w.heap.size + 1, 0, none⟩ = some (.int .i64 0) := (by rw [b2.cell (by first | omega | (simp; done) | (simp; omega))]; go_cell)
      have rf0_2 : w2.frozen? ⟨w.heap.size + 1, 0, none⟩ = false := (by rw [b2.frozen (by first | omega | (simp; done) | (simp; omega))]; (first | go_cell | (simp [World.frozen?, World.alloc]; done) | rfl))
      have r1_2 : w2.cell? ⟨w.heap.size + 1, 1, none⟩ = some (.int .i64 0) := (by rw [b2.cell (by first | omega | (simp; done) | (simp; omega))]; go_cell)
      have rf1_2 : w2.frozen? ⟨w.heap.size + 1, 1, none⟩ = false := (by rw [b2.frozen (by first | omega | (simp; done) | (simp; omega))]; (first | go_cell | (simp [World.frozen?, World.alloc]; done) | rfl))
      have r2_2 : w2.cell? ⟨w.heap.size + 1, 2, none⟩ = some (.int .i64 0) := (by rw [b2.cell (by first | omega | (simp; done) | (simp; omega))]; go_cell)
      have rf2_2 : w2.frozen? ⟨w.heap.size + 1, 2, none⟩ = false := (by rw [b2.frozen (by first | omega | (simp; done) | (simp; omega))]; (first | go_cell | (simp [World.frozen?, World.alloc]; done) | rfl))
      have r3_2 : w2.cell? ⟨w.heap.size + 1, 3, none⟩ = some (.bool false) := (by rw [b2.cell (by first | omega | (simp; done) | (simp; omega))]; go_cell)
      have rf3_2 : w2.frozen? ⟨w.heap.size + 1, 3, none⟩ = false := (by rw [b2.frozen (by first | omega | (simp; done) | (simp; omega))]; (first | go_cell | (simp [World.frozen?, World.alloc]; done) | rfl))
      have r4_2 : w2.cell? ⟨w.heap.size + 1, 4, none⟩ = some (.bool false) := (by rw [b2.cell (by first | omega | (simp; done) | (simp; omega))]; go_cell)
      have rf4_2 : w2.frozen? ⟨w.heap.size + 1, 4, none⟩ = false := (by rw [b2.frozen (by first | omega | (simp; done) | (simp; omega))]; (first | go_cell | (simp [World.frozen?, World.alloc]; done) | rfl))
      have r5_2 : w2.cell? ⟨w.heap.size + 1, 5, none⟩ = some (.bool false) := (by rw [b2.cell (by first | omega | (simp; done) | (simp; omega))]; go_cell)
      have rf5_2 : w2.frozen? ⟨w.heap.size + 1, 5, none⟩ = false := (by rw [b2.frozen (by first | omega | (simp; done) | (simp; omega))]; (first | go_cell | (simp [World.frozen?, World.alloc]; done) | rfl))
      have r6_2 : w2.cell? ⟨w.heap.size + 1, 6, none⟩ = some (.bool false) := (by rw [b2.cell (by first | omega | (simp; done) | (simp; omega))]; go_cell)
      have rf6_2 : w2.frozen? ⟨w.heap.size + 1, 6, none⟩ = false := (by rw [b2.frozen (by first | omega | (simp; done) | (simp; omega))]; (first | go_cell | (simp [World.frozen?, World.alloc]; done) | rfl))
      have r7_2 : w2.cell? ⟨w.heap.size + 1, 7, none⟩ = some (.int .i64 0) := (by rw [b2.cell (by first | omega | (simp; done) | (simp; omega))]; go_cell)
      have rf7_2 : w2.frozen? ⟨w.heap.size + 1, 7, none⟩ = false := (by rw [b2.frozen (by first | omega | (simp; done) | (simp; omega))]; (first | go_cell | (simp [World.frozen?, World.alloc]; done) | rfl))
      have r8_2 : w2.cell? ⟨w.heap.size + 1, 8, none⟩ = some (.int .i64 0) := (by rw [b2.cell (by first | omega | (simp; done) | (simp; omega))]; go_cell)
      have rf8_2 : w2.frozen? ⟨w.heap.size + 1, 8, none⟩ = false := (by rw [b2.frozen (by first | omega | (simp; done) | (simp; omega))]; (first | go_cell | (simp [World.frozen?, World.alloc]; done) | rfl))
      have r9_2 : w2.cell? ⟨w.heap.size + 1, 9, none⟩ = some (.int .i64 0) := (by rw [b2.cell (by first | omega | (simp; done) | (simp; omega))]; go_cell)
      have rf9_2 : w2.frozen? ⟨w.heap.size + 1, 9, none⟩ = false := (by rw [b2.frozen (by first | omega | (simp; done) | (simp; omega))]; (first | go_cell | (simp [World.frozen?, World.alloc]; done) | rfl))
      have r10_2 : w2.cell? ⟨w.heap.size + 1, 10, none⟩ = some (.int .i64 0) := (by rw [b2.cell (by first | omega | (simp; done) | (simp; omega))]; go_cell)
      have rf10_2 : w2.frozen? ⟨w.heap.size + 1, 10, none⟩ = false := (by rw [b2.frozen (by first | omega | (simp; done) | (simp; omega))]; (first | go_cell | (simp [World.frozen?, World.alloc]; done) | rfl))
      have r11_2 : w2.cell? ⟨w.heap.size + 1, 11, none⟩ = some (.int .i64 0) := (by rw [b2.cell (by first | omega | (simp; done) | (simp; omega))]; go_cell)
      have rf11_2 : w2.frozen? ⟨w.heap.size + 1, 11, none⟩ = false := (by rw [b2.frozen (by first | omega | (simp; done) | (simp; omega))]; (first | go_cell | (simp [World.frozen?, World.alloc]; done) | rfl))
      have r12_2 : w2.cell? ⟨w.heap.size + 1, 12, none⟩ = some (.slice none 0 0) := (by rw [b2.cell (by first | omega | (simp; done) | (simp; omega))]; go_cell)
      have rf12_2 : w2.frozen? ⟨w.heap.size + 1, 12, none⟩ = false := (by rw [b2.frozen (by first | omega | (simp; done) | (simp; omega))]; (first | go_cell | (simp [World.frozen?, World.alloc]; done) | rfl))
      have r13_2 : w2.cell? ⟨w.heap.size + 1, 13, none⟩ = some (.slice none 0 0) := (by rw [b2.cell (by first | omega | (simp; done) | (simp; omega))]; go_cell)
      have rf13_2 : w2.frozen? ⟨w.heap.size + 1, 13, none⟩ = false := (by rw [b2.frozen (by first | omega | (simp; done) | (simp; omega))]; (first | go_cell | (simp [World.frozen?, World.alloc]; done) | rfl))
      have rl_2 : w.heap.size + 1 < w2.heap.size := (by have := b2.size; first | omega | (revert this; simp; done) | (revert this; simp; omega))
      clear a0_1 a1_1 a2_1 a3_1 a4_1 a5_1 a6_1 a7_1 a8_1 a9_1 a10_1 a11_1 a12_1 a13_1 al_1 r0_1 rf0_1 r1_1 rf1_1 r2_1 rf2_1 r3_1 rf3_1 r4_1 rf4_1 r5_1 rf5_1 r6_1 rf6_1 r7_1 rf7_1 r8_1 rf8_1 r9_1 rf9_1 r10_1 rf10_1 r11_1 rf11_1 r12_1 rf12_1 r13_1 rf13_1 rl_1
      clear b2 d2
      go_wp2_with fail
      have rl2 := rl_2
      refine (l8Copy_any i0 i1 i2 q0 q1 q2 q3 i3 i4 i5 i6 i7 _ _ I F _ (HA.out.later c2) HP.out.2).mono ?_
      rintro e w3 ⟨⟨uo, uc, g, cc, rfl, hr⟩, b3⟩
      have HR := hid hr
      have d3 : Below w2.heap.size w2 w3 := (Below.trans (by go_grown) (b3.mono (by first | omega | (simp; done) | (simp; omega))))
      have c3 : Below w.heap.size w w3 := c2.trans (d3.mono c2.size)
      have r0_3 : w3.cell? ⟨w.heap.size + 1, 0, none⟩ = some (.int .i64 0) := (by rw [b3.cell (by first | omega | (simp; done) | (simp; omega))]; go_cell)
      have rf0_3 : w3.frozen? ⟨w.heap.size + 1, 0, none⟩ = false := (by rw [b3.frozen (by first | omega | (simp; done) | (simp; omega))]; (first | go_cell | (simp [World.frozen?, World.alloc]; done) | rfl))
      have r1_3 : w3.cell? ⟨w.heap.size + 1, 1, none⟩ = some (.int .i64 0) := (by rw [b3.cell (by first | omega | (simp; done) | (simp; omega))]; go_cell)
      have rf1_3 : w3.frozen? ⟨w.heap.size + 1, 1, none⟩ = false := (by rw [b3.frozen (by first | omega | (simp; done) | (simp; omega))]; (first | go_cell | (simp [World.frozen?, World.alloc]; done) | rfl))
      have r2_3 : w3.cell? ⟨w.heap.size + 1, 2, none⟩ = some (.int .i64 0) := (by rw [b3.cell (by first | omega | (simp; done) | (simp; omega))]; go_cell)
      have rf2_3 : w3.frozen? ⟨w.heap.size + 1, 2, none⟩ = false := (by rw [b3.frozen (by first | omega | (simp; done) | (simp; omega))]; (first | go_cell | (simp [World.frozen?, World.alloc]; done) | rfl))
      have r3_3 : w3.cell? ⟨w.heap.size + 1, 3, none⟩ = some (.bool false) := (by rw [b3.cell (by first | omega | (simp; done) | (simp; omega))]; go_cell)
      have rf3_3 : w3.frozen? ⟨w.heap.size + 1, 3, none⟩ = false := (by rw [b3.frozen (by first | omega | (simp; done) | (simp; omega))]; (first | go_cell | (simp [World.frozen?, World.alloc]; done) | rfl))
      have r4_3 : w3.cell? ⟨w.heap.size + 1, 4, none⟩ = some (.bool false) := (by rw [b3.cell (by first | omega | (simp; done) | (simp; omega))]; go_cell)
      have rf4_3 : w3.frozen? ⟨w.heap.size + 1, 4, none⟩ = false := (by rw [b3.frozen (by first | omega | (simp; done) | (simp; omega))]; (first | go_cell | (simp [World.frozen?, World.alloc]; done) | rfl))
      have r5_3 : w3.cell? ⟨w.heap.size + 1, 5, none⟩ = some (.bool false) := (by rw [b3.cell (by first | omega | (simp; done) | (simp; omega))]; go_cell)
      have rf5_3 : w3.frozen? ⟨w.heap.size + 1, 5, none⟩ = false := (by rw [b3.frozen (by first | omega | (simp; done) | (simp; omega))]; (first | go_cell | (simp [World.frozen?, World.alloc]; done) | rfl))
      have r6_3 : w3.cell? ⟨w.heap.size + 1, 6, none⟩ = some (.bool false) := (by rw [b3.cell (by first | omega | (simp; done) | (simp; omega))]; go_cell)
      have rf6_3 : w3.frozen? ⟨w.heap.size + 1, 6, none⟩ = false := (by rw [b3.frozen (by first | omega | (simp; done) | (simp; omega))]; (first | go_cell | (simp [World.frozen?, World.alloc]; done) | rfl))
      have r7_3 : w3.cell? ⟨w.heap.size + 1, 7, none⟩ = some (.int .i64 0) := (by rw [b3.cell (by first | omega | (simp; done) | (simp; omega))]; go_cell)
      have rf7_3 : w3.frozen? ⟨w.heap.size + 1, 7, none⟩ = false := (by rw [b3.frozen (by first | omega | (simp; done) | (simp; omega))]; (first | go_cell | (simp [World.frozen?, World.alloc]; done) | rfl))
      have r8_3 : w3.cell? ⟨w.heap.size + 1, 8, none⟩ = some (.int .i64 0) := (by rw [b3.cell (by first | omega | (simp; done) | (simp; omega))]; go_cell)
      have rf8_3 : w3.frozen? ⟨w.heap.size + 1, 8, none⟩ = false := (by rw [b3.frozen (by first | omega | (simp; done) | (simp; omega))]; (first | go_cell | (simp [World.frozen?, World.alloc]; done) | rfl))
      have r9_3 : w3.cell? ⟨w.heap.size + 1, 9, none⟩ = some (.int .i64 0) := (by rw [b3.cell (by first | omega | (simp; done) | (simp; omega))]; go_cell)
      have rf9_3 : w3.frozen? ⟨w.heap.size + 1, 9, none⟩ = false := (by rw [b3.frozen (by first | omega | (simp; done) | (simp; omega))]; (first | go_cell | (simp [World.frozen?, World.alloc]; done) | rfl))
      have r10_3 : w3.cell? ⟨w.heap.size + 1, 10, none⟩ = some (.int .i64 0) := (by rw [b3.cell (by first | omega | (simp; done) | (simp; omega))]; go_cell)
      have rf10_3 : w3.frozen? ⟨w.heap.size + 1, 10, none⟩ = false := (by rw [b3.frozen (by first | omega | (simp; done) | (simp; omega))]; (first | go_cell | (simp [World.frozen?, World.alloc]; done) | rfl))
      have r11_3 : w3.cell? ⟨w.heap.size + 1, 11, none⟩ = some (.int .i64 0) := (by rw [b3.cell (by first | omega | (simp; done) | (simp; omega))]; go_cell)
      have rf11_3 : w3.frozen? ⟨w.heap.size + 1, 11, none⟩ = false := (by rw [b3.frozen (by first | omega | (simp; done) | (simp; omega))]; (first | go_cell | (simp [World.frozen?, World.alloc]; done) | rfl))
      have r12_3 : w3.cell? ⟨w.heap.size + 1, 12, none⟩ = some (.slice none 0 0) := (by rw [b3.cell (by first | omega | (simp; done) | (simp; omega))]; go_cell)
      have rf12_3 : w3.frozen? ⟨w.heap.size + 1, 12, none⟩ = false := (by rw [b3.frozen (by first | omega | (simp; done) | (simp; omega))]; (first | go_cell | (simp [World.frozen?, World.alloc]; done) | rfl))
      have r13_3 : w3.cell? ⟨w.heap.size + 1, 13, none⟩ = some (.slice none 0 0) := (by rw [b3.cell (by first | omega | (simp; done) | (simp; omega))]; go_cell)
      have rf13_3 : w3.frozen? ⟨w.heap.size + 1, 13, none⟩ = false := (by rw [b3.frozen (by first | omega | (simp; done) | (simp; omega))]; (first | go_cell | (simp [World.frozen?, World.alloc]; done) | rfl))
      have rl_3 : w.heap.size + 1 < w3.heap.size := (by have := b3.size; first | omega | (revert this; simp; done) | (revert this; simp; omega))
      clear r0_2 rf0_2 r1_2 rf1_2 r2_2 rf2_2 r3_2 rf3_2 r4_2 rf4_2 r5_2 rf5_2 r6_2 rf6_2 r7_2 rf7_2 r8_2 rf8_2 r9_2 rf9_2 r10_2 rf10_2 r11_2 rf11_2 r12_2 rf12_2 r13_2 rf13_2 rl_2
      clear b3 d3 hr
      go_wp2
      have HO := CopyO.low HR.out (B' := w2.heap.size) (Nat.le_refl _)
      have HO := HO.set (p := ⟨w.heap.size + 1, 0, none⟩) (by show w.heap.size + 1 < w2.heap.size; omega) (.int .i64 i0)
      have HO := HO.set (p := ⟨w.heap.size + 1, 1, none⟩) (by show w.heap.size + 1 < w2.heap.size; omega) (.int .i64 i1)
      have HO := HO.set (p := ⟨w.heap.size + 1, 2, none⟩) (by show w.heap.size + 1 < w2.heap.size; omega) (.int .i64 i2)
      have HO := HO.set (p := ⟨w.heap.size + 1, 3, none⟩) (by show w.heap.size + 1 < w2.heap.size; omega) (.bool q0)
      have HO := HO.set (p := ⟨w.heap.size + 1, 4, none⟩) (by show w.heap.size + 1 < w2.heap.size; omega) (.bool q1)
      have HO := HO.set (p := ⟨w.heap.size + 1, 5, none⟩) (by show w.heap.size + 1 < w2.heap.size; omega) (.bool q2)
      have HO := HO.set (p := ⟨w.heap.size + 1, 6, none⟩) (by show w.heap.size + 1 < w2.heap.size; omega) (.bool q3)
      have HO := HO.set (p := ⟨w.heap.size + 1, 7, none⟩) (by show w.heap.size + 1 < w2.heap.size; omega) (.int .i64 i3)
      have HO := HO.set (p := ⟨w.heap.size + 1, 8, none⟩) (by show w.heap.size + 1 < w2.heap.size; omega) (.int .i64 i4)
      have HO := HO.set (p := ⟨w.heap.size + 1, 9, none⟩) (by show w.heap.size + 1 < w2.heap.size; omega) (.int .i64 i5)
      have HO := HO.set (p := ⟨w.heap.size + 1, 10, none⟩) (by show w.heap.size + 1 < w2.heap.size; omega) (.int .i64 i6)
      have HO := HO.set (p := ⟨w.heap.size + 1, 11, none⟩) (by show w.heap.size + 1 < w2.heap.size; omega) (.int .i64 i7)
      have HO := HO.set (p := ⟨w.heap.size + 1, 12, none⟩) (by show w.heap.size + 1 < w2.heap.size; omega) (.slice uo I.length uc)
      have HO := HO.set (p := ⟨w.heap.size + 1, 13, none⟩) (by show w.heap.size + 1 < w2.heap.size; omega) (.slice (some ⟨g, 0, none⟩) 24 cc)
      have HB := ((((((((((((((c3.setCell (p := ⟨w.heap.size + 1, 0, none⟩) (by show w.heap.size ≤ w.heap.size + 1; omega) (.int .i64 i0)).setCell (p := ⟨w.heap.size + 1, 1, none⟩) (by show w.heap.size ≤ w.heap.size + 1; omega) (.int .i64 i1)).setCell (p := ⟨w.heap.size + 1, 2, none⟩) (by show w.heap.size ≤ w.heap.size + 1; omega) (.int .i64 i2)).setCell (p := ⟨w.heap.size + 1, 3, none⟩) (by show w.heap.size ≤ w.heap.size + 1; omega) (.bool q0)).setCell (p := ⟨w.heap.size + 1, 4, none⟩) (by show w.heap.size ≤ w.heap.size + 1; omega) (.bool q1)).setCell (p := ⟨w.heap.size + 1, 5, none⟩) (by show w.heap.size ≤ w.heap.size + 1; omega) (.bool q2)).setCell (p := ⟨w.heap.size + 1, 6, none⟩) (by show w.heap.size ≤ w.heap.size + 1; omega) (.bool q3)).setCell (p := ⟨w.heap.size + 1, 7, none⟩) (by show w.heap.size ≤ w.heap.size + 1; omega) (.int .i64 i3)).setCell (p := ⟨w.heap.size + 1, 8, none⟩) (by show w.heap.size ≤ w.heap.size + 1; omega) (.int .i64 i4)).setCell (p := ⟨w.heap.size + 1, 9, none⟩) (by show w.heap.size ≤ w.heap.size + 1; omega) (.int .i64 i5)).setCell (p := ⟨w.heap.size + 1, 10, none⟩) (by show w.heap.size ≤ w.heap.size + 1; omega) (.int .i64 i6)).setCell (p := ⟨w.heap.size + 1, 11, none⟩) (by show w.heap.size ≤ w.heap.size + 1; omega) (.int .i64 i7)).setCell (p := ⟨w.heap.size + 1, 12, none⟩) (by show w.heap.size ≤ w.heap.size + 1; omega) (.slice uo I.length uc)).setCell (p := ⟨w.heap.size + 1, 13, none⟩) (by show w.heap.size ≤ w.heap.size + 1; omega) (.slice (some ⟨g, 0, none⟩) 24 cc))
      have HOF := HO.rs
      generalize hWF : ((((((((((((((w3.setCell ⟨w.heap.size + 1, 0, none⟩ (.int .i64 i0)).setCell ⟨w.heap.size + 1, 1, none⟩ (.int .i64 i1)).setCell ⟨w.heap.size + 1, 2, none⟩ (.int .i64 i2)).setCell ⟨w.heap.size + 1, 3, none⟩ (.bool q0)).setCell ⟨w.heap.size + 1, 4, none⟩ (.bool q1)).setCell ⟨w.heap.size + 1, 5, none⟩ (.bool q2)).setCell ⟨w.heap.size + 1, 6, none⟩ (.bool q3)).setCell ⟨w.heap.size + 1, 7, none⟩ (.int .i64 i3)).setCell ⟨w.heap.size + 1, 8, none⟩ (.int .i64 i4)).setCell ⟨w.heap.size + 1, 9, none⟩ (.int .i64 i5)).setCell ⟨w.heap.size + 1, 10, none⟩ (.int .i64 i6)).setCell ⟨w.heap.size + 1, 11, none⟩ (.int .i64 i7)).setCell ⟨w.heap.size + 1, 12, none⟩ (.slice uo I.length uc)).setCell ⟨w.heap.size + 1, 13, none⟩ (.slice (some ⟨g, 0, none⟩) 24 cc)) = wF at HB HOF ⊢
      have e0 : wF.cell? ⟨w.heap.size + 1, 0, none⟩ = some (.int .i64 i0) := by subst hWF; go_cell
      have e1 : wF.cell? ⟨w.heap.size + 1, 1, none⟩ = some (.int .i64 i1) := by subst hWF; go_cell
      have e2 : wF.cell? ⟨w.heap.size + 1, 2, none⟩ = some (.int .i64 i2) := by subst hWF; go_cell
      have e3 : wF.cell? ⟨w.heap.size + 1, 3, none⟩ = some (.bool q0) := by subst hWF; go_cell
      have e4 : wF.cell? ⟨w.heap.size + 1, 4, none⟩ = some (.bool q1) := by subst hWF; go_cell
      have e5 : wF.cell? ⟨w.heap.size + 1, 5, none⟩ = some (.bool q2) := by subst hWF; go_cell
      have e6 : wF.cell? ⟨w.heap.size + 1, 6, none⟩ = some (.bool q3) := by subst hWF; go_cell
      have e7 : wF.cell? ⟨w.heap.size + 1, 7, none⟩ = some (.int .i64 i3) := by subst hWF; go_cell
      have e8 : wF.cell? ⟨w.heap.size + 1, 8, none⟩ = some (.int .i64 i4) := by subst hWF; go_cell
      have e9 : wF.cell? ⟨w.heap.size + 1, 9, none⟩ = some (.int .i64 i5) := by subst hWF; go_cell
      have e10 : wF.cell? ⟨w.heap.size + 1, 10, none⟩ = some (.int .i64 i6) := by subst hWF; go_cell
      have e11 : wF.cell? ⟨w.heap.size + 1, 11, none⟩ = some (.int .i64 i7) := by subst hWF; go_cell
      have e12 : wF.cell? ⟨w.heap.size + 1, 12, none⟩ = some (.slice uo I.length uc) := by subst hWF; go_cell
      have e13 : wF.cell? ⟨w.heap.size + 1, 13, none⟩ = some (.slice (some ⟨g, 0, none⟩) 24 cc) := by subst hWF; go_cell
      clear hWF
      exact bodyPost_ret (v := .agg #[.int .i64 i0, .int .i64 i1, .int .i64 i2, .bool q0, .bool q1, .bool q2, .bool q3, .int .i64 i3, .int .i64 i4, .int .i64 i5, .int .i64 i6, .int .i64 i7, .slice uo I.length uc, .slice (some ⟨g, 0, none⟩) 24 cc]) (by simp [results, Tryz.results28, go_sem, e0, e1, e2, e3, e4, e5, e6, e7, e8, e9, e10, e11, e12, e13]) rfl ⟨⟨_, _, rfl, HOF⟩, HB⟩
    · have hE : D = ⟨i0, i1 + 1, 0, false, false, false, false, 0, 0, 0, 0, 0, [], zeroF⟩ := by rw [← hD, ansTF, hT, if_neg hi]; rfl
      subst hE
      have hb : (i1 == 1000) = false := by simpa using hi
      have hw : IntKind.i64.wrap (i1 + 1) = i1 + 1 := by have := HP.out.1; rw [IntKind.wrap_i64]; omega
      clear hT hD hi
      go_enter Tryz.func28, Tryz.ntmps28
      go_wp2_with fail
      generalize hW1 : ((w.alloc (.cells #[.int .i64 i0, .int .i64 i1, .int .i64 i2, .bool q0, .bool q1, .bool q2, .bool q3, .int .i64 i3, .int .i64 i4, .int .i64 i5, .int .i64 i6, .int .i64 i7, .slice ao0 I.length ac0, .slice ao1 F.length ac1] 38)).alloc (.cells #[.int .i64 0, .int .i64 0, .int .i64 0, .bool false, .bool false, .bool false, .bool false, .int .i64 0, .int .i64 0, .int .i64 0, .int .i64 0, .int .i64 0, .slice none 0 0, .slice none 0 0] 38)) = w1
      have a0_1 : w1.cell? ⟨w.heap.size, 0, none⟩ = some (.int .i64 i0) := by subst hW1; go_cell
      have a1_1 : w1.cell? ⟨w.heap.size, 1, none⟩ = some (.int .i64 i1) := by subst hW1; go_cell
      have a2_1 : w1.cell? ⟨w.heap.size, 2, none⟩ = some (.int .i64 i2) := by subst hW1; go_cell
      have a3_1 : w1.cell? ⟨w.heap.size, 3, none⟩ = some (.bool q0) := by subst hW1; go_cell
      have a4_1 : w1.cell? ⟨w.heap.size, 4, none⟩ = some (.bool q1) := by subst hW1; go_cell
      have a5_1 : w1.cell? ⟨w.heap.size, 5, none⟩ = some (.bool q2) := by subst hW1; go_cell
      have a6_1 : w1.cell? ⟨w.heap.size, 6, none⟩ = some (.bool q3) := by subst hW1; go_cell
      have a7_1 : w1.cell? ⟨w.heap.size, 7, none⟩ = some (.int .i64 i3) := by subst hW1; go_cell
      have a8_1 : w1.cell? ⟨w.heap.size, 8, none⟩ = some (.int .i64 i4) := by subst hW1; go_cell
      have a9_1 : w1.cell? ⟨w.heap.size, 9, none⟩ = some (.int .i64 i5) := by subst hW1; go_cell
      have a10_1 : w1.cell? ⟨w.heap.size, 10, none⟩ = some (.int .i64 i6) := by subst hW1; go_cell
      have a11_1 : w1.cell? ⟨w.heap.size, 11, none⟩ = some (.int .i64 i7) := by subst hW1; go_cell
      have a12_1 : w1.cell? ⟨w.heap.size, 12, none⟩ = some (.slice ao0 I.length ac0) := by subst hW1; go_cell
      have a13_1 : w1.cell? ⟨w.heap.size, 13, none⟩ = some (.slice ao1 F.length ac1) := by subst hW1; go_cell
      have al_1 : w.heap.size < w1.heap.size := by subst hW1; first | (simp; done) | (simp; omega)
      have r0_1 : w1.cell? ⟨w.heap.size + 1, 0, none⟩ = some (.int .i64 0) := by subst hW1; go_cell
      have rf0_1 : w1.frozen? ⟨w.heap.size + 1, 0, none⟩ = false := by subst hW1; (first | go_cell | (simp [World.frozen?, World.alloc]; done) | rfl)
      have r1_1 : w1.cell? ⟨w.heap.size + 1, 1, none⟩ = some (.int .i64 0) := by subst hW1; go_cell
      have rf1_1 : w1.frozen? ⟨w.heap.size + 1, 1, none⟩ = false := by subst hW1; (first | go_cell | (simp [World.frozen?, World.alloc]; done) | rfl)
      have r2_1 : w1.cell? ⟨w.heap.size + 1, 2, none⟩ = some (.int .i64 0) := by subst hW1; go_cell
      have rf2_1 : w1.frozen? ⟨w.heap.size + 1, 2, none⟩ = false := by subst hW1; (first | go_cell | (simp [World.frozen?, World.alloc]; done) | rfl)
      have r3_1 : w1.cell? ⟨w.heap.size + 1, 3, none⟩ = some (.bool false) := by subst hW1; go_cell
      have rf3_1 : w1.frozen? ⟨w.heap.size + 1, 3, none⟩ = false := by subst hW1; (first | go_cell | (simp [World.frozen?, World.alloc]; done) | rfl)
      have r4_1 : w1.cell? ⟨w.heap.size + 1, 4, none⟩ = some (.bool false) := by subst hW1; go_cell
      have rf4_1 : w1.frozen? ⟨w.heap.size + 1, 4, none⟩ = false := by subst hW1; (first | go_cell | (simp [World.frozen?, World.alloc]; done) | rfl)
      have r5_1 : w1.cell? ⟨w.heap.size + 1, 5, none⟩ = some (.bool false) := by subst hW1; go_cell
      have rf5_1 : w1.frozen? ⟨w.heap.size + 1, 5, none⟩ = false := by subst hW1; (first | go_cell | (simp [World.frozen?, World.alloc]; done) | rfl)
      have r6_1 : w1.cell? ⟨w.heap.size + 1, 6, none⟩ = some (.bool false) := by subst hW1; go_cell
      have rf6_1 : w1.frozen? ⟨w.heap.size + 1, 6, none⟩ = false := by subst hW1; (first | go_cell | (simp [World.frozen?, World.alloc]; done) | rfl)
      have r7_1 : w1.cell? ⟨w.heap.size + 1, 7, none⟩ = some (.int .i64 0) := by subst hW1; go_cell
      have rf7_1 : w1.frozen? ⟨w.heap.size + 1, 7, none⟩ = false := by subst hW1; (first | go_cell | (simp [World.frozen?, World.alloc]; done) | rfl)
      have r8_1 : w1.cell? ⟨w.heap.size + 1, 8, none⟩ = some (.int .i64 0) := by subst hW1; go_cell
      have rf8_1 : w1.frozen? ⟨w.heap.size + 1, 8, none⟩ = false := by subst hW1; (first | go_cell | (simp [World.frozen?, World.alloc]; done) | rfl)
      have r9_1 : w1.cell? ⟨w.heap.size + 1, 9, none⟩ = some (.int .i64 0) := by subst hW1; go_cell
      have rf9_1 : w1.frozen? ⟨w.heap.size + 1, 9, none⟩ = false := by subst hW1; (first | go_cell | (simp [World.frozen?, World.alloc]; done) | rfl)
      have r10_1 : w1.cell? ⟨w.heap.size + 1, 10, none⟩ = some (.int .i64 0) := by subst hW1; go_cell
      have rf10_1 : w1.frozen? ⟨w.heap.size + 1, 10, none⟩ = false := by subst hW1; (first | go_cell | (simp [World.frozen?, World.alloc]; done) | rfl)
      have r11_1 : w1.cell? ⟨w.heap.size + 1, 11, none⟩ = some (.int .i64 0) := by subst hW1; go_cell
      have rf11_1 : w1.frozen? ⟨w.heap.size + 1, 11, none⟩ = false := by subst hW1; (first | go_cell | (simp [World.frozen?, World.alloc]; done) | rfl)
      have r12_1 : w1.cell? ⟨w.heap.size + 1, 12, none⟩ = some (.slice none 0 0) := by subst hW1; go_cell
      have rf12_1 : w1.frozen? ⟨w.heap.size + 1, 12, none⟩ = false := by subst hW1; (first | go_cell | (simp [World.frozen?, World.alloc]; done) | rfl)
      have r13_1 : w1.cell? ⟨w.heap.size + 1, 13, none⟩ = some (.slice none 0 0) := by subst hW1; go_cell
      have rf13_1 : w1.frozen? ⟨w.heap.size + 1, 13, none⟩ = false := by subst hW1; (first | go_cell | (simp [World.frozen?, World.alloc]; done) | rfl)
      have rl_1 : w.heap.size + 1 < w1.heap.size := by subst hW1; first | (simp; done) | (simp; omega)
      have c1 : Below w.heap.size w w1 := by subst hW1; go_grown
      have s1 : w1.heap.size = w.heap.size + 2 := by subst hW1; simp
      clear hW1
      have qa0_1 := cell_regrown a0_1
      have qa1_1 := cell_regrown a1_1
      have qa2_1 := cell_regrown a2_1
      have qa3_1 := cell_regrown a3_1
      have qa4_1 := cell_regrown a4_1
      have qa5_1 := cell_regrown a5_1
      have qa6_1 := cell_regrown a6_1
      have qa7_1 := cell_regrown a7_1
      have qa8_1 := cell_regrown a8_1
      have qa9_1 := cell_regrown a9_1
      have qa10_1 := cell_regrown a10_1
      have qa11_1 := cell_regrown a11_1
      have qa12_1 := cell_regrown a12_1
      have qa13_1 := cell_regrown a13_1
      have qr0_1 := cell_regrown r0_1
      have qr1_1 := cell_regrown r1_1
      have qr2_1 := cell_regrown r2_1
      have qr3_1 := cell_regrown r3_1
      have qr4_1 := cell_regrown r4_1
      have qr5_1 := cell_regrown r5_1
      have qr6_1 := cell_regrown r6_1
      have qr7_1 := cell_regrown r7_1
      have qr8_1 := cell_regrown r8_1
      have qr9_1 := cell_regrown r9_1
      have qr10_1 := cell_regrown r10_1
      have qr11_1 := cell_regrown r11_1
      have qr12_1 := cell_regrown r12_1
      have qr13_1 := cell_regrown r13_1
      refine (specTOk_is HT.out _ (HA.out.later c1)).mono ?_
      rintro e w2 ⟨rfl, b2⟩
      have d2 : Below w1.heap.size w1 w2 := (Below.trans (by go_grown) (b2.mono (by first | omega | (simp; done) | (simp; omega))))
      have c2 : Below w.heap.size w w2 := c1.trans (d2.mono c1.size)
      have a0_2 : w2.cell? ⟨w.heap.size, 0, none⟩ = some (.int .i64 i0) := (by rw [b2.cell (by first | omega | (simp; done) | (simp; omega))]; go_cell)
      have a1_2 : w2.cell? ⟨w.heap.size, 1, none⟩ = some (.int .i64 i1) := (by rw [b2.cell (by first | omega | (simp; done) | (simp; omega))]; go_cell)
      have a2_2 : w2.cell? ⟨w.heap.size, 2, none⟩ = some (.int .i64 i2) := (by rw [b2.cell (by first | omega | (simp; done) | (simp; omega))]; go_cell)
      have a3_2 : w2.cell? ⟨w.heap.size, 3, none⟩ = some (.bool q0) := (by rw [b2.cell (by first | omega | (simp; done) | (simp; omega))]; go_cell)
      have a4_2 : w2.cell? ⟨w.heap.size, 4, none⟩ = some (.bool q1) := (by rw [b2.cell (by first | omega | (simp; done) | (simp; omega))]; go_cell)
      have a5_2 : w2.cell? ⟨w.heap.size, 5, none⟩ = some (.bool q2) := (by rw [b2.cell (by first | omega | (simp; done) | (simp; omega))]; go_cell)
      have a6_2 : w2.cell? ⟨w.heap.size, 6, none⟩ = some (.bool q3) := (by rw [b2.cell (by first | omega | (simp; done) | (simp; omega))]; go_cell)
      have a7_2 : w2.cell? ⟨w.heap.size, 7, none⟩ = some (.int .i64 i3) := (by rw [b2.cell (by first | omega | (simp; done) | (simp; omega))]; go_cell)
      have a8_2 : w2.cell? ⟨w.heap.size, 8, none⟩ = some (.int .i64 i4) := (by rw [b2.cell (by first | omega | (simp; done) | (simp; omega))]; go_cell)
      have a9_2 : w2.cell? ⟨w.heap.size, 9, none⟩ = some (.int .i64 i5) := (by rw [b2.cell (by first | omega | (simp; done) | (simp; omega))]; go_cell)
      have a10_2 : w2.cell? ⟨w.heap.size, 10, none⟩ = some (.int .i64 i6) := (by rw [b2.cell (by first | omega | (simp; done) | (simp; omega))]; go_cell)
      have a11_2 : w2.cell? ⟨w.heap.size, 11, none⟩ = some (.int .i64 i7) := (by rw [b2.cell (by first | omega | (simp; done) | (simp; omega))]; go_cell)
      have a12_2 : w2.cell? ⟨w.heap.size, 12, none⟩ = some (.slice ao0 I.length ac0) := (by rw [b2.cell (by first | omega | (simp; done) | (simp; omega))]; go_cell)
      have a13_2 : w2.cell? ⟨w.heap.size, 13, none⟩ = some (.slice ao1 F.length ac1) := (by rw [b2.cell (by first | omega | (simp; done) | (simp; omega))]; go_cell)
      have al_2 : w.heap.size < w2.heap.size := (by have := b2.size; first | omega | (revert this; simp; done) | (revert this; simp; omega))
      have r0_2 : w2.cell? ⟨w.heap.size + 1, 0, none⟩ = some (.int .i64 0) := (by rw [b2.cell (by first | omega | (simp; done) | (simp; omega))]; go_cell)
      have rf0_2 : w2.frozen? ⟨w.heap.size + 1, 0, none⟩ = false := (by rw [b2.frozen (by first | omega | (simp; done) | (simp; omega))]; (first | go_cell | (simp [World.frozen?, World.alloc]; done) | rfl))
      have r1_2 : w2.cell? ⟨w.heap.size + 1, 1, none⟩ = some (.int .i64 0) := (by rw [b2.cell (by first | omega | (simp; done) | (simp; omega))]; go_cell)
      have rf1_2 : w2.frozen? ⟨w.heap.size + 1, 1, none⟩ = false := (by rw [b2.frozen (by first | omega | (simp; done) | (simp; omega))]; (first | go_cell | (simp [World.frozen?, World.alloc]; done) | rfl))
      have r2_2 : w2.cell? ⟨w.heap.size + 1, 2, none⟩ = some (.int .i64 0) := (by rw [b2.cell (by first | omega | (simp; done) | (simp; omega))]; go_cell)
      have rf2_2 : w2.frozen? ⟨w.heap.size + 1, 2, none⟩ = false := (by rw [b2.frozen (by first | omega | (simp; done) | (simp; omega))]; (first | go_cell | (simp [World.frozen?, World.alloc]; done) | rfl))
      have r3_2 : w2.cell? ⟨w.heap.size + 1, 3, none⟩ = some (.bool false) := (by rw [b2.cell (by first | omega | (simp; done) | (simp; omega))]; go_cell)
      have rf3_2 : w2.frozen? ⟨w.heap.size + 1, 3, none⟩ = false := (by rw [b2.frozen (by first | omega | (simp; done) | (simp; omega))]; (first | go_cell | (simp [World.frozen?, World.alloc]; done) | rfl))
      have r4_2 : w2.cell? ⟨w.heap.size + 1, 4, none⟩ = some (.bool false) := (by rw [b2.cell (by first | omega | (simp; done) | (simp; omega))]; go_cell)
      have rf4_2 : w2.frozen? ⟨w.heap.size + 1, 4, none⟩ = false := (by rw [b2.frozen (by first | omega | (simp; done) | (simp; omega))]; (first | go_cell | (simp [World.frozen?, World.alloc]; done) | rfl))
      have r5_2 : w2.cell? ⟨w.heap.size + 1, 5, none⟩ = some (.bool false) := (by rw [b2.cell (by first | omega | (simp; done) | (simp; omega))]; go_cell)
      have rf5_2 : w2.frozen? ⟨w.heap.size + 1, 5, none⟩ = false := (by rw [b2.frozen (by first | omega | (simp; done) | (simp; omega))]; (first | go_cell | (simp [World.frozen?, World.alloc]; done) | rfl))
      have r6_2 : w2.cell? ⟨w.heap.size + 1, 6, none⟩ = some (.bool false) := (by rw [b2.cell (by first | omega | (simp; done) | (simp; omega))]; go_cell)
      have rf6_2 : w2.frozen? ⟨w.heap.size + 1, 6, none⟩ = false := (by rw [b2.frozen (by first | omega | (simp; done) | (simp; omega))]; (first | go_cell | (simp [World.frozen?, World.alloc]; done) | rfl))
      have r7_2 : w2.cell? ⟨w.heap.size + 1, 7, none⟩ = some (.int .i64 0) := (by rw [b2.cell (by first | omega | (simp; done) | (simp; omega))]; go_cell)
      have rf7_2 : w2.frozen? ⟨w.heap.size + 1, 7, none⟩ = false := (by rw [b2.frozen (by first | omega | (simp; done) | (simp; omega))]; (first | go_cell | (simp [World.frozen?, World.alloc]; done) | rfl))
      have r8_2 : w2.cell? ⟨w.heap.size + 1, 8, none⟩ = some (.int .i64 0) := (by rw [b2.cell (by first | omega | (simp; done) | (simp; omega))]; go_cell)
      have rf8_2 : w2.frozen? ⟨w.heap.size + 1, 8, none⟩ = false := (by rw [b2.frozen (by first | omega | (simp; done) | (simp; omega))]; (first | go_cell | (simp [World.frozen?, World.alloc]; done) | rfl))
      have r9_2 : w2.cell? ⟨w.heap.size + 1, 9, none⟩ = some (.int .i64 0) := (by rw [b2.cell (by first | omega | (simp; done) | (simp; omega))]; go_cell)
      have rf9_2 : w2.frozen? ⟨w.heap.size + 1, 9, none⟩ = false := (by rw [b2.frozen (by first | omega | (simp; done) | (simp; omega))]; (first | go_cell | (simp [World.frozen?, World.alloc]; done) | rfl))
      have r10_2 : w2.cell? ⟨w.heap.size + 1, 10, none⟩ = some (.int .i64 0) := (by rw [b2.cell (by first | omega | (simp; done) | (simp; omega))]; go_cell)
      have rf10_2 : w2.frozen? ⟨w.heap.size + 1, 10, none⟩ = false := (by rw [b2.frozen (by first | omega | (simp; done) | (simp; omega))]; (first | go_cell | (simp [World.frozen?, World.alloc]; done) | rfl))
      have r11_2 : w2.cell? ⟨w.heap.size + 1, 11, none⟩ = some (.int .i64 0) := (by rw [b2.cell (by first | omega | (simp; done) | (simp; omega))]; go_cell)
      have rf11_2 : w2.frozen? ⟨w.heap.size + 1, 11, none⟩ = false := (by rw [b2.frozen (by first | omega | (simp; done) | (simp; omega))]; (first | go_cell | (simp [World.frozen?, World.alloc]; done) | rfl))
      have r12_2 : w2.cell? ⟨w.heap.size + 1, 12, none⟩ = some (.slice none 0 0) := (by rw [b2.cell (by first | omega | (simp; done) | (simp; omega))]; go_cell)
      have rf12_2 : w2.frozen? ⟨w.heap.size + 1, 12, none⟩ = false := (by rw [b2.frozen (by first | omega | (simp; done) | (simp; omega))]; (first | go_cell | (simp [World.frozen?, World.alloc]; done) | rfl))
      have r13_2 : w2.cell? ⟨w.heap.size + 1, 13, none⟩ = some (.slice none 0 0) := (by rw [b2.cell (by first | omega | (simp; done) | (simp; omega))]; go_cell)
      have rf13_2 : w2.frozen? ⟨w.heap.size + 1, 13, none⟩ = false := (by rw [b2.frozen (by first | omega | (simp; done) | (simp; omega))]; (first | go_cell | (simp [World.frozen?, World.alloc]; done) | rfl))
      have rl_2 : w.heap.size + 1 < w2.heap.size := (by have := b2.size; first | omega | (revert this; simp; done) | (revert this; simp; omega))
      clear a0_1 a1_1 a2_1 a3_1 a4_1 a5_1 a6_1 a7_1 a8_1 a9_1 a10_1 a11_1 a12_1 a13_1 al_1 r0_1 rf0_1 r1_1 rf1_1 r2_1 rf2_1 r3_1 rf3_1 r4_1 rf4_1 r5_1 rf5_1 r6_1 rf6_1 r7_1 rf7_1 r8_1 rf8_1 r9_1 rf9_1 r10_1 rf10_1 r11_1 rf11_1 r12_1 rf12_1 r13_1 rf13_1 rl_1
      clear b2 d2
      go_upto_region 5 with fail
      have rl2 := rl_2
      go_region_held3 (fun w' => w'.cell? ⟨w.heap.size, 0, none⟩ = some (.int .i64 i0) ∧ w'.cell? ⟨w.heap.size, 1, none⟩ = some (.int .i64 i1)) (go_keep) (first
        | (go_at_call 60; refine (specCOpen_any _).mono ?_; rintro e w3 ⟨⟨g, rfl, hg0, hg1, hz⟩, b3⟩; have HZ := hid hz; have HG := hid (And.intro (show w2.heap.size ≤ g from hg0) hg1); have d3 : Below w2.heap.size w2 w3 := (Below.trans (by go_grown) (b3.mono (by first | omega | (simp; done) | (simp; omega)))); have c3 : Below w.heap.size w w3 := c2.trans (d3.mono c2.size); have a0_3 : w3.cell? ⟨w.heap.size, 0, none⟩ = some (.int .i64 i0) := (by rw [b3.cell (by first | omega | (simp; done) | (simp; omega))]; go_cell); have a1_3 : w3.cell? ⟨w.heap.size, 1, none⟩ = some (.int .i64 i1) := (by rw [b3.cell (by first | omega | (simp; done) | (simp; omega))]; go_cell); have a2_3 : w3.cell? ⟨w.heap.size, 2, none⟩ = some (.int .i64 i2) := (by rw [b3.cell (by first | omega | (simp; done) | (simp; omega))]; go_cell); have a3_3 : w3.cell? ⟨w.heap.size, 3, none⟩ = some (.bool q0) := (by rw [b3.cell (by first | omega | (simp; done) | (simp; omega))]; go_cell); have a4_3 : w3.cell? ⟨w.heap.size, 4, none⟩ = some (.bool q1) := (by rw [b3.cell (by first | omega | (simp; done) | (simp; omega))]; go_cell); have a5_3 : w3.cell? ⟨w.heap.size, 5, none⟩ = some (.bool q2) := (by rw [b3.cell (by first | omega | (simp; done) | (simp; omega))]; go_cell); have a6_3 : w3.cell? ⟨w.heap.size, 6, none⟩ = some (.bool q3) := (by rw [b3.cell (by first | omega | (simp; done) | (simp; omega))]; go_cell); have a7_3 : w3.cell? ⟨w.heap.size, 7, none⟩ = some (.int .i64 i3) := (by rw [b3.cell (by first | omega | (simp; done) | (simp; omega))]; go_cell); have a8_3 : w3.cell? ⟨w.heap.size, 8, none⟩ = some (.int .i64 i4) := (by rw [b3.cell (by first | omega | (simp; done) | (simp; omega))]; go_cell); have a9_3 : w3.cell? ⟨w.heap.size, 9, none⟩ = some (.int .i64 i5) := (by rw [b3.cell (by first | omega | (simp; done) | (simp; omega))]; go_cell); have a10_3 : w3.cell? ⟨w.heap.size, 10, none⟩ = some (.int .i64 i6) := (by rw [b3.cell (by first | omega | (simp; done) | (simp; omega))]; go_cell); have a11_3 : w3.cell? ⟨w.heap.size, 11, none⟩ = some (.int .i64 i7) := (by rw [b3.cell (by first | omega | (simp; done) | (simp; omega))]; go_cell); have a12_3 : w3.cell? ⟨w.heap.size, 12, none⟩ = some (.slice ao0 I.length ac0) := (by rw [b3.cell (by first | omega | (simp; done) | (simp; omega))]; go_cell); have a13_3 : w3.cell? ⟨w.heap.size, 13, none⟩ = some (.slice ao1 F.length ac1) := (by rw [b3.cell (by first | omega | (simp; done) | (simp; omega))]; go_cell); have al_3 : w.heap.size < w3.heap.size := (by have := b3.size; first | omega | (revert this; simp; done) | (revert this; simp; omega)); have r0_3 : w3.cell? ⟨w.heap.size + 1, 0, none⟩ = some (.int .i64 0) := (by rw [b3.cell (by first | omega | (simp; done) | (simp; omega))]; go_cell); have rf0_3 : w3.frozen? ⟨w.heap.size + 1, 0, none⟩ = false := (by rw [b3.frozen (by first | omega | (simp; done) | (simp; omega))]; (first | go_cell | (simp [World.frozen?, World.alloc]; done) | rfl)); have r1_3 : w3.cell? ⟨w.heap.size + 1, 1, none⟩ = some (.int .i64 0) := (by rw [b3.cell (by first | omega | (simp; done) | (simp; omega))]; go_cell); have rf1_3 : w3.frozen? ⟨w.heap.size + 1, 1, none⟩ = false := (by rw [b3.frozen (by first | omega | (simp; done) | (simp; omega))]; (first | go_cell | (simp [World.frozen?, World.alloc]; done) | rfl)); have r2_3 : w3.cell? ⟨w.heap.size + 1, 2, none⟩ = some (.int .i64 0) := (by rw [b3.cell (by first | omega | (simp; done) | (simp; omega))]; go_cell); have rf2_3 : w3.frozen? ⟨w.heap.size + 1, 2, none⟩ = false := (by rw [b3.frozen (by first | omega | (simp; done) | (simp; omega))]; (first | go_cell | (simp [World.frozen?, World.alloc]; done) | rfl)); have r3_3 : w3.cell? ⟨w.heap.size + 1, 3, none⟩ = some (.bool false) := (by rw [b3.cell (by first | omega | (simp; done) | (simp; omega))]; go_cell); have rf3_3 : w3.frozen? ⟨w.heap.size + 1, 3, none⟩ = false := (by rw [b3.frozen (by first | omega | (simp; done) | (simp; omega))]; (first | go_cell | (simp [World.frozen?, World.alloc]; done) | rfl)); have r4_3 : w3.cell? ⟨w.heap.size + 1, 4, none⟩ = some (.bool false) := (by rw [b3.cell (by first | omega | (simp; done) | (simp; omega))]; go_cell); have rf4_3 : w3.frozen? ⟨w.heap.size + 1, 4, none⟩ = false := (by rw [b3.frozen (by first | omega | (simp; done) | (simp; omega))]; (first | go_cell | (simp [World.frozen?, World.alloc]; done) | rfl)); have r5_3 : w3.cell? ⟨w.heap.size + 1, 5, none⟩ = some (.bool false) := (by rw [b3.cell (by first | omega | (simp; done) | (simp; omega))]; go_cell); have rf5_3 : w3.frozen? ⟨w.heap.size + 1, 5, none⟩ = false := (by rw [b3.frozen (by first | omega | (simp; done) | (simp; omega))]; (first | go_cell | (simp [World.frozen?, World.alloc]; done) | rfl)); have r6_3 : w3.cell? ⟨w.heap.size + 1, 6, none⟩ = some (.bool false) := (by rw [b3.cell (by first | omega | (simp; done) | (simp; omega))]; go_cell); have rf6_3 : w3.frozen? ⟨w.heap.size + 1, 6, none⟩ = false := (by rw [b3.frozen (by first | omega | (simp; done) | (simp; omega))]; (first | go_cell | (simp [World.frozen?, World.alloc]; done) | rfl)); have r7_3 : w3.cell? ⟨w.heap.size + 1, 7, none⟩ = some (.int .i64 0) := (by rw [b3.cell (by first | omega | (simp; done) | (simp; omega))]; go_cell); have rf7_3 : w3.frozen? ⟨w.heap.size + 1, 7, none⟩ = false := (by rw [b3.frozen (by first | omega | (simp; done) | (simp; omega))]; (first | go_cell | (simp [World.frozen?, World.alloc]; done) | rfl)); have r8_3 : w3.cell? ⟨w.heap.size + 1, 8, none⟩ = some (.int .i64 0) := (by rw [b3.cell (by first | omega | (simp; done) | (simp; omega))]; go_cell); have rf8_3 : w3.frozen? ⟨w.heap.size + 1, 8, none⟩ = false := (by rw [b3.frozen (by first | omega | (simp; done) | (simp; omega))]; (first | go_cell | (simp [World.frozen?, World.alloc]; done) | rfl)); have r9_3 : w3.cell? ⟨w.heap.size + 1, 9, none⟩ = some (.int .i64 0) := (by rw [b3.cell (by first | omega | (simp; done) | (simp; omega))]; go_cell); have rf9_3 : w3.frozen? ⟨w.heap.size + 1, 9, none⟩ = false := (by rw [b3.frozen (by first | omega | (simp; done) | (simp; omega))]; (first | go_cell | (simp [World.frozen?, World.alloc]; done) | rfl)); have r10_3 : w3.cell? ⟨w.heap.size + 1, 10, none⟩ = some (.int .i64 0) := (by rw [b3.cell (by first | omega | (simp; done) | (simp; omega))]; go_cell); have rf10_3 : w3.frozen? ⟨w.heap.size + 1, 10, none⟩ = false := (by rw [b3.frozen (by first | omega | (simp; done) | (simp; omega))]; (first | go_cell | (simp [World.frozen?, World.alloc]; done) | rfl)); have r11_3 : w3.cell? ⟨w.heap.size + 1, 11, none⟩ = some (.int .i64 0) := (by rw [b3.cell (by first | omega | (simp; done) | (simp; omega))]; go_cell); have rf11_3 : w3.frozen? ⟨w.heap.size + 1, 11, none⟩ = false := (by rw [b3.frozen (by first | omega | (simp; done) | (simp; omega))]; (first | go_cell | (simp [World.frozen?, World.alloc]; done) | rfl)); have r12_3 : w3.cell? ⟨w.heap.size + 1, 12, none⟩ = some (.slice none 0 0) := (by rw [b3.cell (by first | omega | (simp; done) | (simp; omega))]; go_cell); have rf12_3 : w3.frozen? ⟨w.heap.size + 1, 12, none⟩ = false := (by rw [b3.frozen (by first | omega | (simp; done) | (simp; omega))]; (first | go_cell | (simp [World.frozen?, World.alloc]; done) | rfl)); have r13_3 : w3.cell? ⟨w.heap.size + 1, 13, none⟩ = some (.slice none 0 0) := (by rw [b3.cell (by first | omega | (simp; done) | (simp; omega))]; go_cell); have rf13_3 : w3.frozen? ⟨w.heap.size + 1, 13, none⟩ = false := (by rw [b3.frozen (by first | omega | (simp; done) | (simp; omega))]; (first | go_cell | (simp [World.frozen?, World.alloc]; done) | rfl)); have rl_3 : w.heap.size + 1 < w3.heap.size := (by have := b3.size; first | omega | (revert this; simp; done) | (revert this; simp; omega)); clear a0_2 a1_2 a2_2 a3_2 a4_2 a5_2 a6_2 a7_2 a8_2 a9_2 a10_2 a11_2 a12_2 a13_2 al_2 r0_2 rf0_2 r1_2 rf1_2 r2_2 rf2_2 r3_2 rf3_2 r4_2 rf4_2 r5_2 rf5_2 r6_2 rf6_2 r7_2 rf7_2 r8_2 rf8_2 r9_2 rf9_2 r10_2 rf10_2 r11_2 rf11_2 r12_2 rf12_2 r13_2 rf13_2 rl_2; clear b3 d3 hz hg0 hg1))
      all_goals
        go_wp2_with fail
        have HO := HZ.out
        have HO := HO.set (p := ⟨w.heap.size + 1, 0, none⟩) (by have := HG.out.1; show w.heap.size + 1 ≠ g; omega) (.int .i64 i0)
        have HO := HO.set (p := ⟨w.heap.size + 1, 1, none⟩) (by have := HG.out.1; show w.heap.size + 1 ≠ g; omega) (.int .i64 (i1 + 1))
        have HO := HO.set (p := ⟨w.heap.size + 1, 2, none⟩) (by have := HG.out.1; show w.heap.size + 1 ≠ g; omega) (.int .i64 0)
        have HO := HO.set (p := ⟨w.heap.size + 1, 3, none⟩) (by have := HG.out.1; show w.heap.size + 1 ≠ g; omega) (.bool false)
        have HO := HO.set (p := ⟨w.heap.size + 1, 4, none⟩) (by have := HG.out.1; show w.heap.size + 1 ≠ g; omega) (.bool false)
        have HO := HO.set (p := ⟨w.heap.size + 1, 5, none⟩) (by have := HG.out.1; show w.heap.size + 1 ≠ g; omega) (.bool false)
        have HO := HO.set (p := ⟨w.heap.size + 1, 6, none⟩) (by have := HG.out.1; show w.heap.size + 1 ≠ g; omega) (.bool false)
        have HO := HO.set (p := ⟨w.heap.size + 1, 7, none⟩) (by have := HG.out.1; show w.heap.size + 1 ≠ g; omega) (.int .i64 0)
        have HO := HO.set (p := ⟨w.heap.size + 1, 8, none⟩) (by have := HG.out.1; show w.heap.size + 1 ≠ g; omega) (.int .i64 0)
        have HO := HO.set (p := ⟨w.heap.size + 1, 9, none⟩) (by have := HG.out.1; show w.heap.size + 1 ≠ g; omega) (.int .i64 0)
        have HO := HO.set (p := ⟨w.heap.size + 1, 10, none⟩) (by have := HG.out.1; show w.heap.size + 1 ≠ g; omega) (.int .i64 0)
        have HO := HO.set (p := ⟨w.heap.size + 1, 11, none⟩) (by have := HG.out.1; show w.heap.size + 1 ≠ g; omega) (.int .i64 0)
        have HO := HO.set (p := ⟨w.heap.size + 1, 12, none⟩) (by have := HG.out.1; show w.heap.size + 1 ≠ g; omega) (.slice none 0 0)
        have HO := HO.set (p := ⟨w.heap.size + 1, 13, none⟩) (by have := HG.out.1; show w.heap.size + 1 ≠ g; omega) (.slice (some ⟨g, 0, none⟩) 24 24)
        have HB := ((((((((((((((c3.setCell (p := ⟨w.heap.size + 1, 0, none⟩) (by show w.heap.size ≤ w.heap.size + 1; omega) (.int .i64 i0)).setCell (p := ⟨w.heap.size + 1, 1, none⟩) (by show w.heap.size ≤ w.heap.size + 1; omega) (.int .i64 (i1 + 1))).setCell (p := ⟨w.heap.size + 1, 2, none⟩) (by show w.heap.size ≤ w.heap.size + 1; omega) (.int .i64 0)).setCell (p := ⟨w.heap.size + 1, 3, none⟩) (by show w.heap.size ≤ w.heap.size + 1; omega) (.bool false)).setCell (p := ⟨w.heap.size + 1, 4, none⟩) (by show w.heap.size ≤ w.heap.size + 1; omega) (.bool false)).setCell (p := ⟨w.heap.size + 1, 5, none⟩) (by show w.heap.size ≤ w.heap.size + 1; omega) (.bool false)).setCell (p := ⟨w.heap.size + 1, 6, none⟩) (by show w.heap.size ≤ w.heap.size + 1; omega) (.bool false)).setCell (p := ⟨w.heap.size + 1, 7, none⟩) (by show w.heap.size ≤ w.heap.size + 1; omega) (.int .i64 0)).setCell (p := ⟨w.heap.size + 1, 8, none⟩) (by show w.heap.size ≤ w.heap.size + 1; omega) (.int .i64 0)).setCell (p := ⟨w.heap.size + 1, 9, none⟩) (by show w.heap.size ≤ w.heap.size + 1; omega) (.int .i64 0)).setCell (p := ⟨w.heap.size + 1, 10, none⟩) (by show w.heap.size ≤ w.heap.size + 1; omega) (.int .i64 0)).setCell (p := ⟨w.heap.size + 1, 11, none⟩) (by show w.heap.size ≤ w.heap.size + 1; omega) (.int .i64 0)).setCell (p := ⟨w.heap.size + 1, 12, none⟩) (by show w.heap.size ≤ w.heap.size + 1; omega) (.slice none 0 0)).setCell (p := ⟨w.heap.size + 1, 13, none⟩) (by show w.heap.size ≤ w.heap.size + 1; omega) (.slice (some ⟨g, 0, none⟩) 24 24))
        have HOF := row_zero HO (by have := HG.out.2; simp only [World.setCell, Array.size_modify]; omega)
        generalize hWF : ((((((((((((((w3.setCell ⟨w.heap.size + 1, 0, none⟩ (.int .i64 i0)).setCell ⟨w.heap.size + 1, 1, none⟩ (.int .i64 (i1 + 1))).setCell ⟨w.heap.size + 1, 2, none⟩ (.int .i64 0)).setCell ⟨w.heap.size + 1, 3, none⟩ (.bool false)).setCell ⟨w.heap.size + 1, 4, none⟩ (.bool false)).setCell ⟨w.heap.size + 1, 5, none⟩ (.bool false)).setCell ⟨w.heap.size + 1, 6, none⟩ (.bool false)).setCell ⟨w.heap.size + 1, 7, none⟩ (.int .i64 0)).setCell ⟨w.heap.size + 1, 8, none⟩ (.int .i64 0)).setCell ⟨w.heap.size + 1, 9, none⟩ (.int .i64 0)).setCell ⟨w.heap.size + 1, 10, none⟩ (.int .i64 0)).setCell ⟨w.heap.size + 1, 11, none⟩ (.int .i64 0)).setCell ⟨w.heap.size + 1, 12, none⟩ (.slice none 0 0)).setCell ⟨w.heap.size + 1, 13, none⟩ (.slice (some ⟨g, 0, none⟩) 24 24)) = wF at HB HOF ⊢
        have e0 : wF.cell? ⟨w.heap.size + 1, 0, none⟩ = some (.int .i64 i0) := by subst hWF; go_cell
        have e1 : wF.cell? ⟨w.heap.size + 1, 1, none⟩ = some (.int .i64 (i1 + 1)) := by subst hWF; go_cell
        have e2 : wF.cell? ⟨w.heap.size + 1, 2, none⟩ = some (.int .i64 0) := by subst hWF; go_cell
        have e3 : wF.cell? ⟨w.heap.size + 1, 3, none⟩ = some (.bool false) := by subst hWF; go_cell
        have e4 : wF.cell? ⟨w.heap.size + 1, 4, none⟩ = some (.bool false) := by subst hWF; go_cell
        have e5 : wF.cell? ⟨w.heap.size + 1, 5, none⟩ = some (.bool false) := by subst hWF; go_cell
        have e6 : wF.cell? ⟨w.heap.size + 1, 6, none⟩ = some (.bool false) := by subst hWF; go_cell
        have e7 : wF.cell? ⟨w.heap.size + 1, 7, none⟩ = some (.int .i64 0) := by subst hWF; go_cell
        have e8 : wF.cell? ⟨w.heap.size + 1, 8, none⟩ = some (.int .i64 0) := by subst hWF; go_cell
        have e9 : wF.cell? ⟨w.heap.size + 1, 9, none⟩ = some (.int .i64 0) := by subst hWF; go_cell
        have e10 : wF.cell? ⟨w.heap.size + 1, 10, none⟩ = some (.int .i64 0) := by subst hWF; go_cell
        have e11 : wF.cell? ⟨w.heap.size + 1, 11, none⟩ = some (.int .i64 0) := by subst hWF; go_cell
        have e12 : wF.cell? ⟨w.heap.size + 1, 12, none⟩ = some (.slice none 0 0) := by subst hWF; go_cell
        have e13 : wF.cell? ⟨w.heap.size + 1, 13, none⟩ = some (.slice (some ⟨g, 0, none⟩) 24 24) := by subst hWF; go_cell
        clear hWF
        exact bodyPost_ret (v := .agg #[.int .i64 i0, .int .i64 (i1 + 1), .int .i64 0, .bool false, .bool false, .bool false, .bool false, .int .i64 0, .int .i64 0, .int .i64 0, .int .i64 0, .int .i64 0, .slice none 0 0, .slice (some ⟨g, 0, none⟩) 24 24]) (by simp [results, Tryz.results28, go_sem, e0, e1, e2, e3, e4, e5, e6, e7, e8, e9, e10, e11, e12, e13]) rfl ⟨⟨_, _, rfl, HOF⟩, HB⟩
end Go.Proofs.YtddpoheoecafjaaGreat
