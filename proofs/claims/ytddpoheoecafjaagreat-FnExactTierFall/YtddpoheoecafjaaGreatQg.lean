/- behindTier of a tier that falls, impl.TierFall: contracts. Written by a program (gqg.py). -/
import Derived.Test.YtddpoheoecafjaaGreatQf
import Derived.Test.YtddpoheoecafjaaGreatXn
namespace Go.Proofs.YtddpoheoecafjaaGreat
open Go.RowKit
attribute [local go_sem ↓] Go.wp_at_zero Go.wp_at_succ

theorem implTOk_is {i0 i1 i2 : Int} {q0 q1 q2 q3 : Bool} {i3 i4 i5 i6 i7 : Int} {va0 va1 : Value} {I F : List KD} {r : Bool} (h : okT i0 i1 i2 q0 q1 q2 q3 i3 i4 i5 i6 i7 I F = r) (w : World) (ha : RSCache w va0 va1 I F) : Calls Tryz.prog 11 #[.agg #[.int .i64 i0, .int .i64 i1, .int .i64 i2, .bool q0, .bool q1, .bool q2, .bool q3, .int .i64 i3, .int .i64 i4, .int .i64 i5, .int .i64 i6, .int .i64 i7, va0, va1]] w fun e w' => e = .returned (.bool r) ∧ Below w.heap.size w w' := h ▸ implTOk_any i0 i1 i2 q0 q1 q2 q3 i3 i4 i5 i6 i7 va0 va1 I F w ha
theorem okT_parts {i0 i1 i2 : Int} {q0 q1 q2 q3 : Bool} {i3 i4 i5 i6 i7 : Int} {I F : List KD} (h : okT i0 i1 i2 q0 q1 q2 q3 i3 i4 i5 i6 i7 I F = true) : 0 ≤ i1 ∧ i1 ≤ 1000 ∧ okC I F = true ∧ 0 ≤ i0 ∧ i0 < 2 ∧ 0 ≤ i2 ∧ i2 ≤ 1000 ∧ askR q2 q3 i3 i4 i5 i6 i7 i2 = true := by
  simp only [okT, Bool.and_eq_true, decide_eq_true_eq] at h
  exact ⟨h.1.1.2.2.1, h.1.1.2.2.2.1, h.2, h.1.1.1, h.1.1.2.1, h.1.1.2.2.2.2.1, h.1.1.2.2.2.2.2, h.1.2⟩
/-- Answers of a tier, with two lists beside it. -/
def EndB (B : Nat) (w' : World) (sc : List Value) (I F : List KD) (sv tv : Value) (e : Ending) : Prop :=
  ∃ (a : Option Addr) (c : Nat) (fo : Option Addr) (fc g : Nat), e = .returned (.tuple #[.agg (sc ++ ([.slice a I.length c, .slice fo F.length fc] : List Value)).toArray, sv, tv]) ∧ B ≤ g ∧ g < w'.heap.size ∧ OwnM 84 4 3 true w' (Span (g + 1) w'.heap.size) (.slice a I.length c) I ∧ OwnFl w' g (.slice fo F.length fc) F
/-- An answer in block R, what it owns from block B on. -/
def CutB (B R : Nat) (w : World) (sc : List Value) (I F : List KD) (wx : World) : Prop :=
  ∃ (a : Option Addr) (c : Nat) (fo : Option Addr) (fc g : Nat), VarAt wx R (sc ++ ([.slice a I.length c, .slice fo F.length fc] : List Value)) ∧ B ≤ g ∧ g < wx.heap.size ∧ OwnM 84 4 3 true wx (Span (g + 1) wx.heap.size) (.slice a I.length c) I ∧ OwnFl wx g (.slice fo F.length fc) F ∧ Below B w wx
theorem cutB_store {w wx : World} {vs : List Value} {a : Option Addr} {c g B R : Nat} {fv : Value} {I F : List KD} (hR : R < g) (hB : B ≤ R) (i : Nat) (hi : i < vs.length) (u : Value)
    (h : VarAt wx R vs ∧ g < wx.heap.size ∧ OwnM 84 4 3 true wx (Span (g + 1) wx.heap.size) (.slice a I.length c) I ∧ OwnFl wx g fv F ∧ Below B w wx) :
    VarAt (wx.setCell ⟨R, i, none⟩ u) R (vs.set i u) ∧ g < (wx.setCell ⟨R, i, none⟩ u).heap.size ∧ OwnM 84 4 3 true (wx.setCell ⟨R, i, none⟩ u) (Span (g + 1) (wx.setCell ⟨R, i, none⟩ u).heap.size) (.slice a I.length c) I ∧ OwnFl (wx.setCell ⟨R, i, none⟩ u) g fv F ∧ Below B w (wx.setCell ⟨R, i, none⟩ u) := by
  obtain ⟨h1, h2, h3, h4, h5⟩ := h
  have e : (wx.setCell ⟨R, i, none⟩ u).heap.size = wx.heap.size := by simp
  rw [e]
  exact ⟨h1.set i hi u, h2, h3.set (p := ⟨R, i, none⟩) (fun q => by have := q.1; simp only at this; omega) u, h4.out (p := ⟨R, i, none⟩) (by show R ≠ g; omega) u, h5.setCell (p := ⟨R, i, none⟩) hB u⟩
theorem keepB {w5 : World} {R K : Nat} {sv tv : Value} {v0 v1 v2 v3 v4 v5 v6 v7 v8 v9 v10 v11 v12 v13 : Value} (hK : ¬ K = R) (h : w5.cell? ⟨K, 114, none⟩ = some sv ∧ w5.cell? ⟨K, 115, none⟩ = some tv) :
    ((((((((((((((w5.setCell ⟨R, 0, none⟩ (v0)).setCell ⟨R, 1, none⟩ (v1)).setCell ⟨R, 2, none⟩ (v2)).setCell ⟨R, 3, none⟩ (v3)).setCell ⟨R, 4, none⟩ (v4)).setCell ⟨R, 5, none⟩ (v5)).setCell ⟨R, 6, none⟩ (v6)).setCell ⟨R, 7, none⟩ (v7)).setCell ⟨R, 8, none⟩ (v8)).setCell ⟨R, 9, none⟩ (v9)).setCell ⟨R, 10, none⟩ (v10)).setCell ⟨R, 11, none⟩ (v11)).setCell ⟨R, 12, none⟩ (v12)).setCell ⟨R, 13, none⟩ (v13)).cell? ⟨K, 114, none⟩ = some sv ∧ ((((((((((((((w5.setCell ⟨R, 0, none⟩ (v0)).setCell ⟨R, 1, none⟩ (v1)).setCell ⟨R, 2, none⟩ (v2)).setCell ⟨R, 3, none⟩ (v3)).setCell ⟨R, 4, none⟩ (v4)).setCell ⟨R, 5, none⟩ (v5)).setCell ⟨R, 6, none⟩ (v6)).setCell ⟨R, 7, none⟩ (v7)).setCell ⟨R, 8, none⟩ (v8)).setCell ⟨R, 9, none⟩ (v9)).setCell ⟨R, 10, none⟩ (v10)).setCell ⟨R, 11, none⟩ (v11)).setCell ⟨R, 12, none⟩ (v12)).setCell ⟨R, 13, none⟩ (v13)).cell? ⟨K, 115, none⟩ = some tv := by
  have hl : ((((((((((((((w5.setCell ⟨R, 0, none⟩ (v0)).setCell ⟨R, 1, none⟩ (v1)).setCell ⟨R, 2, none⟩ (v2)).setCell ⟨R, 3, none⟩ (v3)).setCell ⟨R, 4, none⟩ (v4)).setCell ⟨R, 5, none⟩ (v5)).setCell ⟨R, 6, none⟩ (v6)).setCell ⟨R, 7, none⟩ (v7)).setCell ⟨R, 8, none⟩ (v8)).setCell ⟨R, 9, none⟩ (v9)).setCell ⟨R, 10, none⟩ (v10)).setCell ⟨R, 11, none⟩ (v11)).setCell ⟨R, 12, none⟩ (v12)).setCell ⟨R, 13, none⟩ (v13)).heap[K]? = w5.heap[K]? := by simp only [Below.heap_setCell _ _ _ _ (show K ≠ (Addr.mk R _ none).block from hK)]
  exact ⟨(World.cell?_of_block (a := ⟨K, 114, none⟩) hl).trans h.1, (World.cell?_of_block (a := ⟨K, 115, none⟩) hl).trans h.2⟩
theorem flo_items {va0 va1 : Value} {I F : List KD} {w : World} (ha : RSCache w va0 va1 I F) (h : okC I F = true) : FloF F ∧ (∀ x ∈ (itemsX I).filterMap id, x.1.length = 3 ∧ x.2.length ≤ 8) ∧ (itemsX I).filterMap id = I := by
  have hl := list_items (okC_iff.1 h).2.1
  refine ⟨floF_of ha.h1 (okC_iff.1 h).1, ?_, hl⟩
  rw [hl]
  intro x hx
  obtain ⟨i, hi, rfl⟩ := List.getElem_of_mem hx
  obtain ⟨ao, cap, _, _, hc⟩ := ha.h0
  obtain ⟨b, o, _, _, hcc⟩ := hc (by omega)
  have := (hcc i hi).len
  rw [getD_at hi] at this
  exact ⟨this, (okC_small h).2 _ (List.getElem_mem hi)⟩
set_option maxRecDepth 100000 in
set_option maxHeartbeats 8000000 in
theorem bTFall_less (i0 i1 i2 : Int) (q0 q1 q2 q3 : Bool) (i3 i4 i5 i6 i7 : Int) (va0 va1 : Value) (I F : List KD) (ty : TypeId) (x : Value) (w : World) (ha : RSCache w va0 va1 I F) (hT : okT i0 i1 i2 q0 q1 q2 q3 i3 i4 i5 i6 i7 I F = true) (hi : i1 < 1000)
    (hwt : ∀ W, Calls Tryz.prog 67 #[.agg #[.bool q2, .bool q3, .int .i64 i3, .int .i64 i4, .int .i64 i5, .int .i64 i6, .int .i64 i7]] W fun e w' => e = .returned (.iface ty x) ∧ Below W.heap.size W w') :
    Calls Tryz.prog 46 #[.agg #[.int .i64 i0, .int .i64 i1, .int .i64 i2, .bool q0, .bool q1, .bool q2, .bool q3, .int .i64 i3, .int .i64 i4, .int .i64 i5, .int .i64 i6, .int .i64 i7, va0, va1], .func (.func 61) #[] #[]] w fun e w' => EndB w.heap.size w' [.int .i64 i0, .int .i64 (i1 + 1), .int .i64 0, .bool false, .bool false, .bool false, .bool false, .int .i64 0, .int .i64 0, .int .i64 0, .int .i64 0, .int .i64 0] ([] : List KD) zeroF (.slice none 0 0) (.slice none 0 0) e ∧ Below w.heap.size w w' := by
  have HA := hid ha
  have HT := hid hT
  have HWT := hid hwt
  have hP := okT_parts hT
  have hFI := flo_items ha hP.2.2.1
  have HP := hid hP
  have HFI := hid hFI
  obtain ⟨ao0, ao1, ac0, ac1, rfl, rfl⟩ := ha.open
  clear ha hT hwt hP hFI

  go_enter Tryz.func46, Tryz.ntmps46
  go_wp2_with fail
  generalize hW1 : ((w.alloc (.cells #[.int .i64 i0, .int .i64 i1, .int .i64 i2, .bool q0, .bool q1, .bool q2, .bool q3, .int .i64 i3, .int .i64 i4, .int .i64 i5, .int .i64 i6, .int .i64 i7, .slice ao0 I.length ac0, .slice ao1 F.length ac1] 38)).alloc (.cells #[.int .i64 0, .int .i64 0, .int .i64 0, .bool false, .bool false, .bool false, .bool false, .int .i64 0, .int .i64 0, .int .i64 0, .int .i64 0, .int .i64 0, .slice none 0 0, .slice none 0 0] 38)) = w1
  have a0_1 : w1.cell? ⟨w.heap.size, 0, none⟩ = some (.int .i64 i0) := by subst hW1; go_cell
  have a1_1 : w1.cell? ⟨w.heap.size, 1, none⟩ = some (.int .i64 i1) := by subst hW1; go_cell
  have a2_1 : w1.cell? ⟨w.heap.size, 2, none⟩ = some (.int .i64 i2) := by subst hW1; go_cell
  have a3_1 : w1.cell? ⟨w.heap.size, 3, none⟩ = some (.bool q0) := by subst hW1; go_cell
  have a4_1 : w1.cell? ⟨w.heap.size, 4, none⟩ = some (.bool q1) := by subst hW1; go_cell
  have a5_1 : w1.cell? ⟨w.heap.size, 5, none⟩ = some (.bool q2) := by subst hW1; go_cell
  have a6_1 : w1.cell? ⟨w.heap.size, 6, none⟩ = some (.bool q3) := by subst hW1; go_cell
  have a7_1 : w1.cell? ⟨w.heap.size, 7, none⟩ = some (.int .i64 i3) := by subst hW1; go_cell
  have a8_1 : w1.cell? ⟨w.heap.size, 8, none⟩ = some (.int .i64 i4) := by subst hW1; go_cell
  have a9_1 : w1.cell? ⟨w.heap.size, 9, none⟩ = some (.int .i64 i5) := by subst hW1; go_cell
  have a10_1 : w1.cell? ⟨w.heap.size, 10, none⟩ = some (.int .i64 i6) := by subst hW1; go_cell
  have a11_1 : w1.cell? ⟨w.heap.size, 11, none⟩ = some (.int .i64 i7) := by subst hW1; go_cell
  have a12_1 : w1.cell? ⟨w.heap.size, 12, none⟩ = some (.slice ao0 I.length ac0) := by subst hW1; go_cell
  have a13_1 : w1.cell? ⟨w.heap.size, 13, none⟩ = some (.slice ao1 F.length ac1) := by subst hW1; go_cell
  have al_1 : w.heap.size < w1.heap.size := by subst hW1; first | (simp; done) | (simp; omega)
  have r0_1 : w1.cell? ⟨w.heap.size + 1, 0, none⟩ = some (.int .i64 0) := by subst hW1; go_cell
  have rf0_1 : w1.frozen? ⟨w.heap.size + 1, 0, none⟩ = false := by subst hW1; (first | go_cell | (simp [World.frozen?, World.alloc]; done) | rfl)
  have r1_1 : w1.cell? ⟨w.heap.size + 1, 1, none⟩ = some (.int .i64 0) := by subst hW1; go_cell
  have rf1_1 : w1.frozen? ⟨w.heap.size + 1, 1, none⟩ = false := by subst hW1; (first | go_cell | (simp [World.frozen?, World.alloc]; done) | rfl)
  have r2_1 : w1.cell? ⟨w.heap.size + 1, 2, none⟩ = some (.int .i64 0) := by subst hW1; go_cell
  have rf2_1 : w1.frozen? ⟨w.heap.size + 1, 2, none⟩ = false := by subst hW1; (first | go_cell | (simp [World.frozen?, World.alloc]; done) | rfl)
  have r3_1 : w1.cell? ⟨w.heap.size + 1, 3, none⟩ = some (.bool false) := by subst hW1; go_cell
  have rf3_1 : w1.frozen? ⟨w.heap.size + 1, 3, none⟩ = false := by subst hW1; (first | go_cell | (simp [World.frozen?, World.alloc]; done) | rfl)
  have r4_1 : w1.cell? ⟨w.heap.size + 1, 4, none⟩ = some (.bool false) := by subst hW1; go_cell
  have rf4_1 : w1.frozen? ⟨w.heap.size + 1, 4, none⟩ = false := by subst hW1; (first | go_cell | (simp [World.frozen?, World.alloc]; done) | rfl)
  have r5_1 : w1.cell? ⟨w.heap.size + 1, 5, none⟩ = some (.bool false) := by subst hW1; go_cell
  have rf5_1 : w1.frozen? ⟨w.heap.size + 1, 5, none⟩ = false := by subst hW1; (first | go_cell | (simp [World.frozen?, World.alloc]; done) | rfl)
  have r6_1 : w1.cell? ⟨w.heap.size + 1, 6, none⟩ = some (.bool false) := by subst hW1; go_cell
  have rf6_1 : w1.frozen? ⟨w.heap.size + 1, 6, none⟩ = false := by subst hW1; (first | go_cell | (simp [World.frozen?, World.alloc]; done) | rfl)
  have r7_1 : w1.cell? ⟨w.heap.size + 1, 7, none⟩ = some (.int .i64 0) := by subst hW1; go_cell
  have rf7_1 : w1.frozen? ⟨w.heap.size + 1, 7, none⟩ = false := by subst hW1; (first | go_cell | (simp [World.frozen?, World.alloc]; done) | rfl)
  have r8_1 : w1.cell? ⟨w.heap.size + 1, 8, none⟩ = some (.int .i64 0) := by subst hW1; go_cell
  have rf8_1 : w1.frozen? ⟨w.heap.size + 1, 8, none⟩ = false := by subst hW1; (first | go_cell | (simp [World.frozen?, World.alloc]; done) | rfl)
  have r9_1 : w1.cell? ⟨w.heap.size + 1, 9, none⟩ = some (.int .i64 0) := by subst hW1; go_cell
  have rf9_1 : w1.frozen? ⟨w.heap.size + 1, 9, none⟩ = false := by subst hW1; (first | go_cell | (simp [World.frozen?, World.alloc]; done) | rfl)
  have r10_1 : w1.cell? ⟨w.heap.size + 1, 10, none⟩ = some (.int .i64 0) := by subst hW1; go_cell
  have rf10_1 : w1.frozen? ⟨w.heap.size + 1, 10, none⟩ = false := by subst hW1; (first | go_cell | (simp [World.frozen?, World.alloc]; done) | rfl)
  have r11_1 : w1.cell? ⟨w.heap.size + 1, 11, none⟩ = some (.int .i64 0) := by subst hW1; go_cell
  have rf11_1 : w1.frozen? ⟨w.heap.size + 1, 11, none⟩ = false := by subst hW1; (first | go_cell | (simp [World.frozen?, World.alloc]; done) | rfl)
  have r12_1 : w1.cell? ⟨w.heap.size + 1, 12, none⟩ = some (.slice none 0 0) := by subst hW1; go_cell
  have rf12_1 : w1.frozen? ⟨w.heap.size + 1, 12, none⟩ = false := by subst hW1; (first | go_cell | (simp [World.frozen?, World.alloc]; done) | rfl)
  have r13_1 : w1.cell? ⟨w.heap.size + 1, 13, none⟩ = some (.slice none 0 0) := by subst hW1; go_cell
  have rf13_1 : w1.frozen? ⟨w.heap.size + 1, 13, none⟩ = false := by subst hW1; (first | go_cell | (simp [World.frozen?, World.alloc]; done) | rfl)
  have rl_1 : w.heap.size + 1 < w1.heap.size := by subst hW1; first | (simp; done) | (simp; omega)
  have c1 : Below w.heap.size w w1 := by subst hW1; go_grown
  have s1 : w1.heap.size = w.heap.size + 2 := by subst hW1; simp
  clear hW1
  have qa0_1 := cell_regrown a0_1
  have qa1_1 := cell_regrown a1_1
  have qa2_1 := cell_regrown a2_1
  have qa3_1 := cell_regrown a3_1
  have qa4_1 := cell_regrown a4_1
  have qa5_1 := cell_regrown a5_1
  have qa6_1 := cell_regrown a6_1
  have qa7_1 := cell_regrown a7_1
  have qa8_1 := cell_regrown a8_1
  have qa9_1 := cell_regrown a9_1
  have qa10_1 := cell_regrown a10_1
  have qa11_1 := cell_regrown a11_1
  have qa12_1 := cell_regrown a12_1
  have qa13_1 := cell_regrown a13_1
  have qr0_1 := cell_regrown r0_1
  have qr1_1 := cell_regrown r1_1
  have qr2_1 := cell_regrown r2_1
  have qr3_1 := cell_regrown r3_1
  have qr4_1 := cell_regrown r4_1
  have qr5_1 := cell_regrown r5_1
  have qr6_1 := cell_regrown r6_1
  have qr7_1 := cell_regrown r7_1
  have qr8_1 := cell_regrown r8_1
  have qr9_1 := cell_regrown r9_1
  have qr10_1 := cell_regrown r10_1
  have qr11_1 := cell_regrown r11_1
  have qr12_1 := cell_regrown r12_1
  have qr13_1 := cell_regrown r13_1
  refine (implTOk_is HT.out _ (HA.out.later c1)).mono ?_
  rintro e w2 ⟨rfl, b2⟩
  have d2 : Below w1.heap.size w1 w2 := (Below.trans (by go_grown) (b2.mono (by first | omega | (simp; done) | (simp; omega))))
  have c2 : Below w.heap.size w w2 := c1.trans (d2.mono c1.size)
  have a0_2 : w2.cell? ⟨w.heap.size, 0, none⟩ = some (.int .i64 i0) := (by rw [b2.cell (by first | omega | (simp; done) | (simp; omega))]; go_cell)
  have a1_2 : w2.cell? ⟨w.heap.size, 1, none⟩ = some (.int .i64 i1) := (by rw [b2.cell (by first | omega | (simp; done) | (simp; omega))]; go_cell)
  have a2_2 : w2.cell? ⟨w.heap.size, 2, none⟩ = some (.int .i64 i2) := (by rw [b2.cell (by first | omega | (simp; done) | (simp; omega))]; go_cell)
  have a3_2 : w2.cell? ⟨w.heap.size, 3, none⟩ = some (.bool q0) := (by rw [b2.cell (by first | omega | (simp; done) | (simp; omega))]; go_cell)
  have a4_2 : w2.cell? ⟨w.heap.size, 4, none⟩ = some (.bool q1) := (by rw [b2.cell (by first | omega | (simp; done) | (simp; omega))]; go_cell)
  have a5_2 : w2.cell? ⟨w.heap.size, 5, none⟩ = some (.bool q2) := (by rw [b2.cell (by first | omega | (simp; done) | (simp; omega))]; go_cell)
  have a6_2 : w2.cell? ⟨w.heap.size, 6, none⟩ = some (.bool q3) := (by rw [b2.cell (by first | omega | (simp; done) | (simp; omega))]; go_cell)
  have a7_2 : w2.cell? ⟨w.heap.size, 7, none⟩ = some (.int .i64 i3) := (by rw [b2.cell (by first | omega | (simp; done) | (simp; omega))]; go_cell)
  have a8_2 : w2.cell? ⟨w.heap.size, 8, none⟩ = some (.int .i64 i4) := (by rw [b2.cell (by first | omega | (simp; done) | (simp; omega))]; go_cell)
  have a9_2 : w2.cell? ⟨w.heap.size, 9, none⟩ = some (.int .i64 i5) := (by rw [b2.cell (by first | omega | (simp; done) | (simp; omega))]; go_cell)
  have a10_2 : w2.cell? ⟨w.heap.size, 10, none⟩ = some (.int .i64 i6) := (by rw [b2.cell (by first | omega | (simp; done) | (simp; omega))]; go_cell)
  have a11_2 : w2.cell? ⟨w.heap.size, 11, none⟩ = some (.int .i64 i7) := (by rw [b2.cell (by first | omega | (simp; done) | (simp; omega))]; go_cell)
  have a12_2 : w2.cell? ⟨w.heap.size, 12, none⟩ = some (.slice ao0 I.length ac0) := (by rw [b2.cell (by first | omega | (simp; done) | (simp; omega))]; go_cell)
  have a13_2 : w2.cell? ⟨w.heap.size, 13, none⟩ = some (.slice ao1 F.length ac1) := (by rw [b2.cell (by first | omega | (simp; done) | (simp; omega))]; go_cell)
  have al_2 : w.heap.size < w2.heap.size := (by have := b2.size; first | omega | (revert this; simp; done) | (revert this; simp; omega))
  have r0_2 : w2.cell? ⟨w.heap.size + 1, 0, none⟩ = some (.int .i64 0) := (by rw [b2.cell (by first | omega | (simp; done) | (simp; omega))]; go_cell)
  have rf0_2 : w2.frozen? ⟨w.heap.size + 1, 0, none⟩ = false := (by rw [b2.frozen (by first | omega | (simp; done) | (simp; omega))]; (first | go_cell | (simp [World.frozen?, World.alloc]; done) | rfl))
  have r1_2 : w2.cell? ⟨w.heap.size + 1, 1, none⟩ = some (.int .i64 0) := (by rw [b2.cell (by first | omega | (simp; done) | (simp; omega))]; go_cell)
  have rf1_2 : w2.frozen? ⟨w.heap.size + 1, 1, none⟩ = false := (by rw [b2.frozen (by first | omega | (simp; done) | (simp; omega))]; (first | go_cell | (simp [World.frozen?, World.alloc]; done) | rfl))
  have r2_2 : w2.cell? ⟨w.heap.size + 1, 2, none⟩ = some (.int .i64 0) := (by rw [b2.cell (by first | omega | (simp; done) | (simp; omega))]; go_cell)
  have rf2_2 : w2.frozen? ⟨w.heap.size + 1, 2, none⟩ = false := (by rw [b2.frozen (by first | omega | (simp; done) | (simp; omega))]; (first | go_cell | (simp [World.frozen?, World.alloc]; done) | rfl))
  have r3_2 : w2.cell? ⟨w.heap.size + 1, 3, none⟩ = some (.bool false) := (by rw [b2.cell (by first | omega | (simp; done) | (simp; omega))]; go_cell)
  have rf3_2 : w2.frozen? ⟨w.heap.size + 1, 3, none⟩ = false := (by rw [b2.frozen (by first | omega | (simp; done) | (simp; omega))]; (first | go_cell | (simp [World.frozen?, World.alloc]; done) | rfl))
  have r4_2 : w2.cell? ⟨w.heap.size + 1, 4, none⟩ = some (.bool false) := (by rw [b2.cell (by first | omega | (simp; done) | (simp; omega))]; go_cell)
  have rf4_2 : w2.frozen? ⟨w.heap.size + 1, 4, none⟩ = false := (by rw [b2.frozen (by first | omega | (simp; done) | (simp; omega))]; (first | go_cell | (simp [World.frozen?, World.alloc]; done) | rfl))
  have r5_2 : w2.cell? ⟨w.heap.size + 1, 5, none⟩ = some (.bool false) := (by rw [b2.cell (by first | omega | (simp; done) | (simp; omega))]; go_cell)
  have rf5_2 : w2.frozen? ⟨w.heap.size + 1, 5, none⟩ = false := (by rw [b2.frozen (by first | omega | (simp; done) | (simp; omega))]; (first | go_cell | (simp [World.frozen?, World.alloc]; done) | rfl))
  have r6_2 : w2.cell? ⟨w.heap.size + 1, 6, none⟩ = some (.bool false) := (by rw [b2.cell (by first | omega | (simp; done) | (simp; omega))]; go_cell)
  have rf6_2 : w2.frozen? ⟨w.heap.size + 1, 6, none⟩ = false := (by rw [b2.frozen (by first | omega | (simp; done) | (simp; omega))]; (first | go_cell | (simp [World.frozen?, World.alloc]; done) | rfl))
  have r7_2 : w2.cell? ⟨w.heap.size + 1, 7, none⟩ = some (.int .i64 0) := (by rw [b2.cell (by first | omega | (simp; done) | (simp; omega))]; go_cell)
  have rf7_2 : w2.frozen? ⟨w.heap.size + 1, 7, none⟩ = false := (by rw [b2.frozen (by first | omega | (simp; done) | (simp; omega))]; (first | go_cell | (simp [World.frozen?, World.alloc]; done) | rfl))
  have r8_2 : w2.cell? ⟨w.heap.size + 1, 8, none⟩ = some (.int .i64 0) := (by rw [b2.cell (by first | omega | (simp; done) | (simp; omega))]; go_cell)
  have rf8_2 : w2.frozen? ⟨w.heap.size + 1, 8, none⟩ = false := (by rw [b2.frozen (by first | omega | (simp; done) | (simp; omega))]; (first | go_cell | (simp [World.frozen?, World.alloc]; done) | rfl))
  have r9_2 : w2.cell? ⟨w.heap.size + 1, 9, none⟩ = some (.int .i64 0) := (by rw [b2.cell (by first | omega | (simp; done) | (simp; omega))]; go_cell)
  have rf9_2 : w2.frozen? ⟨w.heap.size + 1, 9, none⟩ = false := (by rw [b2.frozen (by first | omega | (simp; done) | (simp; omega))]; (first | go_cell | (simp [World.frozen?, World.alloc]; done) | rfl))
  have r10_2 : w2.cell? ⟨w.heap.size + 1, 10, none⟩ = some (.int .i64 0) := (by rw [b2.cell (by first | omega | (simp; done) | (simp; omega))]; go_cell)
  have rf10_2 : w2.frozen? ⟨w.heap.size + 1, 10, none⟩ = false := (by rw [b2.frozen (by first | omega | (simp; done) | (simp; omega))]; (first | go_cell | (simp [World.frozen?, World.alloc]; done) | rfl))
  have r11_2 : w2.cell? ⟨w.heap.size + 1, 11, none⟩ = some (.int .i64 0) := (by rw [b2.cell (by first | omega | (simp; done) | (simp; omega))]; go_cell)
  have rf11_2 : w2.frozen? ⟨w.heap.size + 1, 11, none⟩ = false := (by rw [b2.frozen (by first | omega | (simp; done) | (simp; omega))]; (first | go_cell | (simp [World.frozen?, World.alloc]; done) | rfl))
  have r12_2 : w2.cell? ⟨w.heap.size + 1, 12, none⟩ = some (.slice none 0 0) := (by rw [b2.cell (by first | omega | (simp; done) | (simp; omega))]; go_cell)
  have rf12_2 : w2.frozen? ⟨w.heap.size + 1, 12, none⟩ = false := (by rw [b2.frozen (by first | omega | (simp; done) | (simp; omega))]; (first | go_cell | (simp [World.frozen?, World.alloc]; done) | rfl))
  have r13_2 : w2.cell? ⟨w.heap.size + 1, 13, none⟩ = some (.slice none 0 0) := (by rw [b2.cell (by first | omega | (simp; done) | (simp; omega))]; go_cell)
  have rf13_2 : w2.frozen? ⟨w.heap.size + 1, 13, none⟩ = false := (by rw [b2.frozen (by first | omega | (simp; done) | (simp; omega))]; (first | go_cell | (simp [World.frozen?, World.alloc]; done) | rfl))
  have rl_2 : w.heap.size + 1 < w2.heap.size := (by have := b2.size; first | omega | (revert this; simp; done) | (revert this; simp; omega))
  clear a0_1 a1_1 a2_1 a3_1 a4_1 a5_1 a6_1 a7_1 a8_1 a9_1 a10_1 a11_1 a12_1 a13_1 al_1 r0_1 rf0_1 r1_1 rf1_1 r2_1 rf2_1 r3_1 rf3_1 r4_1 rf4_1 r5_1 rf5_1 r6_1 rf6_1 r7_1 rf7_1 r8_1 rf8_1 r9_1 rf9_1 r10_1 rf10_1 r11_1 rf11_1 r12_1 rf12_1 r13_1 rf13_1 rl_1
  clear b2 d2
  go_wp2_with fail
  refine (keeperOf_any i0 i1 i2 q0 q1 q2 q3 i3 i4 i5 i6 i7 _ _ I F ty x _ (HA.out.later c2) HP.out.2.2.1 HWT.out).mono ?_
  rintro e w3 ⟨s, rfl, K, rfl, hK, hS, b3⟩
  have HS3 := hid hS
  have hK3 : K < w3.heap.size := hS.lt
  have hKR : w.heap.size + 1 < K := Nat.lt_of_lt_of_le rl_2 hK
  have rz2 := rl_2
  have d3 : Below w2.heap.size w2 w3 := (Below.trans (by go_grown) (b3.mono (by first | omega | (simp; done) | (simp; omega))))
  have c3 : Below w.heap.size w w3 := c2.trans (d3.mono c2.size)
  have r0_3 : w3.cell? ⟨w.heap.size + 1, 0, none⟩ = some (.int .i64 0) := (by rw [b3.cell (by first | omega | (simp; done) | (simp; omega))]; go_cell)
  have rf0_3 : w3.frozen? ⟨w.heap.size + 1, 0, none⟩ = false := (by rw [b3.frozen (by first | omega | (simp; done) | (simp; omega))]; (first | go_cell | (simp [World.frozen?, World.alloc]; done) | rfl))
  have r1_3 : w3.cell? ⟨w.heap.size + 1, 1, none⟩ = some (.int .i64 0) := (by rw [b3.cell (by first | omega | (simp; done) | (simp; omega))]; go_cell)
  have rf1_3 : w3.frozen? ⟨w.heap.size + 1, 1, none⟩ = false := (by rw [b3.frozen (by first | omega | (simp; done) | (simp; omega))]; (first | go_cell | (simp [World.frozen?, World.alloc]; done) | rfl))
  have r2_3 : w3.cell? ⟨w.heap.size + 1, 2, none⟩ = some (.int .i64 0) := (by rw [b3.cell (by first | omega | (simp; done) | (simp; omega))]; go_cell)
  have rf2_3 : w3.frozen? ⟨w.heap.size + 1, 2, none⟩ = false := (by rw [b3.frozen (by first | omega | (simp; done) | (simp; omega))]; (first | go_cell | (simp [World.frozen?, World.alloc]; done) | rfl))
  have r3_3 : w3.cell? ⟨w.heap.size + 1, 3, none⟩ = some (.bool false) := (by rw [b3.cell (by first | omega | (simp; done) | (simp; omega))]; go_cell)
  have rf3_3 : w3.frozen? ⟨w.heap.size + 1, 3, none⟩ = false := (by rw [b3.frozen (by first | omega | (simp; done) | (simp; omega))]; (first | go_cell | (simp [World.frozen?, World.alloc]; done) | rfl))
  have r4_3 : w3.cell? ⟨w.heap.size + 1, 4, none⟩ = some (.bool false) := (by rw [b3.cell (by first | omega | (simp; done) | (simp; omega))]; go_cell)
  have rf4_3 : w3.frozen? ⟨w.heap.size + 1, 4, none⟩ = false := (by rw [b3.frozen (by first | omega | (simp; done) | (simp; omega))]; (first | go_cell | (simp [World.frozen?, World.alloc]; done) | rfl))
  have r5_3 : w3.cell? ⟨w.heap.size + 1, 5, none⟩ = some (.bool false) := (by rw [b3.cell (by first | omega | (simp; done) | (simp; omega))]; go_cell)
  have rf5_3 : w3.frozen? ⟨w.heap.size + 1, 5, none⟩ = false := (by rw [b3.frozen (by first | omega | (simp; done) | (simp; omega))]; (first | go_cell | (simp [World.frozen?, World.alloc]; done) | rfl))
  have r6_3 : w3.cell? ⟨w.heap.size + 1, 6, none⟩ = some (.bool false) := (by rw [b3.cell (by first | omega | (simp; done) | (simp; omega))]; go_cell)
  have rf6_3 : w3.frozen? ⟨w.heap.size + 1, 6, none⟩ = false := (by rw [b3.frozen (by first | omega | (simp; done) | (simp; omega))]; (first | go_cell | (simp [World.frozen?, World.alloc]; done) | rfl))
  have r7_3 : w3.cell? ⟨w.heap.size + 1, 7, none⟩ = some (.int .i64 0) := (by rw [b3.cell (by first | omega | (simp; done) | (simp; omega))]; go_cell)
  have rf7_3 : w3.frozen? ⟨w.heap.size + 1, 7, none⟩ = false := (by rw [b3.frozen (by first | omega | (simp; done) | (simp; omega))]; (first | go_cell | (simp [World.frozen?, World.alloc]; done) | rfl))
  have r8_3 : w3.cell? ⟨w.heap.size + 1, 8, none⟩ = some (.int .i64 0) := (by rw [b3.cell (by first | omega | (simp; done) | (simp; omega))]; go_cell)
  have rf8_3 : w3.frozen? ⟨w.heap.size + 1, 8, none⟩ = false := (by rw [b3.frozen (by first | omega | (simp; done) | (simp; omega))]; (first | go_cell | (simp [World.frozen?, World.alloc]; done) | rfl))
  have r9_3 : w3.cell? ⟨w.heap.size + 1, 9, none⟩ = some (.int .i64 0) := (by rw [b3.cell (by first | omega | (simp; done) | (simp; omega))]; go_cell)
  have rf9_3 : w3.frozen? ⟨w.heap.size + 1, 9, none⟩ = false := (by rw [b3.frozen (by first | omega | (simp; done) | (simp; omega))]; (first | go_cell | (simp [World.frozen?, World.alloc]; done) | rfl))
  have r10_3 : w3.cell? ⟨w.heap.size + 1, 10, none⟩ = some (.int .i64 0) := (by rw [b3.cell (by first | omega | (simp; done) | (simp; omega))]; go_cell)
  have rf10_3 : w3.frozen? ⟨w.heap.size + 1, 10, none⟩ = false := (by rw [b3.frozen (by first | omega | (simp; done) | (simp; omega))]; (first | go_cell | (simp [World.frozen?, World.alloc]; done) | rfl))
  have r11_3 : w3.cell? ⟨w.heap.size + 1, 11, none⟩ = some (.int .i64 0) := (by rw [b3.cell (by first | omega | (simp; done) | (simp; omega))]; go_cell)
  have rf11_3 : w3.frozen? ⟨w.heap.size + 1, 11, none⟩ = false := (by rw [b3.frozen (by first | omega | (simp; done) | (simp; omega))]; (first | go_cell | (simp [World.frozen?, World.alloc]; done) | rfl))
  have r12_3 : w3.cell? ⟨w.heap.size + 1, 12, none⟩ = some (.slice none 0 0) := (by rw [b3.cell (by first | omega | (simp; done) | (simp; omega))]; go_cell)
  have rf12_3 : w3.frozen? ⟨w.heap.size + 1, 12, none⟩ = false := (by rw [b3.frozen (by first | omega | (simp; done) | (simp; omega))]; (first | go_cell | (simp [World.frozen?, World.alloc]; done) | rfl))
  have r13_3 : w3.cell? ⟨w.heap.size + 1, 13, none⟩ = some (.slice none 0 0) := (by rw [b3.cell (by first | omega | (simp; done) | (simp; omega))]; go_cell)
  have rf13_3 : w3.frozen? ⟨w.heap.size + 1, 13, none⟩ = false := (by rw [b3.frozen (by first | omega | (simp; done) | (simp; omega))]; (first | go_cell | (simp [World.frozen?, World.alloc]; done) | rfl))
  have rl_3 : w.heap.size + 1 < w3.heap.size := (by have := b3.size; first | omega | (revert this; simp; done) | (revert this; simp; omega))
  clear r0_2 rf0_2 r1_2 rf1_2 r2_2 rf2_2 r3_2 rf3_2 r4_2 rf4_2 r5_2 rf5_2 r6_2 rf6_2 r7_2 rf7_2 r8_2 rf8_2 r9_2 rf9_2 r10_2 rf10_2 r11_2 rf11_2 r12_2 rf12_2 r13_2 rf13_2 rl_2
  clear b3 d3 hS a0_2 a1_2 a2_2 a3_2 a4_2 a5_2 a6_2 a7_2 a8_2 a9_2 a10_2 a11_2 a12_2 a13_2 al_2
  go_wp2_with fail
  refine (keeperFall_less i0 i1 i2 q0 q1 _ _ _ _ _ K _ HS3.out hi HP.out.1).mono ?_
  rintro e w4 ⟨rfl, hS4, o4⟩
  have c4 : Below w.heap.size w w4 := c3.trans (o4.below (fun k hk => by omega) c3.size)
  have b4 : Below w2.heap.size w3 w4 := o4.below (fun k hk => by omega) (by omega)
  have hK4 : K < w4.heap.size := hS4.lt
  have HS4 := hid hS4
  have r0_4 : w4.cell? ⟨w.heap.size + 1, 0, none⟩ = some (.int .i64 0) := (by rw [b4.cell (by first | omega | (simp; done) | (simp; omega))]; go_cell)
  have rf0_4 : w4.frozen? ⟨w.heap.size + 1, 0, none⟩ = false := (by rw [b4.frozen (by first | omega | (simp; done) | (simp; omega))]; (first | go_cell | (simp [World.frozen?, World.alloc]; done) | rfl))
  have r1_4 : w4.cell? ⟨w.heap.size + 1, 1, none⟩ = some (.int .i64 0) := (by rw [b4.cell (by first | omega | (simp; done) | (simp; omega))]; go_cell)
  have rf1_4 : w4.frozen? ⟨w.heap.size + 1, 1, none⟩ = false := (by rw [b4.frozen (by first | omega | (simp; done) | (simp; omega))]; (first | go_cell | (simp [World.frozen?, World.alloc]; done) | rfl))
  have r2_4 : w4.cell? ⟨w.heap.size + 1, 2, none⟩ = some (.int .i64 0) := (by rw [b4.cell (by first | omega | (simp; done) | (simp; omega))]; go_cell)
  have rf2_4 : w4.frozen? ⟨w.heap.size + 1, 2, none⟩ = false := (by rw [b4.frozen (by first | omega | (simp; done) | (simp; omega))]; (first | go_cell | (simp [World.frozen?, World.alloc]; done) | rfl))
  have r3_4 : w4.cell? ⟨w.heap.size + 1, 3, none⟩ = some (.bool false) := (by rw [b4.cell (by first | omega | (simp; done) | (simp; omega))]; go_cell)
  have rf3_4 : w4.frozen? ⟨w.heap.size + 1, 3, none⟩ = false := (by rw [b4.frozen (by first | omega | (simp; done) | (simp; omega))]; (first | go_cell | (simp [World.frozen?, World.alloc]; done) | rfl))
  have r4_4 : w4.cell? ⟨w.heap.size + 1, 4, none⟩ = some (.bool false) := (by rw [b4.cell (by first | omega | (simp; done) | (simp; omega))]; go_cell)
  have rf4_4 : w4.frozen? ⟨w.heap.size + 1, 4, none⟩ = false := (by rw [b4.frozen (by first | omega | (simp; done) | (simp; omega))]; (first | go_cell | (simp [World.frozen?, World.alloc]; done) | rfl))
  have r5_4 : w4.cell? ⟨w.heap.size + 1, 5, none⟩ = some (.bool false) := (by rw [b4.cell (by first | omega | (simp; done) | (simp; omega))]; go_cell)
  have rf5_4 : w4.frozen? ⟨w.heap.size + 1, 5, none⟩ = false := (by rw [b4.frozen (by first | omega | (simp; done) | (simp; omega))]; (first | go_cell | (simp [World.frozen?, World.alloc]; done) | rfl))
  have r6_4 : w4.cell? ⟨w.heap.size + 1, 6, none⟩ = some (.bool false) := (by rw [b4.cell (by first | omega | (simp; done) | (simp; omega))]; go_cell)
  have rf6_4 : w4.frozen? ⟨w.heap.size + 1, 6, none⟩ = false := (by rw [b4.frozen (by first | omega | (simp; done) | (simp; omega))]; (first | go_cell | (simp [World.frozen?, World.alloc]; done) | rfl))
  have r7_4 : w4.cell? ⟨w.heap.size + 1, 7, none⟩ = some (.int .i64 0) := (by rw [b4.cell (by first | omega | (simp; done) | (simp; omega))]; go_cell)
  have rf7_4 : w4.frozen? ⟨w.heap.size + 1, 7, none⟩ = false := (by rw [b4.frozen (by first | omega | (simp; done) | (simp; omega))]; (first | go_cell | (simp [World.frozen?, World.alloc]; done) | rfl))
  have r8_4 : w4.cell? ⟨w.heap.size + 1, 8, none⟩ = some (.int .i64 0) := (by rw [b4.cell (by first | omega | (simp; done) | (simp; omega))]; go_cell)
  have rf8_4 : w4.frozen? ⟨w.heap.size + 1, 8, none⟩ = false := (by rw [b4.frozen (by first | omega | (simp; done) | (simp; omega))]; (first | go_cell | (simp [World.frozen?, World.alloc]; done) | rfl))
  have r9_4 : w4.cell? ⟨w.heap.size + 1, 9, none⟩ = some (.int .i64 0) := (by rw [b4.cell (by first | omega | (simp; done) | (simp; omega))]; go_cell)
  have rf9_4 : w4.frozen? ⟨w.heap.size + 1, 9, none⟩ = false := (by rw [b4.frozen (by first | omega | (simp; done) | (simp; omega))]; (first | go_cell | (simp [World.frozen?, World.alloc]; done) | rfl))
  have r10_4 : w4.cell? ⟨w.heap.size + 1, 10, none⟩ = some (.int .i64 0) := (by rw [b4.cell (by first | omega | (simp; done) | (simp; omega))]; go_cell)
  have rf10_4 : w4.frozen? ⟨w.heap.size + 1, 10, none⟩ = false := (by rw [b4.frozen (by first | omega | (simp; done) | (simp; omega))]; (first | go_cell | (simp [World.frozen?, World.alloc]; done) | rfl))
  have r11_4 : w4.cell? ⟨w.heap.size + 1, 11, none⟩ = some (.int .i64 0) := (by rw [b4.cell (by first | omega | (simp; done) | (simp; omega))]; go_cell)
  have rf11_4 : w4.frozen? ⟨w.heap.size + 1, 11, none⟩ = false := (by rw [b4.frozen (by first | omega | (simp; done) | (simp; omega))]; (first | go_cell | (simp [World.frozen?, World.alloc]; done) | rfl))
  have r12_4 : w4.cell? ⟨w.heap.size + 1, 12, none⟩ = some (.slice none 0 0) := (by rw [b4.cell (by first | omega | (simp; done) | (simp; omega))]; go_cell)
  have rf12_4 : w4.frozen? ⟨w.heap.size + 1, 12, none⟩ = false := (by rw [b4.frozen (by first | omega | (simp; done) | (simp; omega))]; (first | go_cell | (simp [World.frozen?, World.alloc]; done) | rfl))
  have r13_4 : w4.cell? ⟨w.heap.size + 1, 13, none⟩ = some (.slice none 0 0) := (by rw [b4.cell (by first | omega | (simp; done) | (simp; omega))]; go_cell)
  have rf13_4 : w4.frozen? ⟨w.heap.size + 1, 13, none⟩ = false := (by rw [b4.frozen (by first | omega | (simp; done) | (simp; omega))]; (first | go_cell | (simp [World.frozen?, World.alloc]; done) | rfl))
  have rl_4 : w.heap.size + 1 < w4.heap.size := (by have := b4.size; first | omega | (revert this; simp; done) | (revert this; simp; omega))
  have q0 := hS4.post 0 _ rfl
  have q1 := hS4.post 1 _ rfl
  have P0 : w4.cell? ⟨K, 114, none⟩ = some (.slice none 0 0) := q0
  have P1 : w4.cell? ⟨K, 115, none⟩ = some (.slice none 0 0) := q1
  have V4 : Hid (VarAt w4 (w.heap.size + 1) [.int .i64 0, .int .i64 0, .int .i64 0, .bool false, .bool false, .bool false, .bool false, .int .i64 0, .int .i64 0, .int .i64 0, .int .i64 0, .int .i64 0, .slice none 0 0, .slice none 0 0]) := hid ⟨rl_4, fun i v hv => by
    match i, hv with
    | 0, hv => cases hv; exact ⟨r0_4, rf0_4⟩
    | 1, hv => cases hv; exact ⟨r1_4, rf1_4⟩
    | 2, hv => cases hv; exact ⟨r2_4, rf2_4⟩
    | 3, hv => cases hv; exact ⟨r3_4, rf3_4⟩
    | 4, hv => cases hv; exact ⟨r4_4, rf4_4⟩
    | 5, hv => cases hv; exact ⟨r5_4, rf5_4⟩
    | 6, hv => cases hv; exact ⟨r6_4, rf6_4⟩
    | 7, hv => cases hv; exact ⟨r7_4, rf7_4⟩
    | 8, hv => cases hv; exact ⟨r8_4, rf8_4⟩
    | 9, hv => cases hv; exact ⟨r9_4, rf9_4⟩
    | 10, hv => cases hv; exact ⟨r10_4, rf10_4⟩
    | 11, hv => cases hv; exact ⟨r11_4, rf11_4⟩
    | 12, hv => cases hv; exact ⟨r12_4, rf12_4⟩
    | 13, hv => cases hv; exact ⟨r13_4, rf13_4⟩⟩
  have hn1 : ¬ K = w.heap.size + 1 := by omega
  have HLR := hid (show w.heap.size + 1 < w4.heap.size from rl_4)
  clear q0 q1 hS4 o4 b4 r0_3 r1_3 r2_3 r3_3 r4_3 r5_3 r6_3 r7_3 r8_3 r9_3 r10_3 r11_3 r12_3 r13_3
  go_upto_region 5 with fail
  go_cut [5, 6] from 5 (fun s t wx => s = .slice none 0 0 ∧ t = .slice none 0 0 ∧ CutB w.heap.size (w.heap.size + 1) w [.int .i64 i0, .int .i64 (i1 + 1), .int .i64 0, .bool false, .bool false, .bool false, .bool false, .int .i64 0, .int .i64 0, .int .i64 0, .int .i64 0, .int .i64 0] ([] : List KD) zeroF wx)
  case first =>
    have S4 : Hid (w4.drew.cell? ⟨K, 114, none⟩ = some (.slice none 0 0) ∧ w4.drew.cell? ⟨K, 115, none⟩ = some (.slice none 0 0)) := hid ⟨P0, P1⟩
    go_region_held3 (fun w' => w'.cell? ⟨K, 114, none⟩ = some (.slice none 0 0) ∧ w'.cell? ⟨K, 115, none⟩ = some (.slice none 0 0)) (first | with_reducible exact S4.out | with_reducible exact S5.out | with_reducible exact keepB hn1 S5.out | go_keep) (first
      | (go_at_call 74; refine (keeperTier_no i0 (i1 + 1) 0 false false _ _ emptyX zeroF [] K _ (HS4.out.later (Below.refl _ _).drew) ⟨rfl, fun i hi => ⟨0, by rw [zeroF, List.getD_eq_getElem?_getD, List.getElem?_replicate, if_pos hi]; rfl⟩⟩ (fun x hx => by simp [emptyX] at hx) (by simp [emptyX])).mono ?_; rintro e w5 ⟨⟨ua, uc, fo, fc, g, he, hgB, hgS, hgo, hgf⟩, b5⟩; simp only [List.cons_append, List.nil_append] at he; subst he; have d5 : Below w4.heap.size w4 w5 := (Below.trans (by go_grown) (b5.mono (by first | omega | (simp; done) | (simp; omega)))); have c5 : Below w.heap.size w w5 := c4.trans (d5.mono c4.size); have r0_5 : w5.cell? ⟨w.heap.size + 1, 0, none⟩ = some (.int .i64 0) := (by rw [b5.cell (by first | omega | (simp; done) | (simp; omega))]; go_cell); have rf0_5 : w5.frozen? ⟨w.heap.size + 1, 0, none⟩ = false := (by rw [b5.frozen (by first | omega | (simp; done) | (simp; omega))]; (first | go_cell | (simp [World.frozen?, World.alloc]; done) | rfl)); have r1_5 : w5.cell? ⟨w.heap.size + 1, 1, none⟩ = some (.int .i64 0) := (by rw [b5.cell (by first | omega | (simp; done) | (simp; omega))]; go_cell); have rf1_5 : w5.frozen? ⟨w.heap.size + 1, 1, none⟩ = false := (by rw [b5.frozen (by first | omega | (simp; done) | (simp; omega))]; (first | go_cell | (simp [World.frozen?, World.alloc]; done) | rfl)); have r2_5 : w5.cell? ⟨w.heap.size + 1, 2, none⟩ = some (.int .i64 0) := (by rw [b5.cell (by first | omega | (simp; done) | (simp; omega))]; go_cell); have rf2_5 : w5.frozen? ⟨w.heap.size + 1, 2, none⟩ = false := (by rw [b5.frozen (by first | omega | (simp; done) | (simp; omega))]; (first | go_cell | (simp [World.frozen?, World.alloc]; done) | rfl)); have r3_5 : w5.cell? ⟨w.heap.size + 1, 3, none⟩ = some (.bool false) := (by rw [b5.cell (by first | omega | (simp; done) | (simp; omega))]; go_cell); have rf3_5 : w5.frozen? ⟨w.heap.size + 1, 3, none⟩ = false := (by rw [b5.frozen (by first | omega | (simp; done) | (simp; omega))]; (first | go_cell | (simp [World.frozen?, World.alloc]; done) | rfl)); have r4_5 : w5.cell? ⟨w.heap.size + 1, 4, none⟩ = some (.bool false) := (by rw [b5.cell (by first | omega | (simp; done) | (simp; omega))]; go_cell); have rf4_5 : w5.frozen? ⟨w.heap.size + 1, 4, none⟩ = false := (by rw [b5.frozen (by first | omega | (simp; done) | (simp; omega))]; (first | go_cell | (simp [World.frozen?, World.alloc]; done) | rfl)); have r5_5 : w5.cell? ⟨w.heap.size + 1, 5, none⟩ = some (.bool false) := (by rw [b5.cell (by first | omega | (simp; done) | (simp; omega))]; go_cell); have rf5_5 : w5.frozen? ⟨w.heap.size + 1, 5, none⟩ = false := (by rw [b5.frozen (by first | omega | (simp; done) | (simp; omega))]; (first | go_cell | (simp [World.frozen?, World.alloc]; done) | rfl)); have r6_5 : w5.cell? ⟨w.heap.size + 1, 6, none⟩ = some (.bool false) := (by rw [b5.cell (by first | omega | (simp; done) | (simp; omega))]; go_cell); have rf6_5 : w5.frozen? ⟨w.heap.size + 1, 6, none⟩ = false := (by rw [b5.frozen (by first | omega | (simp; done) | (simp; omega))]; (first | go_cell | (simp [World.frozen?, World.alloc]; done) | rfl)); have r7_5 : w5.cell? ⟨w.heap.size + 1, 7, none⟩ = some (.int .i64 0) := (by rw [b5.cell (by first | omega | (simp; done) | (simp; omega))]; go_cell); have rf7_5 : w5.frozen? ⟨w.heap.size + 1, 7, none⟩ = false := (by rw [b5.frozen (by first | omega | (simp; done) | (simp; omega))]; (first | go_cell | (simp [World.frozen?, World.alloc]; done) | rfl)); have r8_5 : w5.cell? ⟨w.heap.size + 1, 8, none⟩ = some (.int .i64 0) := (by rw [b5.cell (by first | omega | (simp; done) | (simp; omega))]; go_cell); have rf8_5 : w5.frozen? ⟨w.heap.size + 1, 8, none⟩ = false := (by rw [b5.frozen (by first | omega | (simp; done) | (simp; omega))]; (first | go_cell | (simp [World.frozen?, World.alloc]; done) | rfl)); have r9_5 : w5.cell? ⟨w.heap.size + 1, 9, none⟩ = some (.int .i64 0) := (by rw [b5.cell (by first | omega | (simp; done) | (simp; omega))]; go_cell); have rf9_5 : w5.frozen? ⟨w.heap.size + 1, 9, none⟩ = false := (by rw [b5.frozen (by first | omega | (simp; done) | (simp; omega))]; (first | go_cell | (simp [World.frozen?, World.alloc]; done) | rfl)); have r10_5 : w5.cell? ⟨w.heap.size + 1, 10, none⟩ = some (.int .i64 0) := (by rw [b5.cell (by first | omega | (simp; done) | (simp; omega))]; go_cell); have rf10_5 : w5.frozen? ⟨w.heap.size + 1, 10, none⟩ = false := (by rw [b5.frozen (by first | omega | (simp; done) | (simp; omega))]; (first | go_cell | (simp [World.frozen?, World.alloc]; done) | rfl)); have r11_5 : w5.cell? ⟨w.heap.size + 1, 11, none⟩ = some (.int .i64 0) := (by rw [b5.cell (by first | omega | (simp; done) | (simp; omega))]; go_cell); have rf11_5 : w5.frozen? ⟨w.heap.size + 1, 11, none⟩ = false := (by rw [b5.frozen (by first | omega | (simp; done) | (simp; omega))]; (first | go_cell | (simp [World.frozen?, World.alloc]; done) | rfl)); have r12_5 : w5.cell? ⟨w.heap.size + 1, 12, none⟩ = some (.slice none 0 0) := (by rw [b5.cell (by first | omega | (simp; done) | (simp; omega))]; go_cell); have rf12_5 : w5.frozen? ⟨w.heap.size + 1, 12, none⟩ = false := (by rw [b5.frozen (by first | omega | (simp; done) | (simp; omega))]; (first | go_cell | (simp [World.frozen?, World.alloc]; done) | rfl)); have r13_5 : w5.cell? ⟨w.heap.size + 1, 13, none⟩ = some (.slice none 0 0) := (by rw [b5.cell (by first | omega | (simp; done) | (simp; omega))]; go_cell); have rf13_5 : w5.frozen? ⟨w.heap.size + 1, 13, none⟩ = false := (by rw [b5.frozen (by first | omega | (simp; done) | (simp; omega))]; (first | go_cell | (simp [World.frozen?, World.alloc]; done) | rfl)); have rl_5 : w.heap.size + 1 < w5.heap.size := (by have := b5.size; first | omega | (revert this; simp; done) | (revert this; simp; omega)); clear r0_4 rf0_4 r1_4 rf1_4 r2_4 rf2_4 r3_4 rf3_4 r4_4 rf4_4 r5_4 rf5_4 r6_4 rf6_4 r7_4 rf7_4 r8_4 rf8_4 r9_4 rf9_4 r10_4 rf10_4 r11_4 rf11_4 r12_4 rf12_4 r13_4 rf13_4 rl_4; have HO5 := hid hgo; have HF5 := hid hgf; have HG5 := hid (And.intro hgB hgS); have V5 := hid (V4.out.later d5); have HGR := hid (show w.heap.size + 1 < g from Nat.lt_of_lt_of_le HLR.out hgB); have P5 := hid (HS4.out.later d5); have S5 : Hid (w5.cell? ⟨K, 114, none⟩ = some (.slice none 0 0) ∧ w5.cell? ⟨K, 115, none⟩ = some (.slice none 0 0)) := hid ⟨P5.out.post 0 _ rfl, P5.out.post 1 _ rfl⟩; clear b5 hgo hgf hgB hgS))
    all_goals
      go_wp2_with fail
      go_meet
      have HC := (cutB_store HGR.out (Nat.le_succ _) 13 (by simp) (.slice fo zeroF.length fc) (cutB_store HGR.out (Nat.le_succ _) 12 (by simp) (.slice ua ([] : List KD).length uc) (cutB_store HGR.out (Nat.le_succ _) 11 (by simp) (.int .i64 0) (cutB_store HGR.out (Nat.le_succ _) 10 (by simp) (.int .i64 0) (cutB_store HGR.out (Nat.le_succ _) 9 (by simp) (.int .i64 0) (cutB_store HGR.out (Nat.le_succ _) 8 (by simp) (.int .i64 0) (cutB_store HGR.out (Nat.le_succ _) 7 (by simp) (.int .i64 0) (cutB_store HGR.out (Nat.le_succ _) 6 (by simp) (.bool false) (cutB_store HGR.out (Nat.le_succ _) 5 (by simp) (.bool false) (cutB_store HGR.out (Nat.le_succ _) 4 (by simp) (.bool false) (cutB_store HGR.out (Nat.le_succ _) 3 (by simp) (.bool false) (cutB_store HGR.out (Nat.le_succ _) 2 (by simp) (.int .i64 0) (cutB_store HGR.out (Nat.le_succ _) 1 (by simp) (.int .i64 (i1 + 1)) (cutB_store HGR.out (Nat.le_succ _) 0 (by simp) (.int .i64 i0) ⟨V5.out, HG5.out.2, HO5.out, HF5.out, c5⟩))))))))))))))
      exact ⟨rfl, rfl, ua, uc, fo, fc, g, HC.1, Nat.le_of_succ_le (Nat.le_of_lt HGR.out), HC.2.1, HC.2.2.1, HC.2.2.2.1, HC.2.2.2.2⟩
  case rest =>
    obtain ⟨rfl, rfl, ua, uc, fo, fc, g, hv, hg0, hg1, ho, hf, hb⟩ := hcut
    have e0 := hv.c 0 rfl
    have e1 := hv.c 1 rfl
    have e2 := hv.c 2 rfl
    have e3 := hv.c 3 rfl
    have e4 := hv.c 4 rfl
    have e5 := hv.c 5 rfl
    have e6 := hv.c 6 rfl
    have e7 := hv.c 7 rfl
    have e8 := hv.c 8 rfl
    have e9 := hv.c 9 rfl
    have e10 := hv.c 10 rfl
    have e11 := hv.c 11 rfl
    have e12 := hv.c 12 rfl
    have e13 := hv.c 13 rfl
    have HO := hid ho
    have HFF := hid hf
    have HB := hid hb
    have HGG := hid (And.intro hg0 hg1)
    clear ho hf hb hv hg0 hg1
    go_wp2
    exact bodyPost_ret (v := .tuple #[.agg #[.int .i64 i0, .int .i64 (i1 + 1), .int .i64 0, .bool false, .bool false, .bool false, .bool false, .int .i64 0, .int .i64 0, .int .i64 0, .int .i64 0, .int .i64 0, .slice ua ([] : List KD).length uc, .slice fo zeroF.length fc], .slice none 0 0, .slice none 0 0]) (by simp [results, Tryz.results46, go_sem, e0, e1, e2, e3, e4, e5, e6, e7, e8, e9, e10, e11, e12, e13]) rfl ⟨⟨ua, uc, fo, fc, g, rfl, HGG.out.1, HGG.out.2, HO.out, HFF.out⟩, HB.out⟩
end Go.Proofs.YtddpoheoecafjaaGreat
