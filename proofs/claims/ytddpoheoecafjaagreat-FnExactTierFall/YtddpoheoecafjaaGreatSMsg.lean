/- The law's own helpers of a message: contracts. Written by a program (gmsg.py). -/
import Derived.Test.YtddpoheoecafjaaGreatGrA
import Derived.Test.YtddpoheoecafjaaGreatKIntent
namespace Go.Proofs.YtddpoheoecafjaaGreat
open Go.RowKit
attribute [local go_sem ↓] Go.wp_at_zero Go.wp_at_succ

theorem Own.set_out {w : World} {B : Nat} {v : Value} {l : List (Int × Int)} (h : Own w B v l) {p : Addr} (hp : p.block < B) (u : Value) : Own (w.setCell p u) B v l :=
  h.agree fun k hk => Below.heap_setCell _ _ _ _ (by have := (h.block k hk).1; omega)

/-- The two lists of a message read so. -/
structure RSMsg (w : World) (v0 v1 : Value) (L0 : List (Int × Int)) (L1 : List KD) : Prop where
  h0 : Rd w v0 L0
  h1 : RdM 1 1 false w v1 L1
theorem RSMsg.later {w w' : World} {v0 v1 : Value} {L0 : List (Int × Int)} {L1 : List KD} (h : RSMsg w v0 v1 L0 L1) (hb : Below w.heap.size w w') : RSMsg w' v0 v1 L0 L1 := ⟨h.h0.later hb, h.h1.later hb⟩
theorem RSMsg.open {w : World} {v0 v1 : Value} {L0 : List (Int × Int)} {L1 : List KD} (h : RSMsg w v0 v1 L0 L1) : ∃ (o0 o1 : Option Addr) (c0 c1 : Nat), v0 = .slice o0 L0.length c0 ∧ v1 = .slice o1 L1.length c1 := by
  obtain ⟨o0, c0, e0, _⟩ := h.h0
  obtain ⟨o1, c1, e1, _⟩ := h.h1
  exact ⟨o0, o1, c0, c1, e0, e1⟩
/-- How much two lists measure. -/
def SzE (n0 n1 : Nat) (left : Int) (e : Ending) : Prop :=
  (∃ r : Int, e = .returned (.int .i64 r) ∧ 0 ≤ r ∧ r ≤ left ∧ n0 ≤ 1048576 ∧ n1 ≤ 1048576) ∨ e = .returned (.int .i64 (-1))

set_option maxRecDepth 100000 in
set_option maxHeartbeats 4000000 in
theorem eqMsg_rd (i0 i1 i2 i3 i4 i5 i6 i7 i8 i9 i10 i11 i12 : Int) (va0 va1 vb0 vb1 : Value) (L0 : List (Int × Int)) (L1 : List KD) (w : World) (ha : RSMsg w va0 va1 L0 L1) (hb : RSMsg w vb0 vb1 L0 L1) :
    Calls Tryz.prog 49 #[.agg #[.int .i64 i0, .int .i64 i1, .int .i64 i2, .int .i64 i3, .int .i64 i4, .int .i64 i5, .int .i64 i6, .int .i64 i7, .int .i64 i8, .int .i64 i9, .int .i64 i10, .int .i64 i11, va0, va1, .int .i64 i12], .agg #[.int .i64 i0, .int .i64 i1, .int .i64 i2, .int .i64 i3, .int .i64 i4, .int .i64 i5, .int .i64 i6, .int .i64 i7, .int .i64 i8, .int .i64 i9, .int .i64 i10, .int .i64 i11, vb0, vb1, .int .i64 i12]] w fun e w' => e = .returned (.bool true) ∧ Below w.heap.size w w' := by
  have HA := hid ha
  have HB := hid hb
  obtain ⟨ao0, ao1, ac0, ac1, rfl, rfl⟩ := ha.open
  obtain ⟨bo0, bo1, bc0, bc1, rfl, rfl⟩ := hb.open
  clear ha hb
  go_enter Tryz.func49, Tryz.ntmps49
  go_wp2_with fail
  have a0_1 : ((w.alloc (.cells #[.int .i64 i0, .int .i64 i1, .int .i64 i2, .int .i64 i3, .int .i64 i4, .int .i64 i5, .int .i64 i6, .int .i64 i7, .int .i64 i8, .int .i64 i9, .int .i64 i10, .int .i64 i11, .slice ao0 L0.length ac0, .slice ao1 L1.length ac1, .int .i64 i12] 86)).alloc (.cells #[.int .i64 i0, .int .i64 i1, .int .i64 i2, .int .i64 i3, .int .i64 i4, .int .i64 i5, .int .i64 i6, .int .i64 i7, .int .i64 i8, .int .i64 i9, .int .i64 i10, .int .i64 i11, .slice bo0 L0.length bc0, .slice bo1 L1.length bc1, .int .i64 i12] 86)).cell? ⟨w.heap.size, 0, none⟩ = some (.int .i64 i0) := by go_cell
  have a1_1 : ((w.alloc (.cells #[.int .i64 i0, .int .i64 i1, .int .i64 i2, .int .i64 i3, .int .i64 i4, .int .i64 i5, .int .i64 i6, .int .i64 i7, .int .i64 i8, .int .i64 i9, .int .i64 i10, .int .i64 i11, .slice ao0 L0.length ac0, .slice ao1 L1.length ac1, .int .i64 i12] 86)).alloc (.cells #[.int .i64 i0, .int .i64 i1, .int .i64 i2, .int .i64 i3, .int .i64 i4, .int .i64 i5, .int .i64 i6, .int .i64 i7, .int .i64 i8, .int .i64 i9, .int .i64 i10, .int .i64 i11, .slice bo0 L0.length bc0, .slice bo1 L1.length bc1, .int .i64 i12] 86)).cell? ⟨w.heap.size, 1, none⟩ = some (.int .i64 i1) := by go_cell
  have a2_1 : ((w.alloc (.cells #[.int .i64 i0, .int .i64 i1, .int .i64 i2, .int .i64 i3, .int .i64 i4, .int .i64 i5, .int .i64 i6, .int .i64 i7, .int .i64 i8, .int .i64 i9, .int .i64 i10, .int .i64 i11, .slice ao0 L0.length ac0, .slice ao1 L1.length ac1, .int .i64 i12] 86)).alloc (.cells #[.int .i64 i0, .int .i64 i1, .int .i64 i2, .int .i64 i3, .int .i64 i4, .int .i64 i5, .int .i64 i6, .int .i64 i7, .int .i64 i8, .int .i64 i9, .int .i64 i10, .int .i64 i11, .slice bo0 L0.length bc0, .slice bo1 L1.length bc1, .int .i64 i12] 86)).cell? ⟨w.heap.size, 2, none⟩ = some (.int .i64 i2) := by go_cell
  have a3_1 : ((w.alloc (.cells #[.int .i64 i0, .int .i64 i1, .int .i64 i2, .int .i64 i3, .int .i64 i4, .int .i64 i5, .int .i64 i6, .int .i64 i7, .int .i64 i8, .int .i64 i9, .int .i64 i10, .int .i64 i11, .slice ao0 L0.length ac0, .slice ao1 L1.length ac1, .int .i64 i12] 86)).alloc (.cells #[.int .i64 i0, .int .i64 i1, .int .i64 i2, .int .i64 i3, .int .i64 i4, .int .i64 i5, .int .i64 i6, .int .i64 i7, .int .i64 i8, .int .i64 i9, .int .i64 i10, .int .i64 i11, .slice bo0 L0.length bc0, .slice bo1 L1.length bc1, .int .i64 i12] 86)).cell? ⟨w.heap.size, 3, none⟩ = some (.int .i64 i3) := by go_cell
  have a4_1 : ((w.alloc (.cells #[.int .i64 i0, .int .i64 i1, .int .i64 i2, .int .i64 i3, .int .i64 i4, .int .i64 i5, .int .i64 i6, .int .i64 i7, .int .i64 i8, .int .i64 i9, .int .i64 i10, .int .i64 i11, .slice ao0 L0.length ac0, .slice ao1 L1.length ac1, .int .i64 i12] 86)).alloc (.cells #[.int .i64 i0, .int .i64 i1, .int .i64 i2, .int .i64 i3, .int .i64 i4, .int .i64 i5, .int .i64 i6, .int .i64 i7, .int .i64 i8, .int .i64 i9, .int .i64 i10, .int .i64 i11, .slice bo0 L0.length bc0, .slice bo1 L1.length bc1, .int .i64 i12] 86)).cell? ⟨w.heap.size, 4, none⟩ = some (.int .i64 i4) := by go_cell
  have a5_1 : ((w.alloc (.cells #[.int .i64 i0, .int .i64 i1, .int .i64 i2, .int .i64 i3, .int .i64 i4, .int .i64 i5, .int .i64 i6, .int .i64 i7, .int .i64 i8, .int .i64 i9, .int .i64 i10, .int .i64 i11, .slice ao0 L0.length ac0, .slice ao1 L1.length ac1, .int .i64 i12] 86)).alloc (.cells #[.int .i64 i0, .int .i64 i1, .int .i64 i2, .int .i64 i3, .int .i64 i4, .int .i64 i5, .int .i64 i6, .int .i64 i7, .int .i64 i8, .int .i64 i9, .int .i64 i10, .int .i64 i11, .slice bo0 L0.length bc0, .slice bo1 L1.length bc1, .int .i64 i12] 86)).cell? ⟨w.heap.size, 5, none⟩ = some (.int .i64 i5) := by go_cell
  have a6_1 : ((w.alloc (.cells #[.int .i64 i0, .int .i64 i1, .int .i64 i2, .int .i64 i3, .int .i64 i4, .int .i64 i5, .int .i64 i6, .int .i64 i7, .int .i64 i8, .int .i64 i9, .int .i64 i10, .int .i64 i11, .slice ao0 L0.length ac0, .slice ao1 L1.length ac1, .int .i64 i12] 86)).alloc (.cells #[.int .i64 i0, .int .i64 i1, .int .i64 i2, .int .i64 i3, .int .i64 i4, .int .i64 i5, .int .i64 i6, .int .i64 i7, .int .i64 i8, .int .i64 i9, .int .i64 i10, .int .i64 i11, .slice bo0 L0.length bc0, .slice bo1 L1.length bc1, .int .i64 i12] 86)).cell? ⟨w.heap.size, 6, none⟩ = some (.int .i64 i6) := by go_cell
  have a7_1 : ((w.alloc (.cells #[.int .i64 i0, .int .i64 i1, .int .i64 i2, .int .i64 i3, .int .i64 i4, .int .i64 i5, .int .i64 i6, .int .i64 i7, .int .i64 i8, .int .i64 i9, .int .i64 i10, .int .i64 i11, .slice ao0 L0.length ac0, .slice ao1 L1.length ac1, .int .i64 i12] 86)).alloc (.cells #[.int .i64 i0, .int .i64 i1, .int .i64 i2, .int .i64 i3, .int .i64 i4, .int .i64 i5, .int .i64 i6, .int .i64 i7, .int .i64 i8, .int .i64 i9, .int .i64 i10, .int .i64 i11, .slice bo0 L0.length bc0, .slice bo1 L1.length bc1, .int .i64 i12] 86)).cell? ⟨w.heap.size, 7, none⟩ = some (.int .i64 i7) := by go_cell
  have a8_1 : ((w.alloc (.cells #[.int .i64 i0, .int .i64 i1, .int .i64 i2, .int .i64 i3, .int .i64 i4, .int .i64 i5, .int .i64 i6, .int .i64 i7, .int .i64 i8, .int .i64 i9, .int .i64 i10, .int .i64 i11, .slice ao0 L0.length ac0, .slice ao1 L1.length ac1, .int .i64 i12] 86)).alloc (.cells #[.int .i64 i0, .int .i64 i1, .int .i64 i2, .int .i64 i3, .int .i64 i4, .int .i64 i5, .int .i64 i6, .int .i64 i7, .int .i64 i8, .int .i64 i9, .int .i64 i10, .int .i64 i11, .slice bo0 L0.length bc0, .slice bo1 L1.length bc1, .int .i64 i12] 86)).cell? ⟨w.heap.size, 8, none⟩ = some (.int .i64 i8) := by go_cell
  have a9_1 : ((w.alloc (.cells #[.int .i64 i0, .int .i64 i1, .int .i64 i2, .int .i64 i3, .int .i64 i4, .int .i64 i5, .int .i64 i6, .int .i64 i7, .int .i64 i8, .int .i64 i9, .int .i64 i10, .int .i64 i11, .slice ao0 L0.length ac0, .slice ao1 L1.length ac1, .int .i64 i12] 86)).alloc (.cells #[.int .i64 i0, .int .i64 i1, .int .i64 i2, .int .i64 i3, .int .i64 i4, .int .i64 i5, .int .i64 i6, .int .i64 i7, .int .i64 i8, .int .i64 i9, .int .i64 i10, .int .i64 i11, .slice bo0 L0.length bc0, .slice bo1 L1.length bc1, .int .i64 i12] 86)).cell? ⟨w.heap.size, 9, none⟩ = some (.int .i64 i9) := by go_cell
  have a10_1 : ((w.alloc (.cells #[.int .i64 i0, .int .i64 i1, .int .i64 i2, .int .i64 i3, .int .i64 i4, .int .i64 i5, .int .i64 i6, .int .i64 i7, .int .i64 i8, .int .i64 i9, .int .i64 i10, .int .i64 i11, .slice ao0 L0.length ac0, .slice ao1 L1.length ac1, .int .i64 i12] 86)).alloc (.cells #[.int .i64 i0, .int .i64 i1, .int .i64 i2, .int .i64 i3, .int .i64 i4, .int .i64 i5, .int .i64 i6, .int .i64 i7, .int .i64 i8, .int .i64 i9, .int .i64 i10, .int .i64 i11, .slice bo0 L0.length bc0, .slice bo1 L1.length bc1, .int .i64 i12] 86)).cell? ⟨w.heap.size, 10, none⟩ = some (.int .i64 i10) := by go_cell
  have a11_1 : ((w.alloc (.cells #[.int .i64 i0, .int .i64 i1, .int .i64 i2, .int .i64 i3, .int .i64 i4, .int .i64 i5, .int .i64 i6, .int .i64 i7, .int .i64 i8, .int .i64 i9, .int .i64 i10, .int .i64 i11, .slice ao0 L0.length ac0, .slice ao1 L1.length ac1, .int .i64 i12] 86)).alloc (.cells #[.int .i64 i0, .int .i64 i1, .int .i64 i2, .int .i64 i3, .int .i64 i4, .int .i64 i5, .int .i64 i6, .int .i64 i7, .int .i64 i8, .int .i64 i9, .int .i64 i10, .int .i64 i11, .slice bo0 L0.length bc0, .slice bo1 L1.length bc1, .int .i64 i12] 86)).cell? ⟨w.heap.size, 11, none⟩ = some (.int .i64 i11) := by go_cell
  have a12_1 : ((w.alloc (.cells #[.int .i64 i0, .int .i64 i1, .int .i64 i2, .int .i64 i3, .int .i64 i4, .int .i64 i5, .int .i64 i6, .int .i64 i7, .int .i64 i8, .int .i64 i9, .int .i64 i10, .int .i64 i11, .slice ao0 L0.length ac0, .slice ao1 L1.length ac1, .int .i64 i12] 86)).alloc (.cells #[.int .i64 i0, .int .i64 i1, .int .i64 i2, .int .i64 i3, .int .i64 i4, .int .i64 i5, .int .i64 i6, .int .i64 i7, .int .i64 i8, .int .i64 i9, .int .i64 i10, .int .i64 i11, .slice bo0 L0.length bc0, .slice bo1 L1.length bc1, .int .i64 i12] 86)).cell? ⟨w.heap.size, 12, none⟩ = some (.slice ao0 L0.length ac0) := by go_cell
  have a13_1 : ((w.alloc (.cells #[.int .i64 i0, .int .i64 i1, .int .i64 i2, .int .i64 i3, .int .i64 i4, .int .i64 i5, .int .i64 i6, .int .i64 i7, .int .i64 i8, .int .i64 i9, .int .i64 i10, .int .i64 i11, .slice ao0 L0.length ac0, .slice ao1 L1.length ac1, .int .i64 i12] 86)).alloc (.cells #[.int .i64 i0, .int .i64 i1, .int .i64 i2, .int .i64 i3, .int .i64 i4, .int .i64 i5, .int .i64 i6, .int .i64 i7, .int .i64 i8, .int .i64 i9, .int .i64 i10, .int .i64 i11, .slice bo0 L0.length bc0, .slice bo1 L1.length bc1, .int .i64 i12] 86)).cell? ⟨w.heap.size, 13, none⟩ = some (.slice ao1 L1.length ac1) := by go_cell
  have a14_1 : ((w.alloc (.cells #[.int .i64 i0, .int .i64 i1, .int .i64 i2, .int .i64 i3, .int .i64 i4, .int .i64 i5, .int .i64 i6, .int .i64 i7, .int .i64 i8, .int .i64 i9, .int .i64 i10, .int .i64 i11, .slice ao0 L0.length ac0, .slice ao1 L1.length ac1, .int .i64 i12] 86)).alloc (.cells #[.int .i64 i0, .int .i64 i1, .int .i64 i2, .int .i64 i3, .int .i64 i4, .int .i64 i5, .int .i64 i6, .int .i64 i7, .int .i64 i8, .int .i64 i9, .int .i64 i10, .int .i64 i11, .slice bo0 L0.length bc0, .slice bo1 L1.length bc1, .int .i64 i12] 86)).cell? ⟨w.heap.size, 14, none⟩ = some (.int .i64 i12) := by go_cell
  have al_1 : w.heap.size < ((w.alloc (.cells #[.int .i64 i0, .int .i64 i1, .int .i64 i2, .int .i64 i3, .int .i64 i4, .int .i64 i5, .int .i64 i6, .int .i64 i7, .int .i64 i8, .int .i64 i9, .int .i64 i10, .int .i64 i11, .slice ao0 L0.length ac0, .slice ao1 L1.length ac1, .int .i64 i12] 86)).alloc (.cells #[.int .i64 i0, .int .i64 i1, .int .i64 i2, .int .i64 i3, .int .i64 i4, .int .i64 i5, .int .i64 i6, .int .i64 i7, .int .i64 i8, .int .i64 i9, .int .i64 i10, .int .i64 i11, .slice bo0 L0.length bc0, .slice bo1 L1.length bc1, .int .i64 i12] 86)).heap.size := by first | (simp; done) | (simp; omega)
  have b0_1 : ((w.alloc (.cells #[.int .i64 i0, .int .i64 i1, .int .i64 i2, .int .i64 i3, .int .i64 i4, .int .i64 i5, .int .i64 i6, .int .i64 i7, .int .i64 i8, .int .i64 i9, .int .i64 i10, .int .i64 i11, .slice ao0 L0.length ac0, .slice ao1 L1.length ac1, .int .i64 i12] 86)).alloc (.cells #[.int .i64 i0, .int .i64 i1, .int .i64 i2, .int .i64 i3, .int .i64 i4, .int .i64 i5, .int .i64 i6, .int .i64 i7, .int .i64 i8, .int .i64 i9, .int .i64 i10, .int .i64 i11, .slice bo0 L0.length bc0, .slice bo1 L1.length bc1, .int .i64 i12] 86)).cell? ⟨w.heap.size + 1, 0, none⟩ = some (.int .i64 i0) := by go_cell
  have b1_1 : ((w.alloc (.cells #[.int .i64 i0, .int .i64 i1, .int .i64 i2, .int .i64 i3, .int .i64 i4, .int .i64 i5, .int .i64 i6, .int .i64 i7, .int .i64 i8, .int .i64 i9, .int .i64 i10, .int .i64 i11, .slice ao0 L0.length ac0, .slice ao1 L1.length ac1, .int .i64 i12] 86)).alloc (.cells #[.int .i64 i0, .int .i64 i1, .int .i64 i2, .int .i64 i3, .int .i64 i4, .int .i64 i5, .int .i64 i6, .int .i64 i7, .int .i64 i8, .int .i64 i9, .int .i64 i10, .int .i64 i11, .slice bo0 L0.length bc0, .slice bo1 L1.length bc1, .int .i64 i12] 86)).cell? ⟨w.heap.size + 1, 1, none⟩ = some (.int .i64 i1) := by go_cell
  have b2_1 : ((w.alloc (.cells #[.int .i64 i0, .int .i64 i1, .int .i64 i2, .int .i64 i3, .int .i64 i4, .int .i64 i5, .int .i64 i6, .int .i64 i7, .int .i64 i8, .int .i64 i9, .int .i64 i10, .int .i64 i11, .slice ao0 L0.length ac0, .slice ao1 L1.length ac1, .int .i64 i12] 86)).alloc (.cells #[.int .i64 i0, .int .i64 i1, .int .i64 i2, .int .i64 i3, .int .i64 i4, .int .i64 i5, .int .i64 i6, .int .i64 i7, .int .i64 i8, .int .i64 i9, .int .i64 i10, .int .i64 i11, .slice bo0 L0.length bc0, .slice bo1 L1.length bc1, .int .i64 i12] 86)).cell? ⟨w.heap.size + 1, 2, none⟩ = some (.int .i64 i2) := by go_cell
  have b3_1 : ((w.alloc (.cells #[.int .i64 i0, .int .i64 i1, .int .i64 i2, .int .i64 i3, .int .i64 i4, .int .i64 i5, .int .i64 i6, .int .i64 i7, .int .i64 i8, .int .i64 i9, .int .i64 i10, .int .i64 i11, .slice ao0 L0.length ac0, .slice ao1 L1.length ac1, .int .i64 i12] 86)).alloc (.cells #[.int .i64 i0, .int .i64 i1, .int .i64 i2, .int .i64 i3, .int .i64 i4, .int .i64 i5, .int .i64 i6, .int .i64 i7, .int .i64 i8, .int .i64 i9, .int .i64 i10, .int .i64 i11, .slice bo0 L0.length bc0, .slice bo1 L1.length bc1, .int .i64 i12] 86)).cell? ⟨w.heap.size + 1, 3, none⟩ = some (.int .i64 i3) := by go_cell
  have b4_1 : ((w.alloc (.cells #[.int .i64 i0, .int .i64 i1, .int .i64 i2, .int .i64 i3, .int .i64 i4, .int .i64 i5, .int .i64 i6, .int .i64 i7, .int .i64 i8, .int .i64 i9, .int .i64 i10, .int .i64 i11, .slice ao0 L0.length ac0, .slice ao1 L1.length ac1, .int .i64 i12] 86)).alloc (.cells #[.int .i64 i0, .int .i64 i1, .int .i64 i2, .int .i64 i3, .int .i64 i4, .int .i64 i5, .int .i64 i6, .int .i64 i7, .int .i64 i8, .int .i64 i9, .int .i64 i10, .int .i64 i11, .slice bo0 L0.length bc0, .slice bo1 L1.length bc1, .int .i64 i12] 86)).cell? ⟨w.heap.size + 1, 4, none⟩ = some (.int .i64 i4) := by go_cell
  have b5_1 : ((w.alloc (.cells #[.int .i64 i0, .int .i64 i1, .int .i64 i2, .int .i64 i3, .int .i64 i4, .int .i64 i5, .int .i64 i6, .int .i64 i7, .int .i64 i8, .int .i64 i9, .int .i64 i10, .int .i64 i11, .slice ao0 L0.length ac0, .slice ao1 L1.length ac1, .int .i64 i12] 86)).alloc (.cells #[.int .i64 i0, .int .i64 i1, .int .i64 i2, .int .i64 i3, .int .i64 i4, .int .i64 i5, .int .i64 i6, .int .i64 i7, .int .i64 i8, .int .i64 i9, .int .i64 i10, .int .i64 i11, .slice bo0 L0.length bc0, .slice bo1 L1.length bc1, .int .i64 i12] 86)).cell? ⟨w.heap.size + 1, 5, none⟩ = some (.int .i64 i5) := by go_cell
  have b6_1 : ((w.alloc (.cells #[.int .i64 i0, .int .i64 i1, .int .i64 i2, .int .i64 i3, .int .i64 i4, .int .i64 i5, .int .i64 i6, .int .i64 i7, .int .i64 i8, .int .i64 i9, .int .i64 i10, .int .i64 i11, .slice ao0 L0.length ac0, .slice ao1 L1.length ac1, .int .i64 i12] 86)).alloc (.cells #[.int .i64 i0, .int .i64 i1, .int .i64 i2, .int .i64 i3, .int .i64 i4, .int .i64 i5, .int .i64 i6, .int .i64 i7, .int .i64 i8, .int .i64 i9, .int .i64 i10, .int .i64 i11, .slice bo0 L0.length bc0, .slice bo1 L1.length bc1, .int .i64 i12] 86)).cell? ⟨w.heap.size + 1, 6, none⟩ = some (.int .i64 i6) := by go_cell
  have b7_1 : ((w.alloc (.cells #[.int .i64 i0, .int .i64 i1, .int .i64 i2, .int .i64 i3, .int .i64 i4, .int .i64 i5, .int .i64 i6, .int .i64 i7, .int .i64 i8, .int .i64 i9, .int .i64 i10, .int .i64 i11, .slice ao0 L0.length ac0, .slice ao1 L1.length ac1, .int .i64 i12] 86)).alloc (.cells #[.int .i64 i0, .int .i64 i1, .int .i64 i2, .int .i64 i3, .int .i64 i4, .int .i64 i5, .int .i64 i6, .int .i64 i7, .int .i64 i8, .int .i64 i9, .int .i64 i10, .int .i64 i11, .slice bo0 L0.length bc0, .slice bo1 L1.length bc1, .int .i64 i12] 86)).cell? ⟨w.heap.size + 1, 7, none⟩ = some (.int .i64 i7) := by go_cell
  have b8_1 : ((w.alloc (.cells #[.int .i64 i0, .int .i64 i1, .int .i64 i2, .int .i64 i3, .int .i64 i4, .int .i64 i5, .int .i64 i6, .int .i64 i7, .int .i64 i8, .int .i64 i9, .int .i64 i10, .int .i64 i11, .slice ao0 L0.length ac0, .slice ao1 L1.length ac1, .int .i64 i12] 86)).alloc (.cells #[.int .i64 i0, .int .i64 i1, .int .i64 i2, .int .i64 i3, .int .i64 i4, .int .i64 i5, .int .i64 i6, .int .i64 i7, .int .i64 i8, .int .i64 i9, .int .i64 i10, .int .i64 i11, .slice bo0 L0.length bc0, .slice bo1 L1.length bc1, .int .i64 i12] 86)).cell? ⟨w.heap.size + 1, 8, none⟩ = some (.int .i64 i8) := by go_cell
  have b9_1 : ((w.alloc (.cells #[.int .i64 i0, .int .i64 i1, .int .i64 i2, .int .i64 i3, .int .i64 i4, .int .i64 i5, .int .i64 i6, .int .i64 i7, .int .i64 i8, .int .i64 i9, .int .i64 i10, .int .i64 i11, .slice ao0 L0.length ac0, .slice ao1 L1.length ac1, .int .i64 i12] 86)).alloc (.cells #[.int .i64 i0, .int .i64 i1, .int .i64 i2, .int .i64 i3, .int .i64 i4, .int .i64 i5, .int .i64 i6, .int .i64 i7, .int .i64 i8, .int .i64 i9, .int .i64 i10, .int .i64 i11, .slice bo0 L0.length bc0, .slice bo1 L1.length bc1, .int .i64 i12] 86)).cell? ⟨w.heap.size + 1, 9, none⟩ = some (.int .i64 i9) := by go_cell
  have b10_1 : ((w.alloc (.cells #[.int .i64 i0, .int .i64 i1, .int .i64 i2, .int .i64 i3, .int .i64 i4, .int .i64 i5, .int .i64 i6, .int .i64 i7, .int .i64 i8, .int .i64 i9, .int .i64 i10, .int .i64 i11, .slice ao0 L0.length ac0, .slice ao1 L1.length ac1, .int .i64 i12] 86)).alloc (.cells #[.int .i64 i0, .int .i64 i1, .int .i64 i2, .int .i64 i3, .int .i64 i4, .int .i64 i5, .int .i64 i6, .int .i64 i7, .int .i64 i8, .int .i64 i9, .int .i64 i10, .int .i64 i11, .slice bo0 L0.length bc0, .slice bo1 L1.length bc1, .int .i64 i12] 86)).cell? ⟨w.heap.size + 1, 10, none⟩ = some (.int .i64 i10) := by go_cell
  have b11_1 : ((w.alloc (.cells #[.int .i64 i0, .int .i64 i1, .int .i64 i2, .int .i64 i3, .int .i64 i4, .int .i64 i5, .int .i64 i6, .int .i64 i7, .int .i64 i8, .int .i64 i9, .int .i64 i10, .int .i64 i11, .slice ao0 L0.length ac0, .slice ao1 L1.length ac1, .int .i64 i12] 86)).alloc (.cells #[.int .i64 i0, .int .i64 i1, .int .i64 i2, .int .i64 i3, .int .i64 i4, .int .i64 i5, .int .i64 i6, .int .i64 i7, .int .i64 i8, .int .i64 i9, .int .i64 i10, .int .i64 i11, .slice bo0 L0.length bc0, .slice bo1 L1.length bc1, .int .i64 i12] 86)).cell? ⟨w.heap.size + 1, 11, none⟩ = some (.int .i64 i11) := by go_cell
  have b12_1 : ((w.alloc (.cells #[.int .i64 i0, .int .i64 i1, .int .i64 i2, .int .i64 i3, .int .i64 i4, .int .i64 i5, .int .i64 i6, .int .i64 i7, .int .i64 i8, .int .i64 i9, .int .i64 i10, .int .i64 i11, .slice ao0 L0.length ac0, .slice ao1 L1.length ac1, .int .i64 i12] 86)).alloc (.cells #[.int .i64 i0, .int .i64 i1, .int .i64 i2, .int .i64 i3, .int .i64 i4, .int .i64 i5, .int .i64 i6, .int .i64 i7, .int .i64 i8, .int .i64 i9, .int .i64 i10, .int .i64 i11, .slice bo0 L0.length bc0, .slice bo1 L1.length bc1, .int .i64 i12] 86)).cell? ⟨w.heap.size + 1, 12, none⟩ = some (.slice bo0 L0.length bc0) := by go_cell
  have b13_1 : ((w.alloc (.cells #[.int .i64 i0, .int .i64 i1, .int .i64 i2, .int .i64 i3, .int .i64 i4, .int .i64 i5, .int .i64 i6, .int .i64 i7, .int .i64 i8, .int .i64 i9, .int .i64 i10, .int .i64 i11, .slice ao0 L0.length ac0, .slice ao1 L1.length ac1, .int .i64 i12] 86)).alloc (.cells #[.int .i64 i0, .int .i64 i1, .int .i64 i2, .int .i64 i3, .int .i64 i4, .int .i64 i5, .int .i64 i6, .int .i64 i7, .int .i64 i8, .int .i64 i9, .int .i64 i10, .int .i64 i11, .slice bo0 L0.length bc0, .slice bo1 L1.length bc1, .int .i64 i12] 86)).cell? ⟨w.heap.size + 1, 13, none⟩ = some (.slice bo1 L1.length bc1) := by go_cell
  have b14_1 : ((w.alloc (.cells #[.int .i64 i0, .int .i64 i1, .int .i64 i2, .int .i64 i3, .int .i64 i4, .int .i64 i5, .int .i64 i6, .int .i64 i7, .int .i64 i8, .int .i64 i9, .int .i64 i10, .int .i64 i11, .slice ao0 L0.length ac0, .slice ao1 L1.length ac1, .int .i64 i12] 86)).alloc (.cells #[.int .i64 i0, .int .i64 i1, .int .i64 i2, .int .i64 i3, .int .i64 i4, .int .i64 i5, .int .i64 i6, .int .i64 i7, .int .i64 i8, .int .i64 i9, .int .i64 i10, .int .i64 i11, .slice bo0 L0.length bc0, .slice bo1 L1.length bc1, .int .i64 i12] 86)).cell? ⟨w.heap.size + 1, 14, none⟩ = some (.int .i64 i12) := by go_cell
  have bl_1 : w.heap.size + 1 < ((w.alloc (.cells #[.int .i64 i0, .int .i64 i1, .int .i64 i2, .int .i64 i3, .int .i64 i4, .int .i64 i5, .int .i64 i6, .int .i64 i7, .int .i64 i8, .int .i64 i9, .int .i64 i10, .int .i64 i11, .slice ao0 L0.length ac0, .slice ao1 L1.length ac1, .int .i64 i12] 86)).alloc (.cells #[.int .i64 i0, .int .i64 i1, .int .i64 i2, .int .i64 i3, .int .i64 i4, .int .i64 i5, .int .i64 i6, .int .i64 i7, .int .i64 i8, .int .i64 i9, .int .i64 i10, .int .i64 i11, .slice bo0 L0.length bc0, .slice bo1 L1.length bc1, .int .i64 i12] 86)).heap.size := by first | (simp; done) | (simp; omega)
  have c1 : Below w.heap.size w ((w.alloc (.cells #[.int .i64 i0, .int .i64 i1, .int .i64 i2, .int .i64 i3, .int .i64 i4, .int .i64 i5, .int .i64 i6, .int .i64 i7, .int .i64 i8, .int .i64 i9, .int .i64 i10, .int .i64 i11, .slice ao0 L0.length ac0, .slice ao1 L1.length ac1, .int .i64 i12] 86)).alloc (.cells #[.int .i64 i0, .int .i64 i1, .int .i64 i2, .int .i64 i3, .int .i64 i4, .int .i64 i5, .int .i64 i6, .int .i64 i7, .int .i64 i8, .int .i64 i9, .int .i64 i10, .int .i64 i11, .slice bo0 L0.length bc0, .slice bo1 L1.length bc1, .int .i64 i12] 86)) := by go_grown
  have s1 : ((w.alloc (.cells #[.int .i64 i0, .int .i64 i1, .int .i64 i2, .int .i64 i3, .int .i64 i4, .int .i64 i5, .int .i64 i6, .int .i64 i7, .int .i64 i8, .int .i64 i9, .int .i64 i10, .int .i64 i11, .slice ao0 L0.length ac0, .slice ao1 L1.length ac1, .int .i64 i12] 86)).alloc (.cells #[.int .i64 i0, .int .i64 i1, .int .i64 i2, .int .i64 i3, .int .i64 i4, .int .i64 i5, .int .i64 i6, .int .i64 i7, .int .i64 i8, .int .i64 i9, .int .i64 i10, .int .i64 i11, .slice bo0 L0.length bc0, .slice bo1 L1.length bc1, .int .i64 i12] 86)).heap.size = w.heap.size + 2 := by simp
  generalize ((w.alloc (.cells #[.int .i64 i0, .int .i64 i1, .int .i64 i2, .int .i64 i3, .int .i64 i4, .int .i64 i5, .int .i64 i6, .int .i64 i7, .int .i64 i8, .int .i64 i9, .int .i64 i10, .int .i64 i11, .slice ao0 L0.length ac0, .slice ao1 L1.length ac1, .int .i64 i12] 86)).alloc (.cells #[.int .i64 i0, .int .i64 i1, .int .i64 i2, .int .i64 i3, .int .i64 i4, .int .i64 i5, .int .i64 i6, .int .i64 i7, .int .i64 i8, .int .i64 i9, .int .i64 i10, .int .i64 i11, .slice bo0 L0.length bc0, .slice bo1 L1.length bc1, .int .i64 i12] 86)) = w1 at a0_1 a1_1 a2_1 a3_1 a4_1 a5_1 a6_1 a7_1 a8_1 a9_1 a10_1 a11_1 a12_1 a13_1 a14_1 al_1 b0_1 b1_1 b2_1 b3_1 b4_1 b5_1 b6_1 b7_1 b8_1 b9_1 b10_1 b11_1 b12_1 b13_1 b14_1 bl_1 c1 s1 ⊢
  have qa0_1 := cell_regrown a0_1
  have qa1_1 := cell_regrown a1_1
  have qa2_1 := cell_regrown a2_1
  have qa3_1 := cell_regrown a3_1
  have qa4_1 := cell_regrown a4_1
  have qa5_1 := cell_regrown a5_1
  have qa6_1 := cell_regrown a6_1
  have qa7_1 := cell_regrown a7_1
  have qa8_1 := cell_regrown a8_1
  have qa9_1 := cell_regrown a9_1
  have qa10_1 := cell_regrown a10_1
  have qa11_1 := cell_regrown a11_1
  have qa12_1 := cell_regrown a12_1
  have qa13_1 := cell_regrown a13_1
  have qa14_1 := cell_regrown a14_1
  have qb0_1 := cell_regrown b0_1
  have qb1_1 := cell_regrown b1_1
  have qb2_1 := cell_regrown b2_1
  have qb3_1 := cell_regrown b3_1
  have qb4_1 := cell_regrown b4_1
  have qb5_1 := cell_regrown b5_1
  have qb6_1 := cell_regrown b6_1
  have qb7_1 := cell_regrown b7_1
  have qb8_1 := cell_regrown b8_1
  have qb9_1 := cell_regrown b9_1
  have qb10_1 := cell_regrown b10_1
  have qb11_1 := cell_regrown b11_1
  have qb12_1 := cell_regrown b12_1
  have qb13_1 := cell_regrown b13_1
  have qb14_1 := cell_regrown b14_1
  refine (eqOp_all i5 i6 i7 i8 i5 i6 i7 i8 _).mono ?_
  rintro e w2 ⟨rfl, b2⟩
  rw [(by simp : (decide (i5 = i5) && decide (i6 = i6) && decide (i7 = i7) && decide (i8 = i8)) = true)]
  have d2 : Below w1.heap.size w1 w2 := (Below.trans (by go_grown) (b2.mono (by first | omega | (simp; done) | (simp; omega))))
  have c2 : Below w.heap.size w w2 := c1.trans (d2.mono c1.size)
  have a0_2 : w2.cell? ⟨w.heap.size, 0, none⟩ = some (.int .i64 i0) := (by rw [b2.cell (by first | omega | (simp; done) | (simp; omega))]; go_cell)
  have a1_2 : w2.cell? ⟨w.heap.size, 1, none⟩ = some (.int .i64 i1) := (by rw [b2.cell (by first | omega | (simp; done) | (simp; omega))]; go_cell)
  have a2_2 : w2.cell? ⟨w.heap.size, 2, none⟩ = some (.int .i64 i2) := (by rw [b2.cell (by first | omega | (simp; done) | (simp; omega))]; go_cell)
  have a3_2 : w2.cell? ⟨w.heap.size, 3, none⟩ = some (.int .i64 i3) := (by rw [b2.cell (by first | omega | (simp; done) | (simp; omega))]; go_cell)
  have a4_2 : w2.cell? ⟨w.heap.size, 4, none⟩ = some (.int .i64 i4) := (by rw [b2.cell (by first | omega | (simp; done) | (simp; omega))]; go_cell)
  have a5_2 : w2.cell? ⟨w.heap.size, 5, none⟩ = some (.int .i64 i5) := (by rw [b2.cell (by first | omega | (simp; done) | (simp; omega))]; go_cell)
  have a6_2 : w2.cell? ⟨w.heap.size, 6, none⟩ = some (.int .i64 i6) := (by rw [b2.cell (by first | omega | (simp; done) | (simp; omega))]; go_cell)
  have a7_2 : w2.cell? ⟨w.heap.size, 7, none⟩ = some (.int .i64 i7) := (by rw [b2.cell (by first | omega | (simp; done) | (simp; omega))]; go_cell)
  have a8_2 : w2.cell? ⟨w.heap.size, 8, none⟩ = some (.int .i64 i8) := (by rw [b2.cell (by first | omega | (simp; done) | (simp; omega))]; go_cell)
  have a9_2 : w2.cell? ⟨w.heap.size, 9, none⟩ = some (.int .i64 i9) := (by rw [b2.cell (by first | omega | (simp; done) | (simp; omega))]; go_cell)
  have a10_2 : w2.cell? ⟨w.heap.size, 10, none⟩ = some (.int .i64 i10) := (by rw [b2.cell (by first | omega | (simp; done) | (simp; omega))]; go_cell)
  have a11_2 : w2.cell? ⟨w.heap.size, 11, none⟩ = some (.int .i64 i11) := (by rw [b2.cell (by first | omega | (simp; done) | (simp; omega))]; go_cell)
  have a12_2 : w2.cell? ⟨w.heap.size, 12, none⟩ = some (.slice ao0 L0.length ac0) := (by rw [b2.cell (by first | omega | (simp; done) | (simp; omega))]; go_cell)
  have a13_2 : w2.cell? ⟨w.heap.size, 13, none⟩ = some (.slice ao1 L1.length ac1) := (by rw [b2.cell (by first | omega | (simp; done) | (simp; omega))]; go_cell)
  have a14_2 : w2.cell? ⟨w.heap.size, 14, none⟩ = some (.int .i64 i12) := (by rw [b2.cell (by first | omega | (simp; done) | (simp; omega))]; go_cell)
  have al_2 : w.heap.size < w2.heap.size := (by have := b2.size; first | omega | (revert this; simp; done) | (revert this; simp; omega))
  have b0_2 : w2.cell? ⟨w.heap.size + 1, 0, none⟩ = some (.int .i64 i0) := (by rw [b2.cell (by first | omega | (simp; done) | (simp; omega))]; go_cell)
  have b1_2 : w2.cell? ⟨w.heap.size + 1, 1, none⟩ = some (.int .i64 i1) := (by rw [b2.cell (by first | omega | (simp; done) | (simp; omega))]; go_cell)
  have b2_2 : w2.cell? ⟨w.heap.size + 1, 2, none⟩ = some (.int .i64 i2) := (by rw [b2.cell (by first | omega | (simp; done) | (simp; omega))]; go_cell)
  have b3_2 : w2.cell? ⟨w.heap.size + 1, 3, none⟩ = some (.int .i64 i3) := (by rw [b2.cell (by first | omega | (simp; done) | (simp; omega))]; go_cell)
  have b4_2 : w2.cell? ⟨w.heap.size + 1, 4, none⟩ = some (.int .i64 i4) := (by rw [b2.cell (by first | omega | (simp; done) | (simp; omega))]; go_cell)
  have b5_2 : w2.cell? ⟨w.heap.size + 1, 5, none⟩ = some (.int .i64 i5) := (by rw [b2.cell (by first | omega | (simp; done) | (simp; omega))]; go_cell)
  have b6_2 : w2.cell? ⟨w.heap.size + 1, 6, none⟩ = some (.int .i64 i6) := (by rw [b2.cell (by first | omega | (simp; done) | (simp; omega))]; go_cell)
  have b7_2 : w2.cell? ⟨w.heap.size + 1, 7, none⟩ = some (.int .i64 i7) := (by rw [b2.cell (by first | omega | (simp; done) | (simp; omega))]; go_cell)
  have b8_2 : w2.cell? ⟨w.heap.size + 1, 8, none⟩ = some (.int .i64 i8) := (by rw [b2.cell (by first | omega | (simp; done) | (simp; omega))]; go_cell)
  have b9_2 : w2.cell? ⟨w.heap.size + 1, 9, none⟩ = some (.int .i64 i9) := (by rw [b2.cell (by first | omega | (simp; done) | (simp; omega))]; go_cell)
  have b10_2 : w2.cell? ⟨w.heap.size + 1, 10, none⟩ = some (.int .i64 i10) := (by rw [b2.cell (by first | omega | (simp; done) | (simp; omega))]; go_cell)
  have b11_2 : w2.cell? ⟨w.heap.size + 1, 11, none⟩ = some (.int .i64 i11) := (by rw [b2.cell (by first | omega | (simp; done) | (simp; omega))]; go_cell)
  have b12_2 : w2.cell? ⟨w.heap.size + 1, 12, none⟩ = some (.slice bo0 L0.length bc0) := (by rw [b2.cell (by first | omega | (simp; done) | (simp; omega))]; go_cell)
  have b13_2 : w2.cell? ⟨w.heap.size + 1, 13, none⟩ = some (.slice bo1 L1.length bc1) := (by rw [b2.cell (by first | omega | (simp; done) | (simp; omega))]; go_cell)
  have b14_2 : w2.cell? ⟨w.heap.size + 1, 14, none⟩ = some (.int .i64 i12) := (by rw [b2.cell (by first | omega | (simp; done) | (simp; omega))]; go_cell)
  have bl_2 : w.heap.size + 1 < w2.heap.size := (by have := b2.size; first | omega | (revert this; simp; done) | (revert this; simp; omega))
  clear a0_1 a1_1 a2_1 a3_1 a4_1 a5_1 a6_1 a7_1 a8_1 a9_1 a10_1 a11_1 a12_1 a13_1 a14_1 al_1 b0_1 b1_1 b2_1 b3_1 b4_1 b5_1 b6_1 b7_1 b8_1 b9_1 b10_1 b11_1 b12_1 b13_1 b14_1 bl_1
  clear b2 d2
  go_wp2_with fail
  refine (eqItem_any i9 i10 i11 i9 i10 i11 L0 L0 _ _ _ (HA.out.h0.later c2) (HB.out.h0.later c2)).mono ?_
  rintro e w3 ⟨rfl, b3⟩
  rw [(by simp [eqK] : eqK ([i9, i10, i11], L0) ([i9, i10, i11], L0) = true)]
  have d3 : Below w2.heap.size w2 w3 := (Below.trans (by go_grown) (b3.mono (by first | omega | (simp; done) | (simp; omega))))
  have c3 : Below w.heap.size w w3 := c2.trans (d3.mono c2.size)
  have a0_3 : w3.cell? ⟨w.heap.size, 0, none⟩ = some (.int .i64 i0) := (by rw [b3.cell (by first | omega | (simp; done) | (simp; omega))]; go_cell)
  have a1_3 : w3.cell? ⟨w.heap.size, 1, none⟩ = some (.int .i64 i1) := (by rw [b3.cell (by first | omega | (simp; done) | (simp; omega))]; go_cell)
  have a2_3 : w3.cell? ⟨w.heap.size, 2, none⟩ = some (.int .i64 i2) := (by rw [b3.cell (by first | omega | (simp; done) | (simp; omega))]; go_cell)
  have a3_3 : w3.cell? ⟨w.heap.size, 3, none⟩ = some (.int .i64 i3) := (by rw [b3.cell (by first | omega | (simp; done) | (simp; omega))]; go_cell)
  have a4_3 : w3.cell? ⟨w.heap.size, 4, none⟩ = some (.int .i64 i4) := (by rw [b3.cell (by first | omega | (simp; done) | (simp; omega))]; go_cell)
  have a5_3 : w3.cell? ⟨w.heap.size, 5, none⟩ = some (.int .i64 i5) := (by rw [b3.cell (by first | omega | (simp; done) | (simp; omega))]; go_cell)
  have a6_3 : w3.cell? ⟨w.heap.size, 6, none⟩ = some (.int .i64 i6) := (by rw [b3.cell (by first | omega | (simp; done) | (simp; omega))]; go_cell)
  have a7_3 : w3.cell? ⟨w.heap.size, 7, none⟩ = some (.int .i64 i7) := (by rw [b3.cell (by first | omega | (simp; done) | (simp; omega))]; go_cell)
  have a8_3 : w3.cell? ⟨w.heap.size, 8, none⟩ = some (.int .i64 i8) := (by rw [b3.cell (by first | omega | (simp; done) | (simp; omega))]; go_cell)
  have a9_3 : w3.cell? ⟨w.heap.size, 9, none⟩ = some (.int .i64 i9) := (by rw [b3.cell (by first | omega | (simp; done) | (simp; omega))]; go_cell)
  have a10_3 : w3.cell? ⟨w.heap.size, 10, none⟩ = some (.int .i64 i10) := (by rw [b3.cell (by first | omega | (simp; done) | (simp; omega))]; go_cell)
  have a11_3 : w3.cell? ⟨w.heap.size, 11, none⟩ = some (.int .i64 i11) := (by rw [b3.cell (by first | omega | (simp; done) | (simp; omega))]; go_cell)
  have a12_3 : w3.cell? ⟨w.heap.size, 12, none⟩ = some (.slice ao0 L0.length ac0) := (by rw [b3.cell (by first | omega | (simp; done) | (simp; omega))]; go_cell)
  have a13_3 : w3.cell? ⟨w.heap.size, 13, none⟩ = some (.slice ao1 L1.length ac1) := (by rw [b3.cell (by first | omega | (simp; done) | (simp; omega))]; go_cell)
  have a14_3 : w3.cell? ⟨w.heap.size, 14, none⟩ = some (.int .i64 i12) := (by rw [b3.cell (by first | omega | (simp; done) | (simp; omega))]; go_cell)
  have al_3 : w.heap.size < w3.heap.size := (by have := b3.size; first | omega | (revert this; simp; done) | (revert this; simp; omega))
  have b0_3 : w3.cell? ⟨w.heap.size + 1, 0, none⟩ = some (.int .i64 i0) := (by rw [b3.cell (by first | omega | (simp; done) | (simp; omega))]; go_cell)
  have b1_3 : w3.cell? ⟨w.heap.size + 1, 1, none⟩ = some (.int .i64 i1) := (by rw [b3.cell (by first | omega | (simp; done) | (simp; omega))]; go_cell)
  have b2_3 : w3.cell? ⟨w.heap.size + 1, 2, none⟩ = some (.int .i64 i2) := (by rw [b3.cell (by first | omega | (simp; done) | (simp; omega))]; go_cell)
  have b3_3 : w3.cell? ⟨w.heap.size + 1, 3, none⟩ = some (.int .i64 i3) := (by rw [b3.cell (by first | omega | (simp; done) | (simp; omega))]; go_cell)
  have b4_3 : w3.cell? ⟨w.heap.size + 1, 4, none⟩ = some (.int .i64 i4) := (by rw [b3.cell (by first | omega | (simp; done) | (simp; omega))]; go_cell)
  have b5_3 : w3.cell? ⟨w.heap.size + 1, 5, none⟩ = some (.int .i64 i5) := (by rw [b3.cell (by first | omega | (simp; done) | (simp; omega))]; go_cell)
  have b6_3 : w3.cell? ⟨w.heap.size + 1, 6, none⟩ = some (.int .i64 i6) := (by rw [b3.cell (by first | omega | (simp; done) | (simp; omega))]; go_cell)
  have b7_3 : w3.cell? ⟨w.heap.size + 1, 7, none⟩ = some (.int .i64 i7) := (by rw [b3.cell (by first | omega | (simp; done) | (simp; omega))]; go_cell)
  have b8_3 : w3.cell? ⟨w.heap.size + 1, 8, none⟩ = some (.int .i64 i8) := (by rw [b3.cell (by first | omega | (simp; done) | (simp; omega))]; go_cell)
  have b9_3 : w3.cell? ⟨w.heap.size + 1, 9, none⟩ = some (.int .i64 i9) := (by rw [b3.cell (by first | omega | (simp; done) | (simp; omega))]; go_cell)
  have b10_3 : w3.cell? ⟨w.heap.size + 1, 10, none⟩ = some (.int .i64 i10) := (by rw [b3.cell (by first | omega | (simp; done) | (simp; omega))]; go_cell)
  have b11_3 : w3.cell? ⟨w.heap.size + 1, 11, none⟩ = some (.int .i64 i11) := (by rw [b3.cell (by first | omega | (simp; done) | (simp; omega))]; go_cell)
  have b12_3 : w3.cell? ⟨w.heap.size + 1, 12, none⟩ = some (.slice bo0 L0.length bc0) := (by rw [b3.cell (by first | omega | (simp; done) | (simp; omega))]; go_cell)
  have b13_3 : w3.cell? ⟨w.heap.size + 1, 13, none⟩ = some (.slice bo1 L1.length bc1) := (by rw [b3.cell (by first | omega | (simp; done) | (simp; omega))]; go_cell)
  have b14_3 : w3.cell? ⟨w.heap.size + 1, 14, none⟩ = some (.int .i64 i12) := (by rw [b3.cell (by first | omega | (simp; done) | (simp; omega))]; go_cell)
  have bl_3 : w.heap.size + 1 < w3.heap.size := (by have := b3.size; first | omega | (revert this; simp; done) | (revert this; simp; omega))
  clear a0_2 a1_2 a2_2 a3_2 a4_2 a5_2 a6_2 a7_2 a8_2 a9_2 a10_2 a11_2 a12_2 a13_2 a14_2 al_2 b0_2 b1_2 b2_2 b3_2 b4_2 b5_2 b6_2 b7_2 b8_2 b9_2 b10_2 b11_2 b12_2 b13_2 b14_2 bl_2
  clear b3 d3
  go_wp2_with fail
  refine (eqIntS_any _ _ L1 L1 _ (HA.out.h1.later c3) (HB.out.h1.later c3)).mono ?_
  rintro e w4 ⟨rfl, b4⟩
  rw [(eqM_refl L1)]
  have d4 : Below w3.heap.size w3 w4 := (Below.trans (by go_grown) (b4.mono (by first | omega | (simp; done) | (simp; omega))))
  have c4 : Below w.heap.size w w4 := c3.trans (d4.mono c3.size)
  have a0_4 : w4.cell? ⟨w.heap.size, 0, none⟩ = some (.int .i64 i0) := (by rw [b4.cell (by first | omega | (simp; done) | (simp; omega))]; go_cell)
  have a1_4 : w4.cell? ⟨w.heap.size, 1, none⟩ = some (.int .i64 i1) := (by rw [b4.cell (by first | omega | (simp; done) | (simp; omega))]; go_cell)
  have a2_4 : w4.cell? ⟨w.heap.size, 2, none⟩ = some (.int .i64 i2) := (by rw [b4.cell (by first | omega | (simp; done) | (simp; omega))]; go_cell)
  have a3_4 : w4.cell? ⟨w.heap.size, 3, none⟩ = some (.int .i64 i3) := (by rw [b4.cell (by first | omega | (simp; done) | (simp; omega))]; go_cell)
  have a4_4 : w4.cell? ⟨w.heap.size, 4, none⟩ = some (.int .i64 i4) := (by rw [b4.cell (by first | omega | (simp; done) | (simp; omega))]; go_cell)
  have a5_4 : w4.cell? ⟨w.heap.size, 5, none⟩ = some (.int .i64 i5) := (by rw [b4.cell (by first | omega | (simp; done) | (simp; omega))]; go_cell)
  have a6_4 : w4.cell? ⟨w.heap.size, 6, none⟩ = some (.int .i64 i6) := (by rw [b4.cell (by first | omega | (simp; done) | (simp; omega))]; go_cell)
  have a7_4 : w4.cell? ⟨w.heap.size, 7, none⟩ = some (.int .i64 i7) := (by rw [b4.cell (by first | omega | (simp; done) | (simp; omega))]; go_cell)
  have a8_4 : w4.cell? ⟨w.heap.size, 8, none⟩ = some (.int .i64 i8) := (by rw [b4.cell (by first | omega | (simp; done) | (simp; omega))]; go_cell)
  have a9_4 : w4.cell? ⟨w.heap.size, 9, none⟩ = some (.int .i64 i9) := (by rw [b4.cell (by first | omega | (simp; done) | (simp; omega))]; go_cell)
  have a10_4 : w4.cell? ⟨w.heap.size, 10, none⟩ = some (.int .i64 i10) := (by rw [b4.cell (by first | omega | (simp; done) | (simp; omega))]; go_cell)
  have a11_4 : w4.cell? ⟨w.heap.size, 11, none⟩ = some (.int .i64 i11) := (by rw [b4.cell (by first | omega | (simp; done) | (simp; omega))]; go_cell)
  have a12_4 : w4.cell? ⟨w.heap.size, 12, none⟩ = some (.slice ao0 L0.length ac0) := (by rw [b4.cell (by first | omega | (simp; done) | (simp; omega))]; go_cell)
  have a13_4 : w4.cell? ⟨w.heap.size, 13, none⟩ = some (.slice ao1 L1.length ac1) := (by rw [b4.cell (by first | omega | (simp; done) | (simp; omega))]; go_cell)
  have a14_4 : w4.cell? ⟨w.heap.size, 14, none⟩ = some (.int .i64 i12) := (by rw [b4.cell (by first | omega | (simp; done) | (simp; omega))]; go_cell)
  have al_4 : w.heap.size < w4.heap.size := (by have := b4.size; first | omega | (revert this; simp; done) | (revert this; simp; omega))
  have b0_4 : w4.cell? ⟨w.heap.size + 1, 0, none⟩ = some (.int .i64 i0) := (by rw [b4.cell (by first | omega | (simp; done) | (simp; omega))]; go_cell)
  have b1_4 : w4.cell? ⟨w.heap.size + 1, 1, none⟩ = some (.int .i64 i1) := (by rw [b4.cell (by first | omega | (simp; done) | (simp; omega))]; go_cell)
  have b2_4 : w4.cell? ⟨w.heap.size + 1, 2, none⟩ = some (.int .i64 i2) := (by rw [b4.cell (by first | omega | (simp; done) | (simp; omega))]; go_cell)
  have b3_4 : w4.cell? ⟨w.heap.size + 1, 3, none⟩ = some (.int .i64 i3) := (by rw [b4.cell (by first | omega | (simp; done) | (simp; omega))]; go_cell)
  have b4_4 : w4.cell? ⟨w.heap.size + 1, 4, none⟩ = some (.int .i64 i4) := (by rw [b4.cell (by first | omega | (simp; done) | (simp; omega))]; go_cell)
  have b5_4 : w4.cell? ⟨w.heap.size + 1, 5, none⟩ = some (.int .i64 i5) := (by rw [b4.cell (by first | omega | (simp; done) | (simp; omega))]; go_cell)
  have b6_4 : w4.cell? ⟨w.heap.size + 1, 6, none⟩ = some (.int .i64 i6) := (by rw [b4.cell (by first | omega | (simp; done) | (simp; omega))]; go_cell)
  have b7_4 : w4.cell? ⟨w.heap.size + 1, 7, none⟩ = some (.int .i64 i7) := (by rw [b4.cell (by first | omega | (simp; done) | (simp; omega))]; go_cell)
  have b8_4 : w4.cell? ⟨w.heap.size + 1, 8, none⟩ = some (.int .i64 i8) := (by rw [b4.cell (by first | omega | (simp; done) | (simp; omega))]; go_cell)
  have b9_4 : w4.cell? ⟨w.heap.size + 1, 9, none⟩ = some (.int .i64 i9) := (by rw [b4.cell (by first | omega | (simp; done) | (simp; omega))]; go_cell)
  have b10_4 : w4.cell? ⟨w.heap.size + 1, 10, none⟩ = some (.int .i64 i10) := (by rw [b4.cell (by first | omega | (simp; done) | (simp; omega))]; go_cell)
  have b11_4 : w4.cell? ⟨w.heap.size + 1, 11, none⟩ = some (.int .i64 i11) := (by rw [b4.cell (by first | omega | (simp; done) | (simp; omega))]; go_cell)
  have b12_4 : w4.cell? ⟨w.heap.size + 1, 12, none⟩ = some (.slice bo0 L0.length bc0) := (by rw [b4.cell (by first | omega | (simp; done) | (simp; omega))]; go_cell)
  have b13_4 : w4.cell? ⟨w.heap.size + 1, 13, none⟩ = some (.slice bo1 L1.length bc1) := (by rw [b4.cell (by first | omega | (simp; done) | (simp; omega))]; go_cell)
  have b14_4 : w4.cell? ⟨w.heap.size + 1, 14, none⟩ = some (.int .i64 i12) := (by rw [b4.cell (by first | omega | (simp; done) | (simp; omega))]; go_cell)
  have bl_4 : w.heap.size + 1 < w4.heap.size := (by have := b4.size; first | omega | (revert this; simp; done) | (revert this; simp; omega))
  clear a0_3 a1_3 a2_3 a3_3 a4_3 a5_3 a6_3 a7_3 a8_3 a9_3 a10_3 a11_3 a12_3 a13_3 a14_3 al_3 b0_3 b1_3 b2_3 b3_3 b4_3 b5_3 b6_3 b7_3 b8_3 b9_3 b10_3 b11_3 b12_3 b13_3 b14_3 bl_3
  clear b4 d4
  go_wp2
  go_ret
  exact ⟨by simp, c4⟩

end Go.Proofs.YtddpoheoecafjaaGreat
