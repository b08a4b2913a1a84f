/- The law FnExactMsgSame: its walk. Written by a program (glaw.py). -/
import Derived.Test.YtfdcnolcjgjfjaaMa
import Derived.Deep.Cut
namespace Go.Proofs.Ytfdcnolcjgjfjaa
open Go.RowKit
attribute [local go_sem ↓] Go.wp_at_zero Go.wp_at_succ

set_option maxRecDepth 100000 in
set_option maxHeartbeats 4000000 in
theorem lawMSame_any (ai0 ai1 ai2 ai3 ai4 ai5 ai6 ai7 ai8 ai9 ai10 ai11 ai12 : Int) (va0 va1 : Value) (A0 : List (Int × Int)) (A1 : List KD) (bi0 bi1 bi2 bi3 bi4 bi5 bi6 bi7 bi8 bi9 bi10 bi11 bi12 : Int) (vb0 vb1 : Value) (B0 : List (Int × Int)) (B1 : List KD) (w : World) (ha : RSMsg w va0 va1 A0 A1) (hb : RSMsg w vb0 vb1 B0 B1) :
    Calls Try.prog 3 #[.agg #[.int .i64 ai0, .int .i64 ai1, .int .i64 ai2, .int .i64 ai3, .int .i64 ai4, .int .i64 ai5, .int .i64 ai6, .int .i64 ai7, .int .i64 ai8, .int .i64 ai9, .int .i64 ai10, .int .i64 ai11, va0, va1, .int .i64 ai12], .agg #[.int .i64 bi0, .int .i64 bi1, .int .i64 bi2, .int .i64 bi3, .int .i64 bi4, .int .i64 bi5, .int .i64 bi6, .int .i64 bi7, .int .i64 bi8, .int .i64 bi9, .int .i64 bi10, .int .i64 bi11, vb0, vb1, .int .i64 bi12]] w fun e w' => e = .returned (.bool true) ∧ Below w.heap.size w w' := by
  have HA := hid ha
  obtain ⟨ao0, ao1, ac0, ac1, rfl, rfl⟩ := ha.open
  have HB := hid hb
  obtain ⟨bo0, bo1, bc0, bc1, rfl, rfl⟩ := hb.open
  go_enter Try.func3, Try.ntmps3
  go_wp2_with fail
  have a0_1 : ((w.alloc (.cells #[.int .i64 ai0, .int .i64 ai1, .int .i64 ai2, .int .i64 ai3, .int .i64 ai4, .int .i64 ai5, .int .i64 ai6, .int .i64 ai7, .int .i64 ai8, .int .i64 ai9, .int .i64 ai10, .int .i64 ai11, .slice ao0 A0.length ac0, .slice ao1 A1.length ac1, .int .i64 ai12] 31)).alloc (.cells #[.int .i64 bi0, .int .i64 bi1, .int .i64 bi2, .int .i64 bi3, .int .i64 bi4, .int .i64 bi5, .int .i64 bi6, .int .i64 bi7, .int .i64 bi8, .int .i64 bi9, .int .i64 bi10, .int .i64 bi11, .slice bo0 B0.length bc0, .slice bo1 B1.length bc1, .int .i64 bi12] 31)).cell? ⟨w.heap.size, 0, none⟩ = some (.int .i64 ai0) := by go_cell
  have a1_1 : ((w.alloc (.cells #[.int .i64 ai0, .int .i64 ai1, .int .i64 ai2, .int .i64 ai3, .int .i64 ai4, .int .i64 ai5, .int .i64 ai6, .int .i64 ai7, .int .i64 ai8, .int .i64 ai9, .int .i64 ai10, .int .i64 ai11, .slice ao0 A0.length ac0, .slice ao1 A1.length ac1, .int .i64 ai12] 31)).alloc (.cells #[.int .i64 bi0, .int .i64 bi1, .int .i64 bi2, .int .i64 bi3, .int .i64 bi4, .int .i64 bi5, .int .i64 bi6, .int .i64 bi7, .int .i64 bi8, .int .i64 bi9, .int .i64 bi10, .int .i64 bi11, .slice bo0 B0.length bc0, .slice bo1 B1.length bc1, .int .i64 bi12] 31)).cell? ⟨w.heap.size, 1, none⟩ = some (.int .i64 ai1) := by go_cell
  have a2_1 : ((w.alloc (.cells #[.int .i64 ai0, .int .i64 ai1, .int .i64 ai2, .int .i64 ai3, .int .i64 ai4, .int .i64 ai5, .int .i64 ai6, .int .i64 ai7, .int .i64 ai8, .int .i64 ai9, .int .i64 ai10, .int .i64 ai11, .slice ao0 A0.length ac0, .slice ao1 A1.length ac1, .int .i64 ai12] 31)).alloc (.cells #[.int .i64 bi0, .int .i64 bi1, .int .i64 bi2, .int .i64 bi3, .int .i64 bi4, .int .i64 bi5, .int .i64 bi6, .int .i64 bi7, .int .i64 bi8, .int .i64 bi9, .int .i64 bi10, .int .i64 bi11, .slice bo0 B0.length bc0, .slice bo1 B1.length bc1, .int .i64 bi12] 31)).cell? ⟨w.heap.size, 2, none⟩ = some (.int .i64 ai2) := by go_cell
  have a3_1 : ((w.alloc (.cells #[.int .i64 ai0, .int .i64 ai1, .int .i64 ai2, .int .i64 ai3, .int .i64 ai4, .int .i64 ai5, .int .i64 ai6, .int .i64 ai7, .int .i64 ai8, .int .i64 ai9, .int .i64 ai10, .int .i64 ai11, .slice ao0 A0.length ac0, .slice ao1 A1.length ac1, .int .i64 ai12] 31)).alloc (.cells #[.int .i64 bi0, .int .i64 bi1, .int .i64 bi2, .int .i64 bi3, .int .i64 bi4, .int .i64 bi5, .int .i64 bi6, .int .i64 bi7, .int .i64 bi8, .int .i64 bi9, .int .i64 bi10, .int .i64 bi11, .slice bo0 B0.length bc0, .slice bo1 B1.length bc1, .int .i64 bi12] 31)).cell? ⟨w.heap.size, 3, none⟩ = some (.int .i64 ai3) := by go_cell
  have a4_1 : ((w.alloc (.cells #[.int .i64 ai0, .int .i64 ai1, .int .i64 ai2, .int .i64 ai3, .int .i64 ai4, .int .i64 ai5, .int .i64 ai6, .int .i64 ai7, .int .i64 ai8, .int .i64 ai9, .int .i64 ai10, .int .i64 ai11, .slice ao0 A0.length ac0, .slice ao1 A1.length ac1, .int .i64 ai12] 31)).alloc (.cells #[.int .i64 bi0, .int .i64 bi1, .int .i64 bi2, .int .i64 bi3, .int .i64 bi4, .int .i64 bi5, .int .i64 bi6, .int .i64 bi7, .int .i64 bi8, .int .i64 bi9, .int .i64 bi10, .int .i64 bi11, .slice bo0 B0.length bc0, .slice bo1 B1.length bc1, .int .i64 bi12] 31)).cell? ⟨w.heap.size, 4, none⟩ = some (.int .i64 ai4) := by go_cell
  have a5_1 : ((w.alloc (.cells #[.int .i64 ai0, .int .i64 ai1, .int .i64 ai2, .int .i64 ai3, .int .i64 ai4, .int .i64 ai5, .int .i64 ai6, .int .i64 ai7, .int .i64 ai8, .int .i64 ai9, .int .i64 ai10, .int .i64 ai11, .slice ao0 A0.length ac0, .slice ao1 A1.length ac1, .int .i64 ai12] 31)).alloc (.cells #[.int .i64 bi0, .int .i64 bi1, .int .i64 bi2, .int .i64 bi3, .int .i64 bi4, .int .i64 bi5, .int .i64 bi6, .int .i64 bi7, .int .i64 bi8, .int .i64 bi9, .int .i64 bi10, .int .i64 bi11, .slice bo0 B0.length bc0, .slice bo1 B1.length bc1, .int .i64 bi12] 31)).cell? ⟨w.heap.size, 5, none⟩ = some (.int .i64 ai5) := by go_cell
  have a6_1 : ((w.alloc (.cells #[.int .i64 ai0, .int .i64 ai1, .int .i64 ai2, .int .i64 ai3, .int .i64 ai4, .int .i64 ai5, .int .i64 ai6, .int .i64 ai7, .int .i64 ai8, .int .i64 ai9, .int .i64 ai10, .int .i64 ai11, .slice ao0 A0.length ac0, .slice ao1 A1.length ac1, .int .i64 ai12] 31)).alloc (.cells #[.int .i64 bi0, .int .i64 bi1, .int .i64 bi2, .int .i64 bi3, .int .i64 bi4, .int .i64 bi5, .int .i64 bi6, .int .i64 bi7, .int .i64 bi8, .int .i64 bi9, .int .i64 bi10, .int .i64 bi11, .slice bo0 B0.length bc0, .slice bo1 B1.length bc1, .int .i64 bi12] 31)).cell? ⟨w.heap.size, 6, none⟩ = some (.int .i64 ai6) := by go_cell
  have a7_1 : ((w.alloc (.cells #[.int .i64 ai0, .int .i64 ai1, .int .i64 ai2, .int .i64 ai3, .int .i64 ai4, .int .i64 ai5, .int .i64 ai6, .int .i64 ai7, .int .i64 ai8, .int .i64 ai9, .int .i64 ai10, .int .i64 ai11, .slice ao0 A0.length ac0, .slice ao1 A1.length ac1, .int .i64 ai12] 31)).alloc (.cells #[.int .i64 bi0, .int .i64 bi1, .int .i64 bi2, .int .i64 bi3, .int .i64 bi4, .int .i64 bi5, .int .i64 bi6, .int .i64 bi7, .int .i64 bi8, .int .i64 bi9, .int .i64 bi10, .int .i64 bi11, .slice bo0 B0.length bc0, .slice bo1 B1.length bc1, .int .i64 bi12] 31)).cell? ⟨w.heap.size, 7, none⟩ = some (.int .i64 ai7) := by go_cell
  have a8_1 : ((w.alloc (.cells #[.int .i64 ai0, .int .i64 ai1, .int .i64 ai2, .int .i64 ai3, .int .i64 ai4, .int .i64 ai5, .int .i64 ai6, .int .i64 ai7, .int .i64 ai8, .int .i64 ai9, .int .i64 ai10, .int .i64 ai11, .slice ao0 A0.length ac0, .slice ao1 A1.length ac1, .int .i64 ai12] 31)).alloc (.cells #[.int .i64 bi0, .int .i64 bi1, .int .i64 bi2, .int .i64 bi3, .int .i64 bi4, .int .i64 bi5, .int .i64 bi6, .int .i64 bi7, .int .i64 bi8, .int .i64 bi9, .int .i64 bi10, .int .i64 bi11, .slice bo0 B0.length bc0, .slice bo1 B1.length bc1, .int .i64 bi12] 31)).cell? ⟨w.heap.size, 8, none⟩ = some (.int .i64 ai8) := by go_cell
  have a9_1 : ((w.alloc (.cells #[.int .i64 ai0, .int .i64 ai1, .int .i64 ai2, .int .i64 ai3, .int .i64 ai4, .int .i64 ai5, .int .i64 ai6, .int .i64 ai7, .int .i64 ai8, .int .i64 ai9, .int .i64 ai10, .int .i64 ai11, .slice ao0 A0.length ac0, .slice ao1 A1.length ac1, .int .i64 ai12] 31)).alloc (.cells #[.int .i64 bi0, .int .i64 bi1, .int .i64 bi2, .int .i64 bi3, .int .i64 bi4, .int .i64 bi5, .int .i64 bi6, .int .i64 bi7, .int .i64 bi8, .int .i64 bi9, .int .i64 bi10, .int .i64 bi11, .slice bo0 B0.length bc0, .slice bo1 B1.length bc1, .int .i64 bi12] 31)).cell? ⟨w.heap.size, 9, none⟩ = some (.int .i64 ai9) := by go_cell
  have a10_1 : ((w.alloc (.cells #[.int .i64 ai0, .int .i64 ai1, .int .i64 ai2, .int .i64 ai3, .int .i64 ai4, .int .i64 ai5, .int .i64 ai6, .int .i64 ai7, .int .i64 ai8, .int .i64 ai9, .int .i64 ai10, .int .i64 ai11, .slice ao0 A0.length ac0, .slice ao1 A1.length ac1, .int .i64 ai12] 31)).alloc (.cells #[.int .i64 bi0, .int .i64 bi1, .int .i64 bi2, .int .i64 bi3, .int .i64 bi4, .int .i64 bi5, .int .i64 bi6, .int .i64 bi7, .int .i64 bi8, .int .i64 bi9, .int .i64 bi10, .int .i64 bi11, .slice bo0 B0.length bc0, .slice bo1 B1.length bc1, .int .i64 bi12] 31)).cell? ⟨w.heap.size, 10, none⟩ = some (.int .i64 ai10) := by go_cell
  have a11_1 : ((w.alloc (.cells #[.int .i64 ai0, .int .i64 ai1, .int .i64 ai2, .int .i64 ai3, .int .i64 ai4, .int .i64 ai5, .int .i64 ai6, .int .i64 ai7, .int .i64 ai8, .int .i64 ai9, .int .i64 ai10, .int .i64 ai11, .slice ao0 A0.length ac0, .slice ao1 A1.length ac1, .int .i64 ai12] 31)).alloc (.cells #[.int .i64 bi0, .int .i64 bi1, .int .i64 bi2, .int .i64 bi3, .int .i64 bi4, .int .i64 bi5, .int .i64 bi6, .int .i64 bi7, .int .i64 bi8, .int .i64 bi9, .int .i64 bi10, .int .i64 bi11, .slice bo0 B0.length bc0, .slice bo1 B1.length bc1, .int .i64 bi12] 31)).cell? ⟨w.heap.size, 11, none⟩ = some (.int .i64 ai11) := by go_cell
  have a12_1 : ((w.alloc (.cells #[.int .i64 ai0, .int .i64 ai1, .int .i64 ai2, .int .i64 ai3, .int .i64 ai4, .int .i64 ai5, .int .i64 ai6, .int .i64 ai7, .int .i64 ai8, .int .i64 ai9, .int .i64 ai10, .int .i64 ai11, .slice ao0 A0.length ac0, .slice ao1 A1.length ac1, .int .i64 ai12] 31)).alloc (.cells #[.int .i64 bi0, .int .i64 bi1, .int .i64 bi2, .int .i64 bi3, .int .i64 bi4, .int .i64 bi5, .int .i64 bi6, .int .i64 bi7, .int .i64 bi8, .int .i64 bi9, .int .i64 bi10, .int .i64 bi11, .slice bo0 B0.length bc0, .slice bo1 B1.length bc1, .int .i64 bi12] 31)).cell? ⟨w.heap.size, 12, none⟩ = some (.slice ao0 A0.length ac0) := by go_cell
  have a13_1 : ((w.alloc (.cells #[.int .i64 ai0, .int .i64 ai1, .int .i64 ai2, .int .i64 ai3, .int .i64 ai4, .int .i64 ai5, .int .i64 ai6, .int .i64 ai7, .int .i64 ai8, .int .i64 ai9, .int .i64 ai10, .int .i64 ai11, .slice ao0 A0.length ac0, .slice ao1 A1.length ac1, .int .i64 ai12] 31)).alloc (.cells #[.int .i64 bi0, .int .i64 bi1, .int .i64 bi2, .int .i64 bi3, .int .i64 bi4, .int .i64 bi5, .int .i64 bi6, .int .i64 bi7, .int .i64 bi8, .int .i64 bi9, .int .i64 bi10, .int .i64 bi11, .slice bo0 B0.length bc0, .slice bo1 B1.length bc1, .int .i64 bi12] 31)).cell? ⟨w.heap.size, 13, none⟩ = some (.slice ao1 A1.length ac1) := by go_cell
  have a14_1 : ((w.alloc (.cells #[.int .i64 ai0, .int .i64 ai1, .int .i64 ai2, .int .i64 ai3, .int .i64 ai4, .int .i64 ai5, .int .i64 ai6, .int .i64 ai7, .int .i64 ai8, .int .i64 ai9, .int .i64 ai10, .int .i64 ai11, .slice ao0 A0.length ac0, .slice ao1 A1.length ac1, .int .i64 ai12] 31)).alloc (.cells #[.int .i64 bi0, .int .i64 bi1, .int .i64 bi2, .int .i64 bi3, .int .i64 bi4, .int .i64 bi5, .int .i64 bi6, .int .i64 bi7, .int .i64 bi8, .int .i64 bi9, .int .i64 bi10, .int .i64 bi11, .slice bo0 B0.length bc0, .slice bo1 B1.length bc1, .int .i64 bi12] 31)).cell? ⟨w.heap.size, 14, none⟩ = some (.int .i64 ai12) := by go_cell
  have al_1 : w.heap.size < ((w.alloc (.cells #[.int .i64 ai0, .int .i64 ai1, .int .i64 ai2, .int .i64 ai3, .int .i64 ai4, .int .i64 ai5, .int .i64 ai6, .int .i64 ai7, .int .i64 ai8, .int .i64 ai9, .int .i64 ai10, .int .i64 ai11, .slice ao0 A0.length ac0, .slice ao1 A1.length ac1, .int .i64 ai12] 31)).alloc (.cells #[.int .i64 bi0, .int .i64 bi1, .int .i64 bi2, .int .i64 bi3, .int .i64 bi4, .int .i64 bi5, .int .i64 bi6, .int .i64 bi7, .int .i64 bi8, .int .i64 bi9, .int .i64 bi10, .int .i64 bi11, .slice bo0 B0.length bc0, .slice bo1 B1.length bc1, .int .i64 bi12] 31)).heap.size := by first | (simp; done) | (simp; omega)
  have b0_1 : ((w.alloc (.cells #[.int .i64 ai0, .int .i64 ai1, .int .i64 ai2, .int .i64 ai3, .int .i64 ai4, .int .i64 ai5, .int .i64 ai6, .int .i64 ai7, .int .i64 ai8, .int .i64 ai9, .int .i64 ai10, .int .i64 ai11, .slice ao0 A0.length ac0, .slice ao1 A1.length ac1, .int .i64 ai12] 31)).alloc (.cells #[.int .i64 bi0, .int .i64 bi1, .int .i64 bi2, .int .i64 bi3, .int .i64 bi4, .int .i64 bi5, .int .i64 bi6, .int .i64 bi7, .int .i64 bi8, .int .i64 bi9, .int .i64 bi10, .int .i64 bi11, .slice bo0 B0.length bc0, .slice bo1 B1.length bc1, .int .i64 bi12] 31)).cell? ⟨w.heap.size + 1, 0, none⟩ = some (.int .i64 bi0) := by go_cell
  have b1_1 : ((w.alloc (.cells #[.int .i64 ai0, .int .i64 ai1, .int .i64 ai2, .int .i64 ai3, .int .i64 ai4, .int .i64 ai5, .int .i64 ai6, .int .i64 ai7, .int .i64 ai8, .int .i64 ai9, .int .i64 ai10, .int .i64 ai11, .slice ao0 A0.length ac0, .slice ao1 A1.length ac1, .int .i64 ai12] 31)).alloc (.cells #[.int .i64 bi0, .int .i64 bi1, .int .i64 bi2, .int .i64 bi3, .int .i64 bi4, .int .i64 bi5, .int .i64 bi6, .int .i64 bi7, .int .i64 bi8, .int .i64 bi9, .int .i64 bi10, .int .i64 bi11, .slice bo0 B0.length bc0, .slice bo1 B1.length bc1, .int .i64 bi12] 31)).cell? ⟨w.heap.size + 1, 1, none⟩ = some (.int .i64 bi1) := by go_cell
  have b2_1 : ((w.alloc (.cells #[.int .i64 ai0, .int .i64 ai1, .int .i64 ai2, .int .i64 ai3, .int .i64 ai4, .int .i64 ai5, .int .i64 ai6, .int .i64 ai7, .int .i64 ai8, .int .i64 ai9, .int .i64 ai10, .int .i64 ai11, .slice ao0 A0.length ac0, .slice ao1 A1.length ac1, .int .i64 ai12] 31)).alloc (.cells #[.int .i64 bi0, .int .i64 bi1, .int .i64 bi2, .int .i64 bi3, .int .i64 bi4, .int .i64 bi5, .int .i64 bi6, .int .i64 bi7, .int .i64 bi8, .int .i64 bi9, .int .i64 bi10, .int .i64 bi11, .slice bo0 B0.length bc0, .slice bo1 B1.length bc1, .int .i64 bi12] 31)).cell? ⟨w.heap.size + 1, 2, none⟩ = some (.int .i64 bi2) := by go_cell
  have b3_1 : ((w.alloc (.cells #[.int .i64 ai0, .int .i64 ai1, .int .i64 ai2, .int .i64 ai3, .int .i64 ai4, .int .i64 ai5, .int .i64 ai6, .int .i64 ai7, .int .i64 ai8, .int .i64 ai9, .int .i64 ai10, .int .i64 ai11, .slice ao0 A0.length ac0, .slice ao1 A1.length ac1, .int .i64 ai12] 31)).alloc (.cells #[.int .i64 bi0, .int .i64 bi1, .int .i64 bi2, .int .i64 bi3, .int .i64 bi4, .int .i64 bi5, .int .i64 bi6, .int .i64 bi7, .int .i64 bi8, .int .i64 bi9, .int .i64 bi10, .int .i64 bi11, .slice bo0 B0.length bc0, .slice bo1 B1.length bc1, .int .i64 bi12] 31)).cell? ⟨w.heap.size + 1, 3, none⟩ = some (.int .i64 bi3) := by go_cell
  have b4_1 : ((w.alloc (.cells #[.int .i64 ai0, .int .i64 ai1, .int .i64 ai2, .int .i64 ai3, .int .i64 ai4, .int .i64 ai5, .int .i64 ai6, .int .i64 ai7, .int .i64 ai8, .int .i64 ai9, .int .i64 ai10, .int .i64 ai11, .slice ao0 A0.length ac0, .slice ao1 A1.length ac1, .int .i64 ai12] 31)).alloc (.cells #[.int .i64 bi0, .int .i64 bi1, .int .i64 bi2, .int .i64 bi3, .int .i64 bi4, .int .i64 bi5, .int .i64 bi6, .int .i64 bi7, .int .i64 bi8, .int .i64 bi9, .int .i64 bi10, .int .i64 bi11, .slice bo0 B0.length bc0, .slice bo1 B1.length bc1, .int .i64 bi12] 31)).cell? ⟨w.heap.size + 1, 4, none⟩ = some (.int .i64 bi4) := by go_cell
  have b5_1 : ((w.alloc (.cells #[.int .i64 ai0, .int .i64 ai1, .int .i64 ai2, .int .i64 ai3, .int .i64 ai4, .int .i64 ai5, .int .i64 ai6, .int .i64 ai7, .int .i64 ai8, .int .i64 ai9, .int .i64 ai10, .int .i64 ai11, .slice ao0 A0.length ac0, .slice ao1 A1.length ac1, .int .i64 ai12] 31)).alloc (.cells #[.int .i64 bi0, .int .i64 bi1, .int .i64 bi2, .int .i64 bi3, .int .i64 bi4, .int .i64 bi5, .int .i64 bi6, .int .i64 bi7, .int .i64 bi8, .int .i64 bi9, .int .i64 bi10, .int .i64 bi11, .slice bo0 B0.length bc0, .slice bo1 B1.length bc1, .int .i64 bi12] 31)).cell? ⟨w.heap.size + 1, 5, none⟩ = some (.int .i64 bi5) := by go_cell
  have b6_1 : ((w.alloc (.cells #[.int .i64 ai0, .int .i64 ai1, .int .i64 ai2, .int .i64 ai3, .int .i64 ai4, .int .i64 ai5, .int .i64 ai6, .int .i64 ai7, .int .i64 ai8, .int .i64 ai9, .int .i64 ai10, .int .i64 ai11, .slice ao0 A0.length ac0, .slice ao1 A1.length ac1, .int .i64 ai12] 31)).alloc (.cells #[.int .i64 bi0, .int .i64 bi1, .int .i64 bi2, .int .i64 bi3, .int .i64 bi4, .int .i64 bi5, .int .i64 bi6, .int .i64 bi7, .int .i64 bi8, .int .i64 bi9, .int .i64 bi10, .int .i64 bi11, .slice bo0 B0.length bc0, .slice bo1 B1.length bc1, .int .i64 bi12] 31)).cell? ⟨w.heap.size + 1, 6, none⟩ = some (.int .i64 bi6) := by go_cell
  have b7_1 : ((w.alloc (.cells #[.int .i64 ai0, .int .i64 ai1, .int .i64 ai2, .int .i64 ai3, .int .i64 ai4, .int .i64 ai5, .int .i64 ai6, .int .i64 ai7, .int .i64 ai8, .int .i64 ai9, .int .i64 ai10, .int .i64 ai11, .slice ao0 A0.length ac0, .slice ao1 A1.length ac1, .int .i64 ai12] 31)).alloc (.cells #[.int .i64 bi0, .int .i64 bi1, .int .i64 bi2, .int .i64 bi3, .int .i64 bi4, .int .i64 bi5, .int .i64 bi6, .int .i64 bi7, .int .i64 bi8, .int .i64 bi9, .int .i64 bi10, .int .i64 bi11, .slice bo0 B0.length bc0, .slice bo1 B1.length bc1, .int .i64 bi12] 31)).cell? ⟨w.heap.size + 1, 7, none⟩ = some (.int .i64 bi7) := by go_cell
  have b8_1 : ((w.alloc (.cells #[.int .i64 ai0, .int .i64 ai1, .int .i64 ai2, .int .i64 ai3, .int .i64 ai4, .int .i64 ai5, .int .i64 ai6, .int .i64 ai7, .int .i64 ai8, .int .i64 ai9, .int .i64 ai10, .int .i64 ai11, .slice ao0 A0.length ac0, .slice ao1 A1.length ac1, .int .i64 ai12] 31)).alloc (.cells #[.int .i64 bi0, .int .i64 bi1, .int .i64 bi2, .int .i64 bi3, .int .i64 bi4, .int .i64 bi5, .int .i64 bi6, .int .i64 bi7, .int .i64 bi8, .int .i64 bi9, .int .i64 bi10, .int .i64 bi11, .slice bo0 B0.length bc0, .slice bo1 B1.length bc1, .int .i64 bi12] 31)).cell? ⟨w.heap.size + 1, 8, none⟩ = some (.int .i64 bi8) := by go_cell
  have b9_1 : ((w.alloc (.cells #[.int .i64 ai0, .int .i64 ai1, .int .i64 ai2, .int .i64 ai3, .int .i64 ai4, .int .i64 ai5, .int .i64 ai6, .int .i64 ai7, .int .i64 ai8, .int .i64 ai9, .int .i64 ai10, .int .i64 ai11, .slice ao0 A0.length ac0, .slice ao1 A1.length ac1, .int .i64 ai12] 31)).alloc (.cells #[.int .i64 bi0, .int .i64 bi1, .int .i64 bi2, .int .i64 bi3, .int .i64 bi4, .int .i64 bi5, .int .i64 bi6, .int .i64 bi7, .int .i64 bi8, .int .i64 bi9, .int .i64 bi10, .int .i64 bi11, .slice bo0 B0.length bc0, .slice bo1 B1.length bc1, .int .i64 bi12] 31)).cell? ⟨w.heap.size + 1, 9, none⟩ = some (.int .i64 bi9) := by go_cell
  have b10_1 : ((w.alloc (.cells #[.int .i64 ai0, .int .i64 ai1, .int .i64 ai2, .int .i64 ai3, .int .i64 ai4, .int .i64 ai5, .int .i64 ai6, .int .i64 ai7, .int .i64 ai8, .int .i64 ai9, .int .i64 ai10, .int .i64 ai11, .slice ao0 A0.length ac0, .slice ao1 A1.length ac1, .int .i64 ai12] 31)).alloc (.cells #[.int .i64 bi0, .int .i64 bi1, .int .i64 bi2, .int .i64 bi3, .int .i64 bi4, .int .i64 bi5, .int .i64 bi6, .int .i64 bi7, .int .i64 bi8, .int .i64 bi9, .int .i64 bi10, .int .i64 bi11, .slice bo0 B0.length bc0, .slice bo1 B1.length bc1, .int .i64 bi12] 31)).cell? ⟨w.heap.size + 1, 10, none⟩ = some (.int .i64 bi10) := by go_cell
  have b11_1 : ((w.alloc (.cells #[.int .i64 ai0, .int .i64 ai1, .int .i64 ai2, .int .i64 ai3, .int .i64 ai4, .int .i64 ai5, .int .i64 ai6, .int .i64 ai7, .int .i64 ai8, .int .i64 ai9, .int .i64 ai10, .int .i64 ai11, .slice ao0 A0.length ac0, .slice ao1 A1.length ac1, .int .i64 ai12] 31)).alloc (.cells #[.int .i64 bi0, .int .i64 bi1, .int .i64 bi2, .int .i64 bi3, .int .i64 bi4, .int .i64 bi5, .int .i64 bi6, .int .i64 bi7, .int .i64 bi8, .int .i64 bi9, .int .i64 bi10, .int .i64 bi11, .slice bo0 B0.length bc0, .slice bo1 B1.length bc1, .int .i64 bi12] 31)).cell? ⟨w.heap.size + 1, 11, none⟩ = some (.int .i64 bi11) := by go_cell
  have b12_1 : ((w.alloc (.cells #[.int .i64 ai0, .int .i64 ai1, .int .i64 ai2, .int .i64 ai3, .int .i64 ai4, .int .i64 ai5, .int .i64 ai6, .int .i64 ai7, .int .i64 ai8, .int .i64 ai9, .int .i64 ai10, .int .i64 ai11, .slice ao0 A0.length ac0, .slice ao1 A1.length ac1, .int .i64 ai12] 31)).alloc (.cells #[.int .i64 bi0, .int .i64 bi1, .int .i64 bi2, .int .i64 bi3, .int .i64 bi4, .int .i64 bi5, .int .i64 bi6, .int .i64 bi7, .int .i64 bi8, .int .i64 bi9, .int .i64 bi10, .int .i64 bi11, .slice bo0 B0.length bc0, .slice bo1 B1.length bc1, .int .i64 bi12] 31)).cell? ⟨w.heap.size + 1, 12, none⟩ = some (.slice bo0 B0.length bc0) := by go_cell
  have b13_1 : ((w.alloc (.cells #[.int .i64 ai0, .int .i64 ai1, .int .i64 ai2, .int .i64 ai3, .int .i64 ai4, .int .i64 ai5, .int .i64 ai6, .int .i64 ai7, .int .i64 ai8, .int .i64 ai9, .int .i64 ai10, .int .i64 ai11, .slice ao0 A0.length ac0, .slice ao1 A1.length ac1, .int .i64 ai12] 31)).alloc (.cells #[.int .i64 bi0, .int .i64 bi1, .int .i64 bi2, .int .i64 bi3, .int .i64 bi4, .int .i64 bi5, .int .i64 bi6, .int .i64 bi7, .int .i64 bi8, .int .i64 bi9, .int .i64 bi10, .int .i64 bi11, .slice bo0 B0.length bc0, .slice bo1 B1.length bc1, .int .i64 bi12] 31)).cell? ⟨w.heap.size + 1, 13, none⟩ = some (.slice bo1 B1.length bc1) := by go_cell
  have b14_1 : ((w.alloc (.cells #[.int .i64 ai0, .int .i64 ai1, .int .i64 ai2, .int .i64 ai3, .int .i64 ai4, .int .i64 ai5, .int .i64 ai6, .int .i64 ai7, .int .i64 ai8, .int .i64 ai9, .int .i64 ai10, .int .i64 ai11, .slice ao0 A0.length ac0, .slice ao1 A1.length ac1, .int .i64 ai12] 31)).alloc (.cells #[.int .i64 bi0, .int .i64 bi1, .int .i64 bi2, .int .i64 bi3, .int .i64 bi4, .int .i64 bi5, .int .i64 bi6, .int .i64 bi7, .int .i64 bi8, .int .i64 bi9, .int .i64 bi10, .int .i64 bi11, .slice bo0 B0.length bc0, .slice bo1 B1.length bc1, .int .i64 bi12] 31)).cell? ⟨w.heap.size + 1, 14, none⟩ = some (.int .i64 bi12) := by go_cell
  have bl_1 : w.heap.size + 1 < ((w.alloc (.cells #[.int .i64 ai0, .int .i64 ai1, .int .i64 ai2, .int .i64 ai3, .int .i64 ai4, .int .i64 ai5, .int .i64 ai6, .int .i64 ai7, .int .i64 ai8, .int .i64 ai9, .int .i64 ai10, .int .i64 ai11, .slice ao0 A0.length ac0, .slice ao1 A1.length ac1, .int .i64 ai12] 31)).alloc (.cells #[.int .i64 bi0, .int .i64 bi1, .int .i64 bi2, .int .i64 bi3, .int .i64 bi4, .int .i64 bi5, .int .i64 bi6, .int .i64 bi7, .int .i64 bi8, .int .i64 bi9, .int .i64 bi10, .int .i64 bi11, .slice bo0 B0.length bc0, .slice bo1 B1.length bc1, .int .i64 bi12] 31)).heap.size := by first | (simp; done) | (simp; omega)
  have c1 : Below w.heap.size w ((w.alloc (.cells #[.int .i64 ai0, .int .i64 ai1, .int .i64 ai2, .int .i64 ai3, .int .i64 ai4, .int .i64 ai5, .int .i64 ai6, .int .i64 ai7, .int .i64 ai8, .int .i64 ai9, .int .i64 ai10, .int .i64 ai11, .slice ao0 A0.length ac0, .slice ao1 A1.length ac1, .int .i64 ai12] 31)).alloc (.cells #[.int .i64 bi0, .int .i64 bi1, .int .i64 bi2, .int .i64 bi3, .int .i64 bi4, .int .i64 bi5, .int .i64 bi6, .int .i64 bi7, .int .i64 bi8, .int .i64 bi9, .int .i64 bi10, .int .i64 bi11, .slice bo0 B0.length bc0, .slice bo1 B1.length bc1, .int .i64 bi12] 31)) := by go_grown
  have s1 : ((w.alloc (.cells #[.int .i64 ai0, .int .i64 ai1, .int .i64 ai2, .int .i64 ai3, .int .i64 ai4, .int .i64 ai5, .int .i64 ai6, .int .i64 ai7, .int .i64 ai8, .int .i64 ai9, .int .i64 ai10, .int .i64 ai11, .slice ao0 A0.length ac0, .slice ao1 A1.length ac1, .int .i64 ai12] 31)).alloc (.cells #[.int .i64 bi0, .int .i64 bi1, .int .i64 bi2, .int .i64 bi3, .int .i64 bi4, .int .i64 bi5, .int .i64 bi6, .int .i64 bi7, .int .i64 bi8, .int .i64 bi9, .int .i64 bi10, .int .i64 bi11, .slice bo0 B0.length bc0, .slice bo1 B1.length bc1, .int .i64 bi12] 31)).heap.size = w.heap.size + 2 := by simp
  generalize ((w.alloc (.cells #[.int .i64 ai0, .int .i64 ai1, .int .i64 ai2, .int .i64 ai3, .int .i64 ai4, .int .i64 ai5, .int .i64 ai6, .int .i64 ai7, .int .i64 ai8, .int .i64 ai9, .int .i64 ai10, .int .i64 ai11, .slice ao0 A0.length ac0, .slice ao1 A1.length ac1, .int .i64 ai12] 31)).alloc (.cells #[.int .i64 bi0, .int .i64 bi1, .int .i64 bi2, .int .i64 bi3, .int .i64 bi4, .int .i64 bi5, .int .i64 bi6, .int .i64 bi7, .int .i64 bi8, .int .i64 bi9, .int .i64 bi10, .int .i64 bi11, .slice bo0 B0.length bc0, .slice bo1 B1.length bc1, .int .i64 bi12] 31)) = w1 at a0_1 a1_1 a2_1 a3_1 a4_1 a5_1 a6_1 a7_1 a8_1 a9_1 a10_1 a11_1 a12_1 a13_1 a14_1 al_1 b0_1 b1_1 b2_1 b3_1 b4_1 b5_1 b6_1 b7_1 b8_1 b9_1 b10_1 b11_1 b12_1 b13_1 b14_1 bl_1 c1 s1 ⊢
  have qa0_1 := cell_regrown a0_1
  have qa1_1 := cell_regrown a1_1
  have qa2_1 := cell_regrown a2_1
  have qa3_1 := cell_regrown a3_1
  have qa4_1 := cell_regrown a4_1
  have qa5_1 := cell_regrown a5_1
  have qa6_1 := cell_regrown a6_1
  have qa7_1 := cell_regrown a7_1
  have qa8_1 := cell_regrown a8_1
  have qa9_1 := cell_regrown a9_1
  have qa10_1 := cell_regrown a10_1
  have qa11_1 := cell_regrown a11_1
  have qa12_1 := cell_regrown a12_1
  have qa13_1 := cell_regrown a13_1
  have qa14_1 := cell_regrown a14_1
  have qb0_1 := cell_regrown b0_1
  have qb1_1 := cell_regrown b1_1
  have qb2_1 := cell_regrown b2_1
  have qb3_1 := cell_regrown b3_1
  have qb4_1 := cell_regrown b4_1
  have qb5_1 := cell_regrown b5_1
  have qb6_1 := cell_regrown b6_1
  have qb7_1 := cell_regrown b7_1
  have qb8_1 := cell_regrown b8_1
  have qb9_1 := cell_regrown b9_1
  have qb10_1 := cell_regrown b10_1
  have qb11_1 := cell_regrown b11_1
  have qb12_1 := cell_regrown b12_1
  have qb13_1 := cell_regrown b13_1
  have qb14_1 := cell_regrown b14_1
  refine (szMsg_rd ai0 ai1 ai2 ai3 ai4 ai5 ai6 ai7 ai8 ai9 ai10 ai11 ai12 _ _ A0 A1 _ _ (HA.out.later c1) (by omega) (by omega)).mono ?_
  rintro e w2 ⟨hs, b2⟩
  have d2 : Below w1.heap.size w1 w2 := (Below.trans (by go_grown) (b2.mono (by first | omega | (simp; done) | (simp; omega))))
  have c2 : Below w.heap.size w w2 := c1.trans (d2.mono c1.size)
  have a0_2 : w2.cell? ⟨w.heap.size, 0, none⟩ = some (.int .i64 ai0) := (by rw [b2.cell (by first | omega | (simp; done) | (simp; omega))]; go_cell)
  have a1_2 : w2.cell? ⟨w.heap.size, 1, none⟩ = some (.int .i64 ai1) := (by rw [b2.cell (by first | omega | (simp; done) | (simp; omega))]; go_cell)
  have a2_2 : w2.cell? ⟨w.heap.size, 2, none⟩ = some (.int .i64 ai2) := (by rw [b2.cell (by first | omega | (simp; done) | (simp; omega))]; go_cell)
  have a3_2 : w2.cell? ⟨w.heap.size, 3, none⟩ = some (.int .i64 ai3) := (by rw [b2.cell (by first | omega | (simp; done) | (simp; omega))]; go_cell)
  have a4_2 : w2.cell? ⟨w.heap.size, 4, none⟩ = some (.int .i64 ai4) := (by rw [b2.cell (by first | omega | (simp; done) | (simp; omega))]; go_cell)
  have a5_2 : w2.cell? ⟨w.heap.size, 5, none⟩ = some (.int .i64 ai5) := (by rw [b2.cell (by first | omega | (simp; done) | (simp; omega))]; go_cell)
  have a6_2 : w2.cell? ⟨w.heap.size, 6, none⟩ = some (.int .i64 ai6) := (by rw [b2.cell (by first | omega | (simp; done) | (simp; omega))]; go_cell)
  have a7_2 : w2.cell? ⟨w.heap.size, 7, none⟩ = some (.int .i64 ai7) := (by rw [b2.cell (by first | omega | (simp; done) | (simp; omega))]; go_cell)
  have a8_2 : w2.cell? ⟨w.heap.size, 8, none⟩ = some (.int .i64 ai8) := (by rw [b2.cell (by first | omega | (simp; done) | (simp; omega))]; go_cell)
  have a9_2 : w2.cell? ⟨w.heap.size, 9, none⟩ = some (.int .i64 ai9) := (by rw [b2.cell (by first | omega | (simp; done) | (simp; omega))]; go_cell)
  have a10_2 : w2.cell? ⟨w.heap.size, 10, none⟩ = some (.int .i64 ai10) := (by rw [b2.cell (by first | omega | (simp; done) | (simp; omega))]; go_cell)
  have a11_2 : w2.cell? ⟨w.heap.size, 11, none⟩ = some (.int .i64 ai11) := (by rw [b2.cell (by first | omega | (simp; done) | (simp; omega))]; go_cell)
  have a12_2 : w2.cell? ⟨w.heap.size, 12, none⟩ = some (.slice ao0 A0.length ac0) := (by rw [b2.cell (by first | omega | (simp; done) | (simp; omega))]; go_cell)
  have a13_2 : w2.cell? ⟨w.heap.size, 13, none⟩ = some (.slice ao1 A1.length ac1) := (by rw [b2.cell (by first | omega | (simp; done) | (simp; omega))]; go_cell)
  have a14_2 : w2.cell? ⟨w.heap.size, 14, none⟩ = some (.int .i64 ai12) := (by rw [b2.cell (by first | omega | (simp; done) | (simp; omega))]; go_cell)
  have al_2 : w.heap.size < w2.heap.size := (by have := b2.size; first | omega | (revert this; simp; done) | (revert this; simp; omega))
  have b0_2 : w2.cell? ⟨w.heap.size + 1, 0, none⟩ = some (.int .i64 bi0) := (by rw [b2.cell (by first | omega | (simp; done) | (simp; omega))]; go_cell)
  have b1_2 : w2.cell? ⟨w.heap.size + 1, 1, none⟩ = some (.int .i64 bi1) := (by rw [b2.cell (by first | omega | (simp; done) | (simp; omega))]; go_cell)
  have b2_2 : w2.cell? ⟨w.heap.size + 1, 2, none⟩ = some (.int .i64 bi2) := (by rw [b2.cell (by first | omega | (simp; done) | (simp; omega))]; go_cell)
  have b3_2 : w2.cell? ⟨w.heap.size + 1, 3, none⟩ = some (.int .i64 bi3) := (by rw [b2.cell (by first | omega | (simp; done) | (simp; omega))]; go_cell)
  have b4_2 : w2.cell? ⟨w.heap.size + 1, 4, none⟩ = some (.int .i64 bi4) := (by rw [b2.cell (by first | omega | (simp; done) | (simp; omega))]; go_cell)
  have b5_2 : w2.cell? ⟨w.heap.size + 1, 5, none⟩ = some (.int .i64 bi5) := (by rw [b2.cell (by first | omega | (simp; done) | (simp; omega))]; go_cell)
  have b6_2 : w2.cell? ⟨w.heap.size + 1, 6, none⟩ = some (.int .i64 bi6) := (by rw [b2.cell (by first | omega | (simp; done) | (simp; omega))]; go_cell)
  have b7_2 : w2.cell? ⟨w.heap.size + 1, 7, none⟩ = some (.int .i64 bi7) := (by rw [b2.cell (by first | omega | (simp; done) | (simp; omega))]; go_cell)
  have b8_2 : w2.cell? ⟨w.heap.size + 1, 8, none⟩ = some (.int .i64 bi8) := (by rw [b2.cell (by first | omega | (simp; done) | (simp; omega))]; go_cell)
  have b9_2 : w2.cell? ⟨w.heap.size + 1, 9, none⟩ = some (.int .i64 bi9) := (by rw [b2.cell (by first | omega | (simp; done) | (simp; omega))]; go_cell)
  have b10_2 : w2.cell? ⟨w.heap.size + 1, 10, none⟩ = some (.int .i64 bi10) := (by rw [b2.cell (by first | omega | (simp; done) | (simp; omega))]; go_cell)
  have b11_2 : w2.cell? ⟨w.heap.size + 1, 11, none⟩ = some (.int .i64 bi11) := (by rw [b2.cell (by first | omega | (simp; done) | (simp; omega))]; go_cell)
  have b12_2 : w2.cell? ⟨w.heap.size + 1, 12, none⟩ = some (.slice bo0 B0.length bc0) := (by rw [b2.cell (by first | omega | (simp; done) | (simp; omega))]; go_cell)
  have b13_2 : w2.cell? ⟨w.heap.size + 1, 13, none⟩ = some (.slice bo1 B1.length bc1) := (by rw [b2.cell (by first | omega | (simp; done) | (simp; omega))]; go_cell)
  have b14_2 : w2.cell? ⟨w.heap.size + 1, 14, none⟩ = some (.int .i64 bi12) := (by rw [b2.cell (by first | omega | (simp; done) | (simp; omega))]; go_cell)
  have bl_2 : w.heap.size + 1 < w2.heap.size := (by have := b2.size; first | omega | (revert this; simp; done) | (revert this; simp; omega))
  clear a0_1 a1_1 a2_1 a3_1 a4_1 a5_1 a6_1 a7_1 a8_1 a9_1 a10_1 a11_1 a12_1 a13_1 a14_1 al_1 b0_1 b1_1 b2_1 b3_1 b4_1 b5_1 b6_1 b7_1 b8_1 b9_1 b10_1 b11_1 b12_1 b13_1 b14_1 bl_1
  clear b2 d2
  rcases hs with ⟨r, rfl, hr0, hr1, hA⟩ | rfl
  · have HLA := hid hA
    have hr2 : ¬ (r < 0) := by omega
    clear hA
    go_wp2_with fail
    refine (szMsg_rd bi0 bi1 bi2 bi3 bi4 bi5 bi6 bi7 bi8 bi9 bi10 bi11 bi12 _ _ B0 B1 _ _ (HB.out.later c2) (by omega) (by omega)).mono ?_
    rintro e w3 ⟨hs, b3⟩
    have d3 : Below w2.heap.size w2 w3 := (Below.trans (by go_grown) (b3.mono (by first | omega | (simp; done) | (simp; omega))))
    have c3 : Below w.heap.size w w3 := c2.trans (d3.mono c2.size)
    have a0_3 : w3.cell? ⟨w.heap.size, 0, none⟩ = some (.int .i64 ai0) := (by rw [b3.cell (by first | omega | (simp; done) | (simp; omega))]; go_cell)
    have a1_3 : w3.cell? ⟨w.heap.size, 1, none⟩ = some (.int .i64 ai1) := (by rw [b3.cell (by first | omega | (simp; done) | (simp; omega))]; go_cell)
    have a2_3 : w3.cell? ⟨w.heap.size, 2, none⟩ = some (.int .i64 ai2) := (by rw [b3.cell (by first | omega | (simp; done) | (simp; omega))]; go_cell)
    have a3_3 : w3.cell? ⟨w.heap.size, 3, none⟩ = some (.int .i64 ai3) := (by rw [b3.cell (by first | omega | (simp; done) | (simp; omega))]; go_cell)
    have a4_3 : w3.cell? ⟨w.heap.size, 4, none⟩ = some (.int .i64 ai4) := (by rw [b3.cell (by first | omega | (simp; done) | (simp; omega))]; go_cell)
    have a5_3 : w3.cell? ⟨w.heap.size, 5, none⟩ = some (.int .i64 ai5) := (by rw [b3.cell (by first | omega | (simp; done) | (simp; omega))]; go_cell)
    have a6_3 : w3.cell? ⟨w.heap.size, 6, none⟩ = some (.int .i64 ai6) := (by rw [b3.cell (by first | omega | (simp; done) | (simp; omega))]; go_cell)
    have a7_3 : w3.cell? ⟨w.heap.size, 7, none⟩ = some (.int .i64 ai7) := (by rw [b3.cell (by first | omega | (simp; done) | (simp; omega))]; go_cell)
    have a8_3 : w3.cell? ⟨w.heap.size, 8, none⟩ = some (.int .i64 ai8) := (by rw [b3.cell (by first | omega | (simp; done) | (simp; omega))]; go_cell)
    have a9_3 : w3.cell? ⟨w.heap.size, 9, none⟩ = some (.int .i64 ai9) := (by rw [b3.cell (by first | omega | (simp; done) | (simp; omega))]; go_cell)
    have a10_3 : w3.cell? ⟨w.heap.size, 10, none⟩ = some (.int .i64 ai10) := (by rw [b3.cell (by first | omega | (simp; done) | (simp; omega))]; go_cell)
    have a11_3 : w3.cell? ⟨w.heap.size, 11, none⟩ = some (.int .i64 ai11) := (by rw [b3.cell (by first | omega | (simp; done) | (simp; omega))]; go_cell)
    have a12_3 : w3.cell? ⟨w.heap.size, 12, none⟩ = some (.slice ao0 A0.length ac0) := (by rw [b3.cell (by first | omega | (simp; done) | (simp; omega))]; go_cell)
    have a13_3 : w3.cell? ⟨w.heap.size, 13, none⟩ = some (.slice ao1 A1.length ac1) := (by rw [b3.cell (by first | omega | (simp; done) | (simp; omega))]; go_cell)
    have a14_3 : w3.cell? ⟨w.heap.size, 14, none⟩ = some (.int .i64 ai12) := (by rw [b3.cell (by first | omega | (simp; done) | (simp; omega))]; go_cell)
    have al_3 : w.heap.size < w3.heap.size := (by have := b3.size; first | omega | (revert this; simp; done) | (revert this; simp; omega))
    have b0_3 : w3.cell? ⟨w.heap.size + 1, 0, none⟩ = some (.int .i64 bi0) := (by rw [b3.cell (by first | omega | (simp; done) | (simp; omega))]; go_cell)
    have b1_3 : w3.cell? ⟨w.heap.size + 1, 1, none⟩ = some (.int .i64 bi1) := (by rw [b3.cell (by first | omega | (simp; done) | (simp; omega))]; go_cell)
    have b2_3 : w3.cell? ⟨w.heap.size + 1, 2, none⟩ = some (.int .i64 bi2) := (by rw [b3.cell (by first | omega | (simp; done) | (simp; omega))]; go_cell)
    have b3_3 : w3.cell? ⟨w.heap.size + 1, 3, none⟩ = some (.int .i64 bi3) := (by rw [b3.cell (by first | omega | (simp; done) | (simp; omega))]; go_cell)
    have b4_3 : w3.cell? ⟨w.heap.size + 1, 4, none⟩ = some (.int .i64 bi4) := (by rw [b3.cell (by first | omega | (simp; done) | (simp; omega))]; go_cell)
    have b5_3 : w3.cell? ⟨w.heap.size + 1, 5, none⟩ = some (.int .i64 bi5) := (by rw [b3.cell (by first | omega | (simp; done) | (simp; omega))]; go_cell)
    have b6_3 : w3.cell? ⟨w.heap.size + 1, 6, none⟩ = some (.int .i64 bi6) := (by rw [b3.cell (by first | omega | (simp; done) | (simp; omega))]; go_cell)
    have b7_3 : w3.cell? ⟨w.heap.size + 1, 7, none⟩ = some (.int .i64 bi7) := (by rw [b3.cell (by first | omega | (simp; done) | (simp; omega))]; go_cell)
    have b8_3 : w3.cell? ⟨w.heap.size + 1, 8, none⟩ = some (.int .i64 bi8) := (by rw [b3.cell (by first | omega | (simp; done) | (simp; omega))]; go_cell)
    have b9_3 : w3.cell? ⟨w.heap.size + 1, 9, none⟩ = some (.int .i64 bi9) := (by rw [b3.cell (by first | omega | (simp; done) | (simp; omega))]; go_cell)
    have b10_3 : w3.cell? ⟨w.heap.size + 1, 10, none⟩ = some (.int .i64 bi10) := (by rw [b3.cell (by first | omega | (simp; done) | (simp; omega))]; go_cell)
    have b11_3 : w3.cell? ⟨w.heap.size + 1, 11, none⟩ = some (.int .i64 bi11) := (by rw [b3.cell (by first | omega | (simp; done) | (simp; omega))]; go_cell)
    have b12_3 : w3.cell? ⟨w.heap.size + 1, 12, none⟩ = some (.slice bo0 B0.length bc0) := (by rw [b3.cell (by first | omega | (simp; done) | (simp; omega))]; go_cell)
    have b13_3 : w3.cell? ⟨w.heap.size + 1, 13, none⟩ = some (.slice bo1 B1.length bc1) := (by rw [b3.cell (by first | omega | (simp; done) | (simp; omega))]; go_cell)
    have b14_3 : w3.cell? ⟨w.heap.size + 1, 14, none⟩ = some (.int .i64 bi12) := (by rw [b3.cell (by first | omega | (simp; done) | (simp; omega))]; go_cell)
    have bl_3 : w.heap.size + 1 < w3.heap.size := (by have := b3.size; first | omega | (revert this; simp; done) | (revert this; simp; omega))
    clear a0_2 a1_2 a2_2 a3_2 a4_2 a5_2 a6_2 a7_2 a8_2 a9_2 a10_2 a11_2 a12_2 a13_2 a14_2 al_2 b0_2 b1_2 b2_2 b3_2 b4_2 b5_2 b6_2 b7_2 b8_2 b9_2 b10_2 b11_2 b12_2 b13_2 b14_2 bl_2
    clear b3 d3
    rcases hs with ⟨q, rfl, hq0, hq1, hB⟩ | rfl
    · have HLB := hid hB
      have hq2 : ¬ (q < 0) := by omega
      clear hB
      go_wp2_with fail
      go_upto_region 8 with fail
      go_cut [6] from 10 (fun s wx => s = .bool (sameM [ai0, ai1, ai2, ai3, ai4, ai5, ai6, ai7, ai8, ai9, ai10, ai11, ai12] [bi0, bi1, bi2, bi3, bi4, bi5, bi6, bi7, bi8, bi9, bi10, bi11, bi12] A0 B0 A1 B1) ∧ Below w3.heap.size w3 wx)
      case first =>
        as_aux_lemma =>
          go_region_with (first
            | (go_at_call 7; first
              | (have zz := a0_3; clear zz; refine (toMsg_rd ai0 ai1 ai2 ai3 ai4 ai5 ai6 ai7 ai8 ai9 ai10 ai11 ai12 (.slice ao0 A0.length ac0) (.slice ao1 A1.length ac1) A0 A1 _ (HA.out.later (c3.drew)) HLA.out).mono ?_; rintro e w4 ⟨⟨xo0, xo1, xc0, xc1, rfl, oa⟩, b4⟩; have OA4 := hid oa; clear oa; have d4 : Below w3.heap.size w3 w4 := (Below.trans (by go_grown) (b4.mono (by first | omega | (simp; done) | (simp; omega)))); have c4 : Below w.heap.size w w4 := c3.trans (d4.mono c3.size); have a0_4 : w4.cell? ⟨w.heap.size, 0, none⟩ = some (.int .i64 ai0) := (by rw [b4.cell (by first | omega | (simp; done) | (simp; omega))]; go_cell); have a1_4 : w4.cell? ⟨w.heap.size, 1, none⟩ = some (.int .i64 ai1) := (by rw [b4.cell (by first | omega | (simp; done) | (simp; omega))]; go_cell); have a2_4 : w4.cell? ⟨w.heap.size, 2, none⟩ = some (.int .i64 ai2) := (by rw [b4.cell (by first | omega | (simp; done) | (simp; omega))]; go_cell); have a3_4 : w4.cell? ⟨w.heap.size, 3, none⟩ = some (.int .i64 ai3) := (by rw [b4.cell (by first | omega | (simp; done) | (simp; omega))]; go_cell); have a4_4 : w4.cell? ⟨w.heap.size, 4, none⟩ = some (.int .i64 ai4) := (by rw [b4.cell (by first | omega | (simp; done) | (simp; omega))]; go_cell); have a5_4 : w4.cell? ⟨w.heap.size, 5, none⟩ = some (.int .i64 ai5) := (by rw [b4.cell (by first | omega | (simp; done) | (simp; omega))]; go_cell); have a6_4 : w4.cell? ⟨w.heap.size, 6, none⟩ = some (.int .i64 ai6) := (by rw [b4.cell (by first | omega | (simp; done) | (simp; omega))]; go_cell); have a7_4 : w4.cell? ⟨w.heap.size, 7, none⟩ = some (.int .i64 ai7) := (by rw [b4.cell (by first | omega | (simp; done) | (simp; omega))]; go_cell); have a8_4 : w4.cell? ⟨w.heap.size, 8, none⟩ = some (.int .i64 ai8) := (by rw [b4.cell (by first | omega | (simp; done) | (simp; omega))]; go_cell); have a9_4 : w4.cell? ⟨w.heap.size, 9, none⟩ = some (.int .i64 ai9) := (by rw [b4.cell (by first | omega | (simp; done) | (simp; omega))]; go_cell); have a10_4 : w4.cell? ⟨w.heap.size, 10, none⟩ = some (.int .i64 ai10) := (by rw [b4.cell (by first | omega | (simp; done) | (simp; omega))]; go_cell); have a11_4 : w4.cell? ⟨w.heap.size, 11, none⟩ = some (.int .i64 ai11) := (by rw [b4.cell (by first | omega | (simp; done) | (simp; omega))]; go_cell); have a12_4 : w4.cell? ⟨w.heap.size, 12, none⟩ = some (.slice ao0 A0.length ac0) := (by rw [b4.cell (by first | omega | (simp; done) | (simp; omega))]; go_cell); have a13_4 : w4.cell? ⟨w.heap.size, 13, none⟩ = some (.slice ao1 A1.length ac1) := (by rw [b4.cell (by first | omega | (simp; done) | (simp; omega))]; go_cell); have a14_4 : w4.cell? ⟨w.heap.size, 14, none⟩ = some (.int .i64 ai12) := (by rw [b4.cell (by first | omega | (simp; done) | (simp; omega))]; go_cell); have al_4 : w.heap.size < w4.heap.size := (by have := b4.size; first | omega | (revert this; simp; done) | (revert this; simp; omega)); have b0_4 : w4.cell? ⟨w.heap.size + 1, 0, none⟩ = some (.int .i64 bi0) := (by rw [b4.cell (by first | omega | (simp; done) | (simp; omega))]; go_cell); have b1_4 : w4.cell? ⟨w.heap.size + 1, 1, none⟩ = some (.int .i64 bi1) := (by rw [b4.cell (by first | omega | (simp; done) | (simp; omega))]; go_cell); have b2_4 : w4.cell? ⟨w.heap.size + 1, 2, none⟩ = some (.int .i64 bi2) := (by rw [b4.cell (by first | omega | (simp; done) | (simp; omega))]; go_cell); have b3_4 : w4.cell? ⟨w.heap.size + 1, 3, none⟩ = some (.int .i64 bi3) := (by rw [b4.cell (by first | omega | (simp; done) | (simp; omega))]; go_cell); have b4_4 : w4.cell? ⟨w.heap.size + 1, 4, none⟩ = some (.int .i64 bi4) := (by rw [b4.cell (by first | omega | (simp; done) | (simp; omega))]; go_cell); have b5_4 : w4.cell? ⟨w.heap.size + 1, 5, none⟩ = some (.int .i64 bi5) := (by rw [b4.cell (by first | omega | (simp; done) | (simp; omega))]; go_cell); have b6_4 : w4.cell? ⟨w.heap.size + 1, 6, none⟩ = some (.int .i64 bi6) := (by rw [b4.cell (by first | omega | (simp; done) | (simp; omega))]; go_cell); have b7_4 : w4.cell? ⟨w.heap.size + 1, 7, none⟩ = some (.int .i64 bi7) := (by rw [b4.cell (by first | omega | (simp; done) | (simp; omega))]; go_cell); have b8_4 : w4.cell? ⟨w.heap.size + 1, 8, none⟩ = some (.int .i64 bi8) := (by rw [b4.cell (by first | omega | (simp; done) | (simp; omega))]; go_cell); have b9_4 : w4.cell? ⟨w.heap.size + 1, 9, none⟩ = some (.int .i64 bi9) := (by rw [b4.cell (by first | omega | (simp; done) | (simp; omega))]; go_cell); have b10_4 : w4.cell? ⟨w.heap.size + 1, 10, none⟩ = some (.int .i64 bi10) := (by rw [b4.cell (by first | omega | (simp; done) | (simp; omega))]; go_cell); have b11_4 : w4.cell? ⟨w.heap.size + 1, 11, none⟩ = some (.int .i64 bi11) := (by rw [b4.cell (by first | omega | (simp; done) | (simp; omega))]; go_cell); have b12_4 : w4.cell? ⟨w.heap.size + 1, 12, none⟩ = some (.slice bo0 B0.length bc0) := (by rw [b4.cell (by first | omega | (simp; done) | (simp; omega))]; go_cell); have b13_4 : w4.cell? ⟨w.heap.size + 1, 13, none⟩ = some (.slice bo1 B1.length bc1) := (by rw [b4.cell (by first | omega | (simp; done) | (simp; omega))]; go_cell); have b14_4 : w4.cell? ⟨w.heap.size + 1, 14, none⟩ = some (.int .i64 bi12) := (by rw [b4.cell (by first | omega | (simp; done) | (simp; omega))]; go_cell); have bl_4 : w.heap.size + 1 < w4.heap.size := (by have := b4.size; first | omega | (revert this; simp; done) | (revert this; simp; omega)); clear a0_3 a1_3 a2_3 a3_3 a4_3 a5_3 a6_3 a7_3 a8_3 a9_3 a10_3 a11_3 a12_3 a13_3 a14_3 al_3 b0_3 b1_3 b2_3 b3_3 b4_3 b5_3 b6_3 b7_3 b8_3 b9_3 b10_3 b11_3 b12_3 b13_3 b14_3 bl_3)
              | (refine (toMsg_rd bi0 bi1 bi2 bi3 bi4 bi5 bi6 bi7 bi8 bi9 bi10 bi11 bi12 (.slice bo0 B0.length bc0) (.slice bo1 B1.length bc1) B0 B1 _ (HB.out.later c4) HLB.out).mono ?_; rintro e w5 ⟨⟨yo0, yo1, yc0, yc1, rfl, oa⟩, b5⟩; have OB5 := hid oa; clear oa; have d5 : Below w4.heap.size w4 w5 := (Below.trans (by go_grown) (b5.mono (by first | omega | (simp; done) | (simp; omega)))); have c5 : Below w.heap.size w w5 := c4.trans (d5.mono c4.size)))
            | (go_at_call 6; refine (specMSame_any _ _ _ _ _ _ _ _ _ _ _ _ _ _ _ _ _ _ _ _ _ _ _ _ _ _ _ _ _ _ A0 B0 A1 B1 _ (OA4.out.later d5) OB5.out).mono ?_; rintro e w6 ⟨rfl, b6⟩; have d6 : Below w5.heap.size w5 w6 := (Below.trans (by go_grown) (b6.mono (by first | omega | (simp; done) | (simp; omega)))); have c6 : Below w.heap.size w w6 := c5.trans (d6.mono c5.size)))
          all_goals
            go_wp2_with fail
            go_meet
            exact ⟨rfl, (d4.trans (d5.mono d4.size)).trans (d6.mono (Nat.le_trans d4.size d5.size))⟩
      case rest =>
        as_aux_lemma =>
          obtain ⟨rfl, b4⟩ := hcut
          obtain ⟨w4, hw4⟩ : ∃ x, x = wc := ⟨_, rfl⟩
          subst hw4
          have d4 : Below w3.heap.size w3 w4 := (Below.trans (by go_grown) (b4.mono (by first | omega | (simp; done) | (simp; omega))))
          have c4 : Below w.heap.size w w4 := c3.trans (d4.mono c3.size)
          have a0_4 : w4.cell? ⟨w.heap.size, 0, none⟩ = some (.int .i64 ai0) := (by rw [b4.cell (by first | omega | (simp; done) | (simp; omega))]; go_cell)
          have a1_4 : w4.cell? ⟨w.heap.size, 1, none⟩ = some (.int .i64 ai1) := (by rw [b4.cell (by first | omega | (simp; done) | (simp; omega))]; go_cell)
          have a2_4 : w4.cell? ⟨w.heap.size, 2, none⟩ = some (.int .i64 ai2) := (by rw [b4.cell (by first | omega | (simp; done) | (simp; omega))]; go_cell)
          have a3_4 : w4.cell? ⟨w.heap.size, 3, none⟩ = some (.int .i64 ai3) := (by rw [b4.cell (by first | omega | (simp; done) | (simp; omega))]; go_cell)
          have a4_4 : w4.cell? ⟨w.heap.size, 4, none⟩ = some (.int .i64 ai4) := (by rw [b4.cell (by first | omega | (simp; done) | (simp; omega))]; go_cell)
          have a5_4 : w4.cell? ⟨w.heap.size, 5, none⟩ = some (.int .i64 ai5) := (by rw [b4.cell (by first | omega | (simp; done) | (simp; omega))]; go_cell)
          have a6_4 : w4.cell? ⟨w.heap.size, 6, none⟩ = some (.int .i64 ai6) := (by rw [b4.cell (by first | omega | (simp; done) | (simp; omega))]; go_cell)
          have a7_4 : w4.cell? ⟨w.heap.size, 7, none⟩ = some (.int .i64 ai7) := (by rw [b4.cell (by first | omega | (simp; done) | (simp; omega))]; go_cell)
          have a8_4 : w4.cell? ⟨w.heap.size, 8, none⟩ = some (.int .i64 ai8) := (by rw [b4.cell (by first | omega | (simp; done) | (simp; omega))]; go_cell)
          have a9_4 : w4.cell? ⟨w.heap.size, 9, none⟩ = some (.int .i64 ai9) := (by rw [b4.cell (by first | omega | (simp; done) | (simp; omega))]; go_cell)
          have a10_4 : w4.cell? ⟨w.heap.size, 10, none⟩ = some (.int .i64 ai10) := (by rw [b4.cell (by first | omega | (simp; done) | (simp; omega))]; go_cell)
          have a11_4 : w4.cell? ⟨w.heap.size, 11, none⟩ = some (.int .i64 ai11) := (by rw [b4.cell (by first | omega | (simp; done) | (simp; omega))]; go_cell)
          have a12_4 : w4.cell? ⟨w.heap.size, 12, none⟩ = some (.slice ao0 A0.length ac0) := (by rw [b4.cell (by first | omega | (simp; done) | (simp; omega))]; go_cell)
          have a13_4 : w4.cell? ⟨w.heap.size, 13, none⟩ = some (.slice ao1 A1.length ac1) := (by rw [b4.cell (by first | omega | (simp; done) | (simp; omega))]; go_cell)
          have a14_4 : w4.cell? ⟨w.heap.size, 14, none⟩ = some (.int .i64 ai12) := (by rw [b4.cell (by first | omega | (simp; done) | (simp; omega))]; go_cell)
          have al_4 : w.heap.size < w4.heap.size := (by have := b4.size; first | omega | (revert this; simp; done) | (revert this; simp; omega))
          have b0_4 : w4.cell? ⟨w.heap.size + 1, 0, none⟩ = some (.int .i64 bi0) := (by rw [b4.cell (by first | omega | (simp; done) | (simp; omega))]; go_cell)
          have b1_4 : w4.cell? ⟨w.heap.size + 1, 1, none⟩ = some (.int .i64 bi1) := (by rw [b4.cell (by first | omega | (simp; done) | (simp; omega))]; go_cell)
          have b2_4 : w4.cell? ⟨w.heap.size + 1, 2, none⟩ = some (.int .i64 bi2) := (by rw [b4.cell (by first | omega | (simp; done) | (simp; omega))]; go_cell)
          have b3_4 : w4.cell? ⟨w.heap.size + 1, 3, none⟩ = some (.int .i64 bi3) := (by rw [b4.cell (by first | omega | (simp; done) | (simp; omega))]; go_cell)
          have b4_4 : w4.cell? ⟨w.heap.size + 1, 4, none⟩ = some (.int .i64 bi4) := (by rw [b4.cell (by first | omega | (simp; done) | (simp; omega))]; go_cell)
          have b5_4 : w4.cell? ⟨w.heap.size + 1, 5, none⟩ = some (.int .i64 bi5) := (by rw [b4.cell (by first | omega | (simp; done) | (simp; omega))]; go_cell)
          have b6_4 : w4.cell? ⟨w.heap.size + 1, 6, none⟩ = some (.int .i64 bi6) := (by rw [b4.cell (by first | omega | (simp; done) | (simp; omega))]; go_cell)
          have b7_4 : w4.cell? ⟨w.heap.size + 1, 7, none⟩ = some (.int .i64 bi7) := (by rw [b4.cell (by first | omega | (simp; done) | (simp; omega))]; go_cell)
          have b8_4 : w4.cell? ⟨w.heap.size + 1, 8, none⟩ = some (.int .i64 bi8) := (by rw [b4.cell (by first | omega | (simp; done) | (simp; omega))]; go_cell)
          have b9_4 : w4.cell? ⟨w.heap.size + 1, 9, none⟩ = some (.int .i64 bi9) := (by rw [b4.cell (by first | omega | (simp; done) | (simp; omega))]; go_cell)
          have b10_4 : w4.cell? ⟨w.heap.size + 1, 10, none⟩ = some (.int .i64 bi10) := (by rw [b4.cell (by first | omega | (simp; done) | (simp; omega))]; go_cell)
          have b11_4 : w4.cell? ⟨w.heap.size + 1, 11, none⟩ = some (.int .i64 bi11) := (by rw [b4.cell (by first | omega | (simp; done) | (simp; omega))]; go_cell)
          have b12_4 : w4.cell? ⟨w.heap.size + 1, 12, none⟩ = some (.slice bo0 B0.length bc0) := (by rw [b4.cell (by first | omega | (simp; done) | (simp; omega))]; go_cell)
          have b13_4 : w4.cell? ⟨w.heap.size + 1, 13, none⟩ = some (.slice bo1 B1.length bc1) := (by rw [b4.cell (by first | omega | (simp; done) | (simp; omega))]; go_cell)
          have b14_4 : w4.cell? ⟨w.heap.size + 1, 14, none⟩ = some (.int .i64 bi12) := (by rw [b4.cell (by first | omega | (simp; done) | (simp; omega))]; go_cell)
          have bl_4 : w.heap.size + 1 < w4.heap.size := (by have := b4.size; first | omega | (revert this; simp; done) | (revert this; simp; omega))
          clear a0_3 a1_3 a2_3 a3_3 a4_3 a5_3 a6_3 a7_3 a8_3 a9_3 a10_3 a11_3 a12_3 a13_3 a14_3 al_3 b0_3 b1_3 b2_3 b3_3 b4_3 b5_3 b6_3 b7_3 b8_3 b9_3 b10_3 b11_3 b12_3 b13_3 b14_3 bl_3
          clear b4 d4
          go_wp2_with fail
          refine (toMsg_rd ai0 ai1 ai2 ai3 ai4 ai5 ai6 ai7 ai8 ai9 ai10 ai11 ai12 _ _ A0 A1 _ (HA.out.later c4) HLA.out).mono ?_
          rintro e w5 ⟨⟨po0, po1, pc0, pc1, rfl, oa⟩, b5⟩
          have OC5 := hid oa
          clear oa
          have d5 : Below w4.heap.size w4 w5 := (Below.trans (by go_grown) (b5.mono (by first | omega | (simp; done) | (simp; omega))))
          have c5 : Below w.heap.size w w5 := c4.trans (d5.mono c4.size)
          have a0_5 : w5.cell? ⟨w.heap.size, 0, none⟩ = some (.int .i64 ai0) := (by rw [b5.cell (by first | omega | (simp; done) | (simp; omega))]; go_cell)
          have a1_5 : w5.cell? ⟨w.heap.size, 1, none⟩ = some (.int .i64 ai1) := (by rw [b5.cell (by first | omega | (simp; done) | (simp; omega))]; go_cell)
          have a2_5 : w5.cell? ⟨w.heap.size, 2, none⟩ = some (.int .i64 ai2) := (by rw [b5.cell (by first | omega | (simp; done) | (simp; omega))]; go_cell)
          have a3_5 : w5.cell? ⟨w.heap.size, 3, none⟩ = some (.int .i64 ai3) := (by rw [b5.cell (by first | omega | (simp; done) | (simp; omega))]; go_cell)
          have a4_5 : w5.cell? ⟨w.heap.size, 4, none⟩ = some (.int .i64 ai4) := (by rw [b5.cell (by first | omega | (simp; done) | (simp; omega))]; go_cell)
          have a5_5 : w5.cell? ⟨w.heap.size, 5, none⟩ = some (.int .i64 ai5) := (by rw [b5.cell (by first | omega | (simp; done) | (simp; omega))]; go_cell)
          have a6_5 : w5.cell? ⟨w.heap.size, 6, none⟩ = some (.int .i64 ai6) := (by rw [b5.cell (by first | omega | (simp; done) | (simp; omega))]; go_cell)
          have a7_5 : w5.cell? ⟨w.heap.size, 7, none⟩ = some (.int .i64 ai7) := (by rw [b5.cell (by first | omega | (simp; done) | (simp; omega))]; go_cell)
          have a8_5 : w5.cell? ⟨w.heap.size, 8, none⟩ = some (.int .i64 ai8) := (by rw [b5.cell (by first | omega | (simp; done) | (simp; omega))]; go_cell)
          have a9_5 : w5.cell? ⟨w.heap.size, 9, none⟩ = some (.int .i64 ai9) := (by rw [b5.cell (by first | omega | (simp; done) | (simp; omega))]; go_cell)
          have a10_5 : w5.cell? ⟨w.heap.size, 10, none⟩ = some (.int .i64 ai10) := (by rw [b5.cell (by first | omega | (simp; done) | (simp; omega))]; go_cell)
          have a11_5 : w5.cell? ⟨w.heap.size, 11, none⟩ = some (.int .i64 ai11) := (by rw [b5.cell (by first | omega | (simp; done) | (simp; omega))]; go_cell)
          have a12_5 : w5.cell? ⟨w.heap.size, 12, none⟩ = some (.slice ao0 A0.length ac0) := (by rw [b5.cell (by first | omega | (simp; done) | (simp; omega))]; go_cell)
          have a13_5 : w5.cell? ⟨w.heap.size, 13, none⟩ = some (.slice ao1 A1.length ac1) := (by rw [b5.cell (by first | omega | (simp; done) | (simp; omega))]; go_cell)
          have a14_5 : w5.cell? ⟨w.heap.size, 14, none⟩ = some (.int .i64 ai12) := (by rw [b5.cell (by first | omega | (simp; done) | (simp; omega))]; go_cell)
          have al_5 : w.heap.size < w5.heap.size := (by have := b5.size; first | omega | (revert this; simp; done) | (revert this; simp; omega))
          have b0_5 : w5.cell? ⟨w.heap.size + 1, 0, none⟩ = some (.int .i64 bi0) := (by rw [b5.cell (by first | omega | (simp; done) | (simp; omega))]; go_cell)
          have b1_5 : w5.cell? ⟨w.heap.size + 1, 1, none⟩ = some (.int .i64 bi1) := (by rw [b5.cell (by first | omega | (simp; done) | (simp; omega))]; go_cell)
          have b2_5 : w5.cell? ⟨w.heap.size + 1, 2, none⟩ = some (.int .i64 bi2) := (by rw [b5.cell (by first | omega | (simp; done) | (simp; omega))]; go_cell)
          have b3_5 : w5.cell? ⟨w.heap.size + 1, 3, none⟩ = some (.int .i64 bi3) := (by rw [b5.cell (by first | omega | (simp; done) | (simp; omega))]; go_cell)
          have b4_5 : w5.cell? ⟨w.heap.size + 1, 4, none⟩ = some (.int .i64 bi4) := (by rw [b5.cell (by first | omega | (simp; done) | (simp; omega))]; go_cell)
          have b5_5 : w5.cell? ⟨w.heap.size + 1, 5, none⟩ = some (.int .i64 bi5) := (by rw [b5.cell (by first | omega | (simp; done) | (simp; omega))]; go_cell)
          have b6_5 : w5.cell? ⟨w.heap.size + 1, 6, none⟩ = some (.int .i64 bi6) := (by rw [b5.cell (by first | omega | (simp; done) | (simp; omega))]; go_cell)
          have b7_5 : w5.cell? ⟨w.heap.size + 1, 7, none⟩ = some (.int .i64 bi7) := (by rw [b5.cell (by first | omega | (simp; done) | (simp; omega))]; go_cell)
          have b8_5 : w5.cell? ⟨w.heap.size + 1, 8, none⟩ = some (.int .i64 bi8) := (by rw [b5.cell (by first | omega | (simp; done) | (simp; omega))]; go_cell)
          have b9_5 : w5.cell? ⟨w.heap.size + 1, 9, none⟩ = some (.int .i64 bi9) := (by rw [b5.cell (by first | omega | (simp; done) | (simp; omega))]; go_cell)
          have b10_5 : w5.cell? ⟨w.heap.size + 1, 10, none⟩ = some (.int .i64 bi10) := (by rw [b5.cell (by first | omega | (simp; done) | (simp; omega))]; go_cell)
          have b11_5 : w5.cell? ⟨w.heap.size + 1, 11, none⟩ = some (.int .i64 bi11) := (by rw [b5.cell (by first | omega | (simp; done) | (simp; omega))]; go_cell)
          have b12_5 : w5.cell? ⟨w.heap.size + 1, 12, none⟩ = some (.slice bo0 B0.length bc0) := (by rw [b5.cell (by first | omega | (simp; done) | (simp; omega))]; go_cell)
          have b13_5 : w5.cell? ⟨w.heap.size + 1, 13, none⟩ = some (.slice bo1 B1.length bc1) := (by rw [b5.cell (by first | omega | (simp; done) | (simp; omega))]; go_cell)
          have b14_5 : w5.cell? ⟨w.heap.size + 1, 14, none⟩ = some (.int .i64 bi12) := (by rw [b5.cell (by first | omega | (simp; done) | (simp; omega))]; go_cell)
          have bl_5 : w.heap.size + 1 < w5.heap.size := (by have := b5.size; first | omega | (revert this; simp; done) | (revert this; simp; omega))
          clear a0_4 a1_4 a2_4 a3_4 a4_4 a5_4 a6_4 a7_4 a8_4 a9_4 a10_4 a11_4 a12_4 a13_4 a14_4 al_4 b0_4 b1_4 b2_4 b3_4 b4_4 b5_4 b6_4 b7_4 b8_4 b9_4 b10_4 b11_4 b12_4 b13_4 b14_4 bl_4
          clear b5 d5
          go_wp2_with fail
          have x0_6 : (w5.alloc (.cells #[.int .i64 ai0, .int .i64 ai1, .int .i64 ai2, .int .i64 ai3, .int .i64 ai4, .int .i64 ai5, .int .i64 ai6, .int .i64 ai7, .int .i64 ai8, .int .i64 ai9, .int .i64 ai10, .int .i64 ai11, .slice po0 A0.length pc0, .slice po1 A1.length pc1, .int .i64 ai12] 41)).cell? ⟨w5.heap.size, 0, none⟩ = some (.int .i64 ai0) := by go_cell
          have x1_6 : (w5.alloc (.cells #[.int .i64 ai0, .int .i64 ai1, .int .i64 ai2, .int .i64 ai3, .int .i64 ai4, .int .i64 ai5, .int .i64 ai6, .int .i64 ai7, .int .i64 ai8, .int .i64 ai9, .int .i64 ai10, .int .i64 ai11, .slice po0 A0.length pc0, .slice po1 A1.length pc1, .int .i64 ai12] 41)).cell? ⟨w5.heap.size, 1, none⟩ = some (.int .i64 ai1) := by go_cell
          have x2_6 : (w5.alloc (.cells #[.int .i64 ai0, .int .i64 ai1, .int .i64 ai2, .int .i64 ai3, .int .i64 ai4, .int .i64 ai5, .int .i64 ai6, .int .i64 ai7, .int .i64 ai8, .int .i64 ai9, .int .i64 ai10, .int .i64 ai11, .slice po0 A0.length pc0, .slice po1 A1.length pc1, .int .i64 ai12] 41)).cell? ⟨w5.heap.size, 2, none⟩ = some (.int .i64 ai2) := by go_cell
          have x3_6 : (w5.alloc (.cells #[.int .i64 ai0, .int .i64 ai1, .int .i64 ai2, .int .i64 ai3, .int .i64 ai4, .int .i64 ai5, .int .i64 ai6, .int .i64 ai7, .int .i64 ai8, .int .i64 ai9, .int .i64 ai10, .int .i64 ai11, .slice po0 A0.length pc0, .slice po1 A1.length pc1, .int .i64 ai12] 41)).cell? ⟨w5.heap.size, 3, none⟩ = some (.int .i64 ai3) := by go_cell
          have x4_6 : (w5.alloc (.cells #[.int .i64 ai0, .int .i64 ai1, .int .i64 ai2, .int .i64 ai3, .int .i64 ai4, .int .i64 ai5, .int .i64 ai6, .int .i64 ai7, .int .i64 ai8, .int .i64 ai9, .int .i64 ai10, .int .i64 ai11, .slice po0 A0.length pc0, .slice po1 A1.length pc1, .int .i64 ai12] 41)).cell? ⟨w5.heap.size, 4, none⟩ = some (.int .i64 ai4) := by go_cell
          have x5_6 : (w5.alloc (.cells #[.int .i64 ai0, .int .i64 ai1, .int .i64 ai2, .int .i64 ai3, .int .i64 ai4, .int .i64 ai5, .int .i64 ai6, .int .i64 ai7, .int .i64 ai8, .int .i64 ai9, .int .i64 ai10, .int .i64 ai11, .slice po0 A0.length pc0, .slice po1 A1.length pc1, .int .i64 ai12] 41)).cell? ⟨w5.heap.size, 5, none⟩ = some (.int .i64 ai5) := by go_cell
          have x6_6 : (w5.alloc (.cells #[.int .i64 ai0, .int .i64 ai1, .int .i64 ai2, .int .i64 ai3, .int .i64 ai4, .int .i64 ai5, .int .i64 ai6, .int .i64 ai7, .int .i64 ai8, .int .i64 ai9, .int .i64 ai10, .int .i64 ai11, .slice po0 A0.length pc0, .slice po1 A1.length pc1, .int .i64 ai12] 41)).cell? ⟨w5.heap.size, 6, none⟩ = some (.int .i64 ai6) := by go_cell
          have x7_6 : (w5.alloc (.cells #[.int .i64 ai0, .int .i64 ai1, .int .i64 ai2, .int .i64 ai3, .int .i64 ai4, .int .i64 ai5, .int .i64 ai6, .int .i64 ai7, .int .i64 ai8, .int .i64 ai9, .int .i64 ai10, .int .i64 ai11, .slice po0 A0.length pc0, .slice po1 A1.length pc1, .int .i64 ai12] 41)).cell? ⟨w5.heap.size, 7, none⟩ = some (.int .i64 ai7) := by go_cell
          have x8_6 : (w5.alloc (.cells #[.int .i64 ai0, .int .i64 ai1, .int .i64 ai2, .int .i64 ai3, .int .i64 ai4, .int .i64 ai5, .int .i64 ai6, .int .i64 ai7, .int .i64 ai8, .int .i64 ai9, .int .i64 ai10, .int .i64 ai11, .slice po0 A0.length pc0, .slice po1 A1.length pc1, .int .i64 ai12] 41)).cell? ⟨w5.heap.size, 8, none⟩ = some (.int .i64 ai8) := by go_cell
          have x9_6 : (w5.alloc (.cells #[.int .i64 ai0, .int .i64 ai1, .int .i64 ai2, .int .i64 ai3, .int .i64 ai4, .int .i64 ai5, .int .i64 ai6, .int .i64 ai7, .int .i64 ai8, .int .i64 ai9, .int .i64 ai10, .int .i64 ai11, .slice po0 A0.length pc0, .slice po1 A1.length pc1, .int .i64 ai12] 41)).cell? ⟨w5.heap.size, 9, none⟩ = some (.int .i64 ai9) := by go_cell
          have x10_6 : (w5.alloc (.cells #[.int .i64 ai0, .int .i64 ai1, .int .i64 ai2, .int .i64 ai3, .int .i64 ai4, .int .i64 ai5, .int .i64 ai6, .int .i64 ai7, .int .i64 ai8, .int .i64 ai9, .int .i64 ai10, .int .i64 ai11, .slice po0 A0.length pc0, .slice po1 A1.length pc1, .int .i64 ai12] 41)).cell? ⟨w5.heap.size, 10, none⟩ = some (.int .i64 ai10) := by go_cell
          have x11_6 : (w5.alloc (.cells #[.int .i64 ai0, .int .i64 ai1, .int .i64 ai2, .int .i64 ai3, .int .i64 ai4, .int .i64 ai5, .int .i64 ai6, .int .i64 ai7, .int .i64 ai8, .int .i64 ai9, .int .i64 ai10, .int .i64 ai11, .slice po0 A0.length pc0, .slice po1 A1.length pc1, .int .i64 ai12] 41)).cell? ⟨w5.heap.size, 11, none⟩ = some (.int .i64 ai11) := by go_cell
          have x12_6 : (w5.alloc (.cells #[.int .i64 ai0, .int .i64 ai1, .int .i64 ai2, .int .i64 ai3, .int .i64 ai4, .int .i64 ai5, .int .i64 ai6, .int .i64 ai7, .int .i64 ai8, .int .i64 ai9, .int .i64 ai10, .int .i64 ai11, .slice po0 A0.length pc0, .slice po1 A1.length pc1, .int .i64 ai12] 41)).cell? ⟨w5.heap.size, 12, none⟩ = some (.slice po0 A0.length pc0) := by go_cell
          have x13_6 : (w5.alloc (.cells #[.int .i64 ai0, .int .i64 ai1, .int .i64 ai2, .int .i64 ai3, .int .i64 ai4, .int .i64 ai5, .int .i64 ai6, .int .i64 ai7, .int .i64 ai8, .int .i64 ai9, .int .i64 ai10, .int .i64 ai11, .slice po0 A0.length pc0, .slice po1 A1.length pc1, .int .i64 ai12] 41)).cell? ⟨w5.heap.size, 13, none⟩ = some (.slice po1 A1.length pc1) := by go_cell
          have x14_6 : (w5.alloc (.cells #[.int .i64 ai0, .int .i64 ai1, .int .i64 ai2, .int .i64 ai3, .int .i64 ai4, .int .i64 ai5, .int .i64 ai6, .int .i64 ai7, .int .i64 ai8, .int .i64 ai9, .int .i64 ai10, .int .i64 ai11, .slice po0 A0.length pc0, .slice po1 A1.length pc1, .int .i64 ai12] 41)).cell? ⟨w5.heap.size, 14, none⟩ = some (.int .i64 ai12) := by go_cell
          have xl_6 : w5.heap.size < (w5.alloc (.cells #[.int .i64 ai0, .int .i64 ai1, .int .i64 ai2, .int .i64 ai3, .int .i64 ai4, .int .i64 ai5, .int .i64 ai6, .int .i64 ai7, .int .i64 ai8, .int .i64 ai9, .int .i64 ai10, .int .i64 ai11, .slice po0 A0.length pc0, .slice po1 A1.length pc1, .int .i64 ai12] 41)).heap.size := by simp
          have d6 : Below w5.heap.size w5 (w5.alloc (.cells #[.int .i64 ai0, .int .i64 ai1, .int .i64 ai2, .int .i64 ai3, .int .i64 ai4, .int .i64 ai5, .int .i64 ai6, .int .i64 ai7, .int .i64 ai8, .int .i64 ai9, .int .i64 ai10, .int .i64 ai11, .slice po0 A0.length pc0, .slice po1 A1.length pc1, .int .i64 ai12] 41)) := by go_grown
          generalize (w5.alloc (.cells #[.int .i64 ai0, .int .i64 ai1, .int .i64 ai2, .int .i64 ai3, .int .i64 ai4, .int .i64 ai5, .int .i64 ai6, .int .i64 ai7, .int .i64 ai8, .int .i64 ai9, .int .i64 ai10, .int .i64 ai11, .slice po0 A0.length pc0, .slice po1 A1.length pc1, .int .i64 ai12] 41)) = w6 at x0_6 x1_6 x2_6 x3_6 x4_6 x5_6 x6_6 x7_6 x8_6 x9_6 x10_6 x11_6 x12_6 x13_6 x14_6 xl_6 d6 ⊢
          have c6 : Below w.heap.size w w6 := c5.trans (d6.mono c5.size)
          have a0_6 : w6.cell? ⟨w.heap.size, 0, none⟩ = some (.int .i64 ai0) := (by rw [d6.cell (by first | omega | (simp; done) | (simp; omega))]; go_cell)
          have a1_6 : w6.cell? ⟨w.heap.size, 1, none⟩ = some (.int .i64 ai1) := (by rw [d6.cell (by first | omega | (simp; done) | (simp; omega))]; go_cell)
          have a2_6 : w6.cell? ⟨w.heap.size, 2, none⟩ = some (.int .i64 ai2) := (by rw [d6.cell (by first | omega | (simp; done) | (simp; omega))]; go_cell)
          have a3_6 : w6.cell? ⟨w.heap.size, 3, none⟩ = some (.int .i64 ai3) := (by rw [d6.cell (by first | omega | (simp; done) | (simp; omega))]; go_cell)
          have a4_6 : w6.cell? ⟨w.heap.size, 4, none⟩ = some (.int .i64 ai4) := (by rw [d6.cell (by first | omega | (simp; done) | (simp; omega))]; go_cell)
          have a5_6 : w6.cell? ⟨w.heap.size, 5, none⟩ = some (.int .i64 ai5) := (by rw [d6.cell (by first | omega | (simp; done) | (simp; omega))]; go_cell)
          have a6_6 : w6.cell? ⟨w.heap.size, 6, none⟩ = some (.int .i64 ai6) := (by rw [d6.cell (by first | omega | (simp; done) | (simp; omega))]; go_cell)
          have a7_6 : w6.cell? ⟨w.heap.size, 7, none⟩ = some (.int .i64 ai7) := (by rw [d6.cell (by first | omega | (simp; done) | (simp; omega))]; go_cell)
          have a8_6 : w6.cell? ⟨w.heap.size, 8, none⟩ = some (.int .i64 ai8) := (by rw [d6.cell (by first | omega | (simp; done) | (simp; omega))]; go_cell)
          have a9_6 : w6.cell? ⟨w.heap.size, 9, none⟩ = some (.int .i64 ai9) := (by rw [d6.cell (by first | omega | (simp; done) | (simp; omega))]; go_cell)
          have a10_6 : w6.cell? ⟨w.heap.size, 10, none⟩ = some (.int .i64 ai10) := (by rw [d6.cell (by first | omega | (simp; done) | (simp; omega))]; go_cell)
          have a11_6 : w6.cell? ⟨w.heap.size, 11, none⟩ = some (.int .i64 ai11) := (by rw [d6.cell (by first | omega | (simp; done) | (simp; omega))]; go_cell)
          have a12_6 : w6.cell? ⟨w.heap.size, 12, none⟩ = some (.slice ao0 A0.length ac0) := (by rw [d6.cell (by first | omega | (simp; done) | (simp; omega))]; go_cell)
          have a13_6 : w6.cell? ⟨w.heap.size, 13, none⟩ = some (.slice ao1 A1.length ac1) := (by rw [d6.cell (by first | omega | (simp; done) | (simp; omega))]; go_cell)
          have a14_6 : w6.cell? ⟨w.heap.size, 14, none⟩ = some (.int .i64 ai12) := (by rw [d6.cell (by first | omega | (simp; done) | (simp; omega))]; go_cell)
          have al_6 : w.heap.size < w6.heap.size := (by have := d6.size; omega)
          have b0_6 : w6.cell? ⟨w.heap.size + 1, 0, none⟩ = some (.int .i64 bi0) := (by rw [d6.cell (by first | omega | (simp; done) | (simp; omega))]; go_cell)
          have b1_6 : w6.cell? ⟨w.heap.size + 1, 1, none⟩ = some (.int .i64 bi1) := (by rw [d6.cell (by first | omega | (simp; done) | (simp; omega))]; go_cell)
          have b2_6 : w6.cell? ⟨w.heap.size + 1, 2, none⟩ = some (.int .i64 bi2) := (by rw [d6.cell (by first | omega | (simp; done) | (simp; omega))]; go_cell)
          have b3_6 : w6.cell? ⟨w.heap.size + 1, 3, none⟩ = some (.int .i64 bi3) := (by rw [d6.cell (by first | omega | (simp; done) | (simp; omega))]; go_cell)
          have b4_6 : w6.cell? ⟨w.heap.size + 1, 4, none⟩ = some (.int .i64 bi4) := (by rw [d6.cell (by first | omega | (simp; done) | (simp; omega))]; go_cell)
          have b5_6 : w6.cell? ⟨w.heap.size + 1, 5, none⟩ = some (.int .i64 bi5) := (by rw [d6.cell (by first | omega | (simp; done) | (simp; omega))]; go_cell)
          have b6_6 : w6.cell? ⟨w.heap.size + 1, 6, none⟩ = some (.int .i64 bi6) := (by rw [d6.cell (by first | omega | (simp; done) | (simp; omega))]; go_cell)
          have b7_6 : w6.cell? ⟨w.heap.size + 1, 7, none⟩ = some (.int .i64 bi7) := (by rw [d6.cell (by first | omega | (simp; done) | (simp; omega))]; go_cell)
          have b8_6 : w6.cell? ⟨w.heap.size + 1, 8, none⟩ = some (.int .i64 bi8) := (by rw [d6.cell (by first | omega | (simp; done) | (simp; omega))]; go_cell)
          have b9_6 : w6.cell? ⟨w.heap.size + 1, 9, none⟩ = some (.int .i64 bi9) := (by rw [d6.cell (by first | omega | (simp; done) | (simp; omega))]; go_cell)
          have b10_6 : w6.cell? ⟨w.heap.size + 1, 10, none⟩ = some (.int .i64 bi10) := (by rw [d6.cell (by first | omega | (simp; done) | (simp; omega))]; go_cell)
          have b11_6 : w6.cell? ⟨w.heap.size + 1, 11, none⟩ = some (.int .i64 bi11) := (by rw [d6.cell (by first | omega | (simp; done) | (simp; omega))]; go_cell)
          have b12_6 : w6.cell? ⟨w.heap.size + 1, 12, none⟩ = some (.slice bo0 B0.length bc0) := (by rw [d6.cell (by first | omega | (simp; done) | (simp; omega))]; go_cell)
          have b13_6 : w6.cell? ⟨w.heap.size + 1, 13, none⟩ = some (.slice bo1 B1.length bc1) := (by rw [d6.cell (by first | omega | (simp; done) | (simp; omega))]; go_cell)
          have b14_6 : w6.cell? ⟨w.heap.size + 1, 14, none⟩ = some (.int .i64 bi12) := (by rw [d6.cell (by first | omega | (simp; done) | (simp; omega))]; go_cell)
          have bl_6 : w.heap.size + 1 < w6.heap.size := (by have := d6.size; omega)
          clear a0_5 a1_5 a2_5 a3_5 a4_5 a5_5 a6_5 a7_5 a8_5 a9_5 a10_5 a11_5 a12_5 a13_5 a14_5 al_5 b0_5 b1_5 b2_5 b3_5 b4_5 b5_5 b6_5 b7_5 b8_5 b9_5 b10_5 b11_5 b12_5 b13_5 b14_5 bl_5
          have OC6 := hid (OC5.out.later d6)
          clear d6
          refine (toMsg_rd bi0 bi1 bi2 bi3 bi4 bi5 bi6 bi7 bi8 bi9 bi10 bi11 bi12 _ _ B0 B1 _ (HB.out.later c6) HLB.out).mono ?_
          rintro e w7 ⟨⟨qo0, qo1, qc0, qc1, rfl, oa⟩, b7⟩
          have OD7 := hid oa
          clear oa
          have d7 : Below w6.heap.size w6 w7 := (Below.trans (by go_grown) (b7.mono (by first | omega | (simp; done) | (simp; omega))))
          have c7 : Below w.heap.size w w7 := c6.trans (d7.mono c6.size)
          have a0_7 : w7.cell? ⟨w.heap.size, 0, none⟩ = some (.int .i64 ai0) := (by rw [b7.cell (by first | omega | (simp; done) | (simp; omega))]; go_cell)
          have a1_7 : w7.cell? ⟨w.heap.size, 1, none⟩ = some (.int .i64 ai1) := (by rw [b7.cell (by first | omega | (simp; done) | (simp; omega))]; go_cell)
          have a2_7 : w7.cell? ⟨w.heap.size, 2, none⟩ = some (.int .i64 ai2) := (by rw [b7.cell (by first | omega | (simp; done) | (simp; omega))]; go_cell)
          have a3_7 : w7.cell? ⟨w.heap.size, 3, none⟩ = some (.int .i64 ai3) := (by rw [b7.cell (by first | omega | (simp; done) | (simp; omega))]; go_cell)
          have a4_7 : w7.cell? ⟨w.heap.size, 4, none⟩ = some (.int .i64 ai4) := (by rw [b7.cell (by first | omega | (simp; done) | (simp; omega))]; go_cell)
          have a5_7 : w7.cell? ⟨w.heap.size, 5, none⟩ = some (.int .i64 ai5) := (by rw [b7.cell (by first | omega | (simp; done) | (simp; omega))]; go_cell)
          have a6_7 : w7.cell? ⟨w.heap.size, 6, none⟩ = some (.int .i64 ai6) := (by rw [b7.cell (by first | omega | (simp; done) | (simp; omega))]; go_cell)
          have a7_7 : w7.cell? ⟨w.heap.size, 7, none⟩ = some (.int .i64 ai7) := (by rw [b7.cell (by first | omega | (simp; done) | (simp; omega))]; go_cell)
          have a8_7 : w7.cell? ⟨w.heap.size, 8, none⟩ = some (.int .i64 ai8) := (by rw [b7.cell (by first | omega | (simp; done) | (simp; omega))]; go_cell)
          have a9_7 : w7.cell? ⟨w.heap.size, 9, none⟩ = some (.int .i64 ai9) := (by rw [b7.cell (by first | omega | (simp; done) | (simp; omega))]; go_cell)
          have a10_7 : w7.cell? ⟨w.heap.size, 10, none⟩ = some (.int .i64 ai10) := (by rw [b7.cell (by first | omega | (simp; done) | (simp; omega))]; go_cell)
          have a11_7 : w7.cell? ⟨w.heap.size, 11, none⟩ = some (.int .i64 ai11) := (by rw [b7.cell (by first | omega | (simp; done) | (simp; omega))]; go_cell)
          have a12_7 : w7.cell? ⟨w.heap.size, 12, none⟩ = some (.slice ao0 A0.length ac0) := (by rw [b7.cell (by first | omega | (simp; done) | (simp; omega))]; go_cell)
          have a13_7 : w7.cell? ⟨w.heap.size, 13, none⟩ = some (.slice ao1 A1.length ac1) := (by rw [b7.cell (by first | omega | (simp; done) | (simp; omega))]; go_cell)
          have a14_7 : w7.cell? ⟨w.heap.size, 14, none⟩ = some (.int .i64 ai12) := (by rw [b7.cell (by first | omega | (simp; done) | (simp; omega))]; go_cell)
          have al_7 : w.heap.size < w7.heap.size := (by have := b7.size; first | omega | (revert this; simp; done) | (revert this; simp; omega))
          have b0_7 : w7.cell? ⟨w.heap.size + 1, 0, none⟩ = some (.int .i64 bi0) := (by rw [b7.cell (by first | omega | (simp; done) | (simp; omega))]; go_cell)
          have b1_7 : w7.cell? ⟨w.heap.size + 1, 1, none⟩ = some (.int .i64 bi1) := (by rw [b7.cell (by first | omega | (simp; done) | (simp; omega))]; go_cell)
          have b2_7 : w7.cell? ⟨w.heap.size + 1, 2, none⟩ = some (.int .i64 bi2) := (by rw [b7.cell (by first | omega | (simp; done) | (simp; omega))]; go_cell)
          have b3_7 : w7.cell? ⟨w.heap.size + 1, 3, none⟩ = some (.int .i64 bi3) := (by rw [b7.cell (by first | omega | (simp; done) | (simp; omega))]; go_cell)
          have b4_7 : w7.cell? ⟨w.heap.size + 1, 4, none⟩ = some (.int .i64 bi4) := (by rw [b7.cell (by first | omega | (simp; done) | (simp; omega))]; go_cell)
          have b5_7 : w7.cell? ⟨w.heap.size + 1, 5, none⟩ = some (.int .i64 bi5) := (by rw [b7.cell (by first | omega | (simp; done) | (simp; omega))]; go_cell)
          have b6_7 : w7.cell? ⟨w.heap.size + 1, 6, none⟩ = some (.int .i64 bi6) := (by rw [b7.cell (by first | omega | (simp; done) | (simp; omega))]; go_cell)
          have b7_7 : w7.cell? ⟨w.heap.size + 1, 7, none⟩ = some (.int .i64 bi7) := (by rw [b7.cell (by first | omega | (simp; done) | (simp; omega))]; go_cell)
          have b8_7 : w7.cell? ⟨w.heap.size + 1, 8, none⟩ = some (.int .i64 bi8) := (by rw [b7.cell (by first | omega | (simp; done) | (simp; omega))]; go_cell)
          have b9_7 : w7.cell? ⟨w.heap.size + 1, 9, none⟩ = some (.int .i64 bi9) := (by rw [b7.cell (by first | omega | (simp; done) | (simp; omega))]; go_cell)
          have b10_7 : w7.cell? ⟨w.heap.size + 1, 10, none⟩ = some (.int .i64 bi10) := (by rw [b7.cell (by first | omega | (simp; done) | (simp; omega))]; go_cell)
          have b11_7 : w7.cell? ⟨w.heap.size + 1, 11, none⟩ = some (.int .i64 bi11) := (by rw [b7.cell (by first | omega | (simp; done) | (simp; omega))]; go_cell)
          have b12_7 : w7.cell? ⟨w.heap.size + 1, 12, none⟩ = some (.slice bo0 B0.length bc0) := (by rw [b7.cell (by first | omega | (simp; done) | (simp; omega))]; go_cell)
          have b13_7 : w7.cell? ⟨w.heap.size + 1, 13, none⟩ = some (.slice bo1 B1.length bc1) := (by rw [b7.cell (by first | omega | (simp; done) | (simp; omega))]; go_cell)
          have b14_7 : w7.cell? ⟨w.heap.size + 1, 14, none⟩ = some (.int .i64 bi12) := (by rw [b7.cell (by first | omega | (simp; done) | (simp; omega))]; go_cell)
          have bl_7 : w.heap.size + 1 < w7.heap.size := (by have := b7.size; first | omega | (revert this; simp; done) | (revert this; simp; omega))
          have x0_7 : w7.cell? ⟨w5.heap.size, 0, none⟩ = some (.int .i64 ai0) := (by rw [b7.cell (by first | omega | (simp; done) | (simp; omega))]; go_cell)
          have x1_7 : w7.cell? ⟨w5.heap.size, 1, none⟩ = some (.int .i64 ai1) := (by rw [b7.cell (by first | omega | (simp; done) | (simp; omega))]; go_cell)
          have x2_7 : w7.cell? ⟨w5.heap.size, 2, none⟩ = some (.int .i64 ai2) := (by rw [b7.cell (by first | omega | (simp; done) | (simp; omega))]; go_cell)
          have x3_7 : w7.cell? ⟨w5.heap.size, 3, none⟩ = some (.int .i64 ai3) := (by rw [b7.cell (by first | omega | (simp; done) | (simp; omega))]; go_cell)
          have x4_7 : w7.cell? ⟨w5.heap.size, 4, none⟩ = some (.int .i64 ai4) := (by rw [b7.cell (by first | omega | (simp; done) | (simp; omega))]; go_cell)
          have x5_7 : w7.cell? ⟨w5.heap.size, 5, none⟩ = some (.int .i64 ai5) := (by rw [b7.cell (by first | omega | (simp; done) | (simp; omega))]; go_cell)
          have x6_7 : w7.cell? ⟨w5.heap.size, 6, none⟩ = some (.int .i64 ai6) := (by rw [b7.cell (by first | omega | (simp; done) | (simp; omega))]; go_cell)
          have x7_7 : w7.cell? ⟨w5.heap.size, 7, none⟩ = some (.int .i64 ai7) := (by rw [b7.cell (by first | omega | (simp; done) | (simp; omega))]; go_cell)
          have x8_7 : w7.cell? ⟨w5.heap.size, 8, none⟩ = some (.int .i64 ai8) := (by rw [b7.cell (by first | omega | (simp; done) | (simp; omega))]; go_cell)
          have x9_7 : w7.cell? ⟨w5.heap.size, 9, none⟩ = some (.int .i64 ai9) := (by rw [b7.cell (by first | omega | (simp; done) | (simp; omega))]; go_cell)
          have x10_7 : w7.cell? ⟨w5.heap.size, 10, none⟩ = some (.int .i64 ai10) := (by rw [b7.cell (by first | omega | (simp; done) | (simp; omega))]; go_cell)
          have x11_7 : w7.cell? ⟨w5.heap.size, 11, none⟩ = some (.int .i64 ai11) := (by rw [b7.cell (by first | omega | (simp; done) | (simp; omega))]; go_cell)
          have x12_7 : w7.cell? ⟨w5.heap.size, 12, none⟩ = some (.slice po0 A0.length pc0) := (by rw [b7.cell (by first | omega | (simp; done) | (simp; omega))]; go_cell)
          have x13_7 : w7.cell? ⟨w5.heap.size, 13, none⟩ = some (.slice po1 A1.length pc1) := (by rw [b7.cell (by first | omega | (simp; done) | (simp; omega))]; go_cell)
          have x14_7 : w7.cell? ⟨w5.heap.size, 14, none⟩ = some (.int .i64 ai12) := (by rw [b7.cell (by first | omega | (simp; done) | (simp; omega))]; go_cell)
          have xl_7 : w5.heap.size < w7.heap.size := (by have := b7.size; first | omega | (revert this; simp; done) | (revert this; simp; omega))
          clear a0_6 a1_6 a2_6 a3_6 a4_6 a5_6 a6_6 a7_6 a8_6 a9_6 a10_6 a11_6 a12_6 a13_6 a14_6 al_6 b0_6 b1_6 b2_6 b3_6 b4_6 b5_6 b6_6 b7_6 b8_6 b9_6 b10_6 b11_6 b12_6 b13_6 b14_6 bl_6 x0_6 x1_6 x2_6 x3_6 x4_6 x5_6 x6_6 x7_6 x8_6 x9_6 x10_6 x11_6 x12_6 x13_6 x14_6 xl_6
          have OC7 := hid (OC6.out.later d7)
          clear b7 d7
          go_wp2_with fail
          have y0_8 : (w7.alloc (.cells #[.int .i64 bi0, .int .i64 bi1, .int .i64 bi2, .int .i64 bi3, .int .i64 bi4, .int .i64 bi5, .int .i64 bi6, .int .i64 bi7, .int .i64 bi8, .int .i64 bi9, .int .i64 bi10, .int .i64 bi11, .slice qo0 B0.length qc0, .slice qo1 B1.length qc1, .int .i64 bi12] 41)).cell? ⟨w7.heap.size, 0, none⟩ = some (.int .i64 bi0) := by go_cell
          have y1_8 : (w7.alloc (.cells #[.int .i64 bi0, .int .i64 bi1, .int .i64 bi2, .int .i64 bi3, .int .i64 bi4, .int .i64 bi5, .int .i64 bi6, .int .i64 bi7, .int .i64 bi8, .int .i64 bi9, .int .i64 bi10, .int .i64 bi11, .slice qo0 B0.length qc0, .slice qo1 B1.length qc1, .int .i64 bi12] 41)).cell? ⟨w7.heap.size, 1, none⟩ = some (.int .i64 bi1) := by go_cell
          have y2_8 : (w7.alloc (.cells #[.int .i64 bi0, .int .i64 bi1, .int .i64 bi2, .int .i64 bi3, .int .i64 bi4, .int .i64 bi5, .int .i64 bi6, .int .i64 bi7, .int .i64 bi8, .int .i64 bi9, .int .i64 bi10, .int .i64 bi11, .slice qo0 B0.length qc0, .slice qo1 B1.length qc1, .int .i64 bi12] 41)).cell? ⟨w7.heap.size, 2, none⟩ = some (.int .i64 bi2) := by go_cell
          have y3_8 : (w7.alloc (.cells #[.int .i64 bi0, .int .i64 bi1, .int .i64 bi2, .int .i64 bi3, .int .i64 bi4, .int .i64 bi5, .int .i64 bi6, .int .i64 bi7, .int .i64 bi8, .int .i64 bi9, .int .i64 bi10, .int .i64 bi11, .slice qo0 B0.length qc0, .slice qo1 B1.length qc1, .int .i64 bi12] 41)).cell? ⟨w7.heap.size, 3, none⟩ = some (.int .i64 bi3) := by go_cell
          have y4_8 : (w7.alloc (.cells #[.int .i64 bi0, .int .i64 bi1, .int .i64 bi2, .int .i64 bi3, .int .i64 bi4, .int .i64 bi5, .int .i64 bi6, .int .i64 bi7, .int .i64 bi8, .int .i64 bi9, .int .i64 bi10, .int .i64 bi11, .slice qo0 B0.length qc0, .slice qo1 B1.length qc1, .int .i64 bi12] 41)).cell? ⟨w7.heap.size, 4, none⟩ = some (.int .i64 bi4) := by go_cell
          have y5_8 : (w7.alloc (.cells #[.int .i64 bi0, .int .i64 bi1, .int .i64 bi2, .int .i64 bi3, .int .i64 bi4, .int .i64 bi5, .int .i64 bi6, .int .i64 bi7, .int .i64 bi8, .int .i64 bi9, .int .i64 bi10, .int .i64 bi11, .slice qo0 B0.length qc0, .slice qo1 B1.length qc1, .int .i64 bi12] 41)).cell? ⟨w7.heap.size, 5, none⟩ = some (.int .i64 bi5) := by go_cell
          have y6_8 : (w7.alloc (.cells #[.int .i64 bi0, .int .i64 bi1, .int .i64 bi2, .int .i64 bi3, .int .i64 bi4, .int .i64 bi5, .int .i64 bi6, .int .i64 bi7, .int .i64 bi8, .int .i64 bi9, .int .i64 bi10, .int .i64 bi11, .slice qo0 B0.length qc0, .slice qo1 B1.length qc1, .int .i64 bi12] 41)).cell? ⟨w7.heap.size, 6, none⟩ = some (.int .i64 bi6) := by go_cell
          have y7_8 : (w7.alloc (.cells #[.int .i64 bi0, .int .i64 bi1, .int .i64 bi2, .int .i64 bi3, .int .i64 bi4, .int .i64 bi5, .int .i64 bi6, .int .i64 bi7, .int .i64 bi8, .int .i64 bi9, .int .i64 bi10, .int .i64 bi11, .slice qo0 B0.length qc0, .slice qo1 B1.length qc1, .int .i64 bi12] 41)).cell? ⟨w7.heap.size, 7, none⟩ = some (.int .i64 bi7) := by go_cell
          have y8_8 : (w7.alloc (.cells #[.int .i64 bi0, .int .i64 bi1, .int .i64 bi2, .int .i64 bi3, .int .i64 bi4, .int .i64 bi5, .int .i64 bi6, .int .i64 bi7, .int .i64 bi8, .int .i64 bi9, .int .i64 bi10, .int .i64 bi11, .slice qo0 B0.length qc0, .slice qo1 B1.length qc1, .int .i64 bi12] 41)).cell? ⟨w7.heap.size, 8, none⟩ = some (.int .i64 bi8) := by go_cell
          have y9_8 : (w7.alloc (.cells #[.int .i64 bi0, .int .i64 bi1, .int .i64 bi2, .int .i64 bi3, .int .i64 bi4, .int .i64 bi5, .int .i64 bi6, .int .i64 bi7, .int .i64 bi8, .int .i64 bi9, .int .i64 bi10, .int .i64 bi11, .slice qo0 B0.length qc0, .slice qo1 B1.length qc1, .int .i64 bi12] 41)).cell? ⟨w7.heap.size, 9, none⟩ = some (.int .i64 bi9) := by go_cell
          have y10_8 : (w7.alloc (.cells #[.int .i64 bi0, .int .i64 bi1, .int .i64 bi2, .int .i64 bi3, .int .i64 bi4, .int .i64 bi5, .int .i64 bi6, .int .i64 bi7, .int .i64 bi8, .int .i64 bi9, .int .i64 bi10, .int .i64 bi11, .slice qo0 B0.length qc0, .slice qo1 B1.length qc1, .int .i64 bi12] 41)).cell? ⟨w7.heap.size, 10, none⟩ = some (.int .i64 bi10) := by go_cell
          have y11_8 : (w7.alloc (.cells #[.int .i64 bi0, .int .i64 bi1, .int .i64 bi2, .int .i64 bi3, .int .i64 bi4, .int .i64 bi5, .int .i64 bi6, .int .i64 bi7, .int .i64 bi8, .int .i64 bi9, .int .i64 bi10, .int .i64 bi11, .slice qo0 B0.length qc0, .slice qo1 B1.length qc1, .int .i64 bi12] 41)).cell? ⟨w7.heap.size, 11, none⟩ = some (.int .i64 bi11) := by go_cell
          have y12_8 : (w7.alloc (.cells #[.int .i64 bi0, .int .i64 bi1, .int .i64 bi2, .int .i64 bi3, .int .i64 bi4, .int .i64 bi5, .int .i64 bi6, .int .i64 bi7, .int .i64 bi8, .int .i64 bi9, .int .i64 bi10, .int .i64 bi11, .slice qo0 B0.length qc0, .slice qo1 B1.length qc1, .int .i64 bi12] 41)).cell? ⟨w7.heap.size, 12, none⟩ = some (.slice qo0 B0.length qc0) := by go_cell
          have y13_8 : (w7.alloc (.cells #[.int .i64 bi0, .int .i64 bi1, .int .i64 bi2, .int .i64 bi3, .int .i64 bi4, .int .i64 bi5, .int .i64 bi6, .int .i64 bi7, .int .i64 bi8, .int .i64 bi9, .int .i64 bi10, .int .i64 bi11, .slice qo0 B0.length qc0, .slice qo1 B1.length qc1, .int .i64 bi12] 41)).cell? ⟨w7.heap.size, 13, none⟩ = some (.slice qo1 B1.length qc1) := by go_cell
          have y14_8 : (w7.alloc (.cells #[.int .i64 bi0, .int .i64 bi1, .int .i64 bi2, .int .i64 bi3, .int .i64 bi4, .int .i64 bi5, .int .i64 bi6, .int .i64 bi7, .int .i64 bi8, .int .i64 bi9, .int .i64 bi10, .int .i64 bi11, .slice qo0 B0.length qc0, .slice qo1 B1.length qc1, .int .i64 bi12] 41)).cell? ⟨w7.heap.size, 14, none⟩ = some (.int .i64 bi12) := by go_cell
          have yl_8 : w7.heap.size < (w7.alloc (.cells #[.int .i64 bi0, .int .i64 bi1, .int .i64 bi2, .int .i64 bi3, .int .i64 bi4, .int .i64 bi5, .int .i64 bi6, .int .i64 bi7, .int .i64 bi8, .int .i64 bi9, .int .i64 bi10, .int .i64 bi11, .slice qo0 B0.length qc0, .slice qo1 B1.length qc1, .int .i64 bi12] 41)).heap.size := by simp
          have d8 : Below w7.heap.size w7 (w7.alloc (.cells #[.int .i64 bi0, .int .i64 bi1, .int .i64 bi2, .int .i64 bi3, .int .i64 bi4, .int .i64 bi5, .int .i64 bi6, .int .i64 bi7, .int .i64 bi8, .int .i64 bi9, .int .i64 bi10, .int .i64 bi11, .slice qo0 B0.length qc0, .slice qo1 B1.length qc1, .int .i64 bi12] 41)) := by go_grown
          generalize (w7.alloc (.cells #[.int .i64 bi0, .int .i64 bi1, .int .i64 bi2, .int .i64 bi3, .int .i64 bi4, .int .i64 bi5, .int .i64 bi6, .int .i64 bi7, .int .i64 bi8, .int .i64 bi9, .int .i64 bi10, .int .i64 bi11, .slice qo0 B0.length qc0, .slice qo1 B1.length qc1, .int .i64 bi12] 41)) = w8 at y0_8 y1_8 y2_8 y3_8 y4_8 y5_8 y6_8 y7_8 y8_8 y9_8 y10_8 y11_8 y12_8 y13_8 y14_8 yl_8 d8 ⊢
          have c8 : Below w.heap.size w w8 := c7.trans (d8.mono c7.size)
          have a0_8 : w8.cell? ⟨w.heap.size, 0, none⟩ = some (.int .i64 ai0) := (by rw [d8.cell (by first | omega | (simp; done) | (simp; omega))]; go_cell)
          have a1_8 : w8.cell? ⟨w.heap.size, 1, none⟩ = some (.int .i64 ai1) := (by rw [d8.cell (by first | omega | (simp; done) | (simp; omega))]; go_cell)
          have a2_8 : w8.cell? ⟨w.heap.size, 2, none⟩ = some (.int .i64 ai2) := (by rw [d8.cell (by first | omega | (simp; done) | (simp; omega))]; go_cell)
          have a3_8 : w8.cell? ⟨w.heap.size, 3, none⟩ = some (.int .i64 ai3) := (by rw [d8.cell (by first | omega | (simp; done) | (simp; omega))]; go_cell)
          have a4_8 : w8.cell? ⟨w.heap.size, 4, none⟩ = some (.int .i64 ai4) := (by rw [d8.cell (by first | omega | (simp; done) | (simp; omega))]; go_cell)
          have a5_8 : w8.cell? ⟨w.heap.size, 5, none⟩ = some (.int .i64 ai5) := (by rw [d8.cell (by first | omega | (simp; done) | (simp; omega))]; go_cell)
          have a6_8 : w8.cell? ⟨w.heap.size, 6, none⟩ = some (.int .i64 ai6) := (by rw [d8.cell (by first | omega | (simp; done) | (simp; omega))]; go_cell)
          have a7_8 : w8.cell? ⟨w.heap.size, 7, none⟩ = some (.int .i64 ai7) := (by rw [d8.cell (by first | omega | (simp; done) | (simp; omega))]; go_cell)
          have a8_8 : w8.cell? ⟨w.heap.size, 8, none⟩ = some (.int .i64 ai8) := (by rw [d8.cell (by first | omega | (simp; done) | (simp; omega))]; go_cell)
          have a9_8 : w8.cell? ⟨w.heap.size, 9, none⟩ = some (.int .i64 ai9) := (by rw [d8.cell (by first | omega | (simp; done) | (simp; omega))]; go_cell)
          have a10_8 : w8.cell? ⟨w.heap.size, 10, none⟩ = some (.int .i64 ai10) := (by rw [d8.cell (by first | omega | (simp; done) | (simp; omega))]; go_cell)
          have a11_8 : w8.cell? ⟨w.heap.size, 11, none⟩ = some (.int .i64 ai11) := (by rw [d8.cell (by first | omega | (simp; done) | (simp; omega))]; go_cell)
          have a12_8 : w8.cell? ⟨w.heap.size, 12, none⟩ = some (.slice ao0 A0.length ac0) := (by rw [d8.cell (by first | omega | (simp; done) | (simp; omega))]; go_cell)
          have a13_8 : w8.cell? ⟨w.heap.size, 13, none⟩ = some (.slice ao1 A1.length ac1) := (by rw [d8.cell (by first | omega | (simp; done) | (simp; omega))]; go_cell)
          have a14_8 : w8.cell? ⟨w.heap.size, 14, none⟩ = some (.int .i64 ai12) := (by rw [d8.cell (by first | omega | (simp; done) | (simp; omega))]; go_cell)
          have al_8 : w.heap.size < w8.heap.size := (by have := d8.size; omega)
          have b0_8 : w8.cell? ⟨w.heap.size + 1, 0, none⟩ = some (.int .i64 bi0) := (by rw [d8.cell (by first | omega | (simp; done) | (simp; omega))]; go_cell)
          have b1_8 : w8.cell? ⟨w.heap.size + 1, 1, none⟩ = some (.int .i64 bi1) := (by rw [d8.cell (by first | omega | (simp; done) | (simp; omega))]; go_cell)
          have b2_8 : w8.cell? ⟨w.heap.size + 1, 2, none⟩ = some (.int .i64 bi2) := (by rw [d8.cell (by first | omega | (simp; done) | (simp; omega))]; go_cell)
          have b3_8 : w8.cell? ⟨w.heap.size + 1, 3, none⟩ = some (.int .i64 bi3) := (by rw [d8.cell (by first | omega | (simp; done) | (simp; omega))]; go_cell)
          have b4_8 : w8.cell? ⟨w.heap.size + 1, 4, none⟩ = some (.int .i64 bi4) := (by rw [d8.cell (by first | omega | (simp; done) | (simp; omega))]; go_cell)
          have b5_8 : w8.cell? ⟨w.heap.size + 1, 5, none⟩ = some (.int .i64 bi5) := (by rw [d8.cell (by first | omega | (simp; done) | (simp; omega))]; go_cell)
          have b6_8 : w8.cell? ⟨w.heap.size + 1, 6, none⟩ = some (.int .i64 bi6) := (by rw [d8.cell (by first | omega | (simp; done) | (simp; omega))]; go_cell)
          have b7_8 : w8.cell? ⟨w.heap.size + 1, 7, none⟩ = some (.int .i64 bi7) := (by rw [d8.cell (by first | omega | (simp; done) | (simp; omega))]; go_cell)
          have b8_8 : w8.cell? ⟨w.heap.size + 1, 8, none⟩ = some (.int .i64 bi8) := (by rw [d8.cell (by first | omega | (simp; done) | (simp; omega))]; go_cell)
          have b9_8 : w8.cell? ⟨w.heap.size + 1, 9, none⟩ = some (.int .i64 bi9) := (by rw [d8.cell (by first | omega | (simp; done) | (simp; omega))]; go_cell)
          have b10_8 : w8.cell? ⟨w.heap.size + 1, 10, none⟩ = some (.int .i64 bi10) := (by rw [d8.cell (by first | omega | (simp; done) | (simp; omega))]; go_cell)
          have b11_8 : w8.cell? ⟨w.heap.size + 1, 11, none⟩ = some (.int .i64 bi11) := (by rw [d8.cell (by first | omega | (simp; done) | (simp; omega))]; go_cell)
          have b12_8 : w8.cell? ⟨w.heap.size + 1, 12, none⟩ = some (.slice bo0 B0.length bc0) := (by rw [d8.cell (by first | omega | (simp; done) | (simp; omega))]; go_cell)
          have b13_8 : w8.cell? ⟨w.heap.size + 1, 13, none⟩ = some (.slice bo1 B1.length bc1) := (by rw [d8.cell (by first | omega | (simp; done) | (simp; omega))]; go_cell)
          have b14_8 : w8.cell? ⟨w.heap.size + 1, 14, none⟩ = some (.int .i64 bi12) := (by rw [d8.cell (by first | omega | (simp; done) | (simp; omega))]; go_cell)
          have bl_8 : w.heap.size + 1 < w8.heap.size := (by have := d8.size; omega)
          have x0_8 : w8.cell? ⟨w5.heap.size, 0, none⟩ = some (.int .i64 ai0) := (by rw [d8.cell (by first | omega | (simp; done) | (simp; omega))]; go_cell)
          have x1_8 : w8.cell? ⟨w5.heap.size, 1, none⟩ = some (.int .i64 ai1) := (by rw [d8.cell (by first | omega | (simp; done) | (simp; omega))]; go_cell)
          have x2_8 : w8.cell? ⟨w5.heap.size, 2, none⟩ = some (.int .i64 ai2) := (by rw [d8.cell (by first | omega | (simp; done) | (simp; omega))]; go_cell)
          have x3_8 : w8.cell? ⟨w5.heap.size, 3, none⟩ = some (.int .i64 ai3) := (by rw [d8.cell (by first | omega | (simp; done) | (simp; omega))]; go_cell)
          have x4_8 : w8.cell? ⟨w5.heap.size, 4, none⟩ = some (.int .i64 ai4) := (by rw [d8.cell (by first | omega | (simp; done) | (simp; omega))]; go_cell)
          have x5_8 : w8.cell? ⟨w5.heap.size, 5, none⟩ = some (.int .i64 ai5) := (by rw [d8.cell (by first | omega | (simp; done) | (simp; omega))]; go_cell)
          have x6_8 : w8.cell? ⟨w5.heap.size, 6, none⟩ = some (.int .i64 ai6) := (by rw [d8.cell (by first | omega | (simp; done) | (simp; omega))]; go_cell)
          have x7_8 : w8.cell? ⟨w5.heap.size, 7, none⟩ = some (.int .i64 ai7) := (by rw [d8.cell (by first | omega | (simp; done) | (simp; omega))]; go_cell)
          have x8_8 : w8.cell? ⟨w5.heap.size, 8, none⟩ = some (.int .i64 ai8) := (by rw [d8.cell (by first | omega | (simp; done) | (simp; omega))]; go_cell)
          have x9_8 : w8.cell? ⟨w5.heap.size, 9, none⟩ = some (.int .i64 ai9) := (by rw [d8.cell (by first | omega | (simp; done) | (simp; omega))]; go_cell)
          have x10_8 : w8.cell? ⟨w5.heap.size, 10, none⟩ = some (.int .i64 ai10) := (by rw [d8.cell (by first | omega | (simp; done) | (simp; omega))]; go_cell)
          have x11_8 : w8.cell? ⟨w5.heap.size, 11, none⟩ = some (.int .i64 ai11) := (by rw [d8.cell (by first | omega | (simp; done) | (simp; omega))]; go_cell)
          have x12_8 : w8.cell? ⟨w5.heap.size, 12, none⟩ = some (.slice po0 A0.length pc0) := (by rw [d8.cell (by first | omega | (simp; done) | (simp; omega))]; go_cell)
          have x13_8 : w8.cell? ⟨w5.heap.size, 13, none⟩ = some (.slice po1 A1.length pc1) := (by rw [d8.cell (by first | omega | (simp; done) | (simp; omega))]; go_cell)
          have x14_8 : w8.cell? ⟨w5.heap.size, 14, none⟩ = some (.int .i64 ai12) := (by rw [d8.cell (by first | omega | (simp; done) | (simp; omega))]; go_cell)
          have xl_8 : w5.heap.size < w8.heap.size := (by have := d8.size; omega)
          clear a0_7 a1_7 a2_7 a3_7 a4_7 a5_7 a6_7 a7_7 a8_7 a9_7 a10_7 a11_7 a12_7 a13_7 a14_7 al_7 b0_7 b1_7 b2_7 b3_7 b4_7 b5_7 b6_7 b7_7 b8_7 b9_7 b10_7 b11_7 b12_7 b13_7 b14_7 bl_7 x0_7 x1_7 x2_7 x3_7 x4_7 x5_7 x6_7 x7_7 x8_7 x9_7 x10_7 x11_7 x12_7 x13_7 x14_7 xl_7
          have OC8 := hid (OC7.out.later d8)
          have OD8 := hid (OD7.out.later d8)
          clear d8
          refine (implMSame_any _ _ _ _ _ _ _ _ _ _ _ _ _ _ _ _ _ _ _ _ _ _ _ _ _ _ _ _ _ _ A0 B0 A1 B1 _ OC8.out OD8.out).mono ?_
          rintro e w9 ⟨rfl, b9⟩
          have d9 : Below w8.heap.size w8 w9 := (Below.trans (by go_grown) (b9.mono (by first | omega | (simp; done) | (simp; omega))))
          have c9 : Below w.heap.size w w9 := c8.trans (d9.mono c8.size)
          have a0_9 : w9.cell? ⟨w.heap.size, 0, none⟩ = some (.int .i64 ai0) := (by rw [b9.cell (by first | omega | (simp; done) | (simp; omega))]; go_cell)
          have a1_9 : w9.cell? ⟨w.heap.size, 1, none⟩ = some (.int .i64 ai1) := (by rw [b9.cell (by first | omega | (simp; done) | (simp; omega))]; go_cell)
          have a2_9 : w9.cell? ⟨w.heap.size, 2, none⟩ = some (.int .i64 ai2) := (by rw [b9.cell (by first | omega | (simp; done) | (simp; omega))]; go_cell)
          have a3_9 : w9.cell? ⟨w.heap.size, 3, none⟩ = some (.int .i64 ai3) := (by rw [b9.cell (by first | omega | (simp; done) | (simp; omega))]; go_cell)
          have a4_9 : w9.cell? ⟨w.heap.size, 4, none⟩ = some (.int .i64 ai4) := (by rw [b9.cell (by first | omega | (simp; done) | (simp; omega))]; go_cell)
          have a5_9 : w9.cell? ⟨w.heap.size, 5, none⟩ = some (.int .i64 ai5) := (by rw [b9.cell (by first | omega | (simp; done) | (simp; omega))]; go_cell)
          have a6_9 : w9.cell? ⟨w.heap.size, 6, none⟩ = some (.int .i64 ai6) := (by rw [b9.cell (by first | omega | (simp; done) | (simp; omega))]; go_cell)
          have a7_9 : w9.cell? ⟨w.heap.size, 7, none⟩ = some (.int .i64 ai7) := (by rw [b9.cell (by first | omega | (simp; done) | (simp; omega))]; go_cell)
          have a8_9 : w9.cell? ⟨w.heap.size, 8, none⟩ = some (.int .i64 ai8) := (by rw [b9.cell (by first | omega | (simp; done) | (simp; omega))]; go_cell)
          have a9_9 : w9.cell? ⟨w.heap.size, 9, none⟩ = some (.int .i64 ai9) := (by rw [b9.cell (by first | omega | (simp; done) | (simp; omega))]; go_cell)
          have a10_9 : w9.cell? ⟨w.heap.size, 10, none⟩ = some (.int .i64 ai10) := (by rw [b9.cell (by first | omega | (simp; done) | (simp; omega))]; go_cell)
          have a11_9 : w9.cell? ⟨w.heap.size, 11, none⟩ = some (.int .i64 ai11) := (by rw [b9.cell (by first | omega | (simp; done) | (simp; omega))]; go_cell)
          have a12_9 : w9.cell? ⟨w.heap.size, 12, none⟩ = some (.slice ao0 A0.length ac0) := (by rw [b9.cell (by first | omega | (simp; done) | (simp; omega))]; go_cell)
          have a13_9 : w9.cell? ⟨w.heap.size, 13, none⟩ = some (.slice ao1 A1.length ac1) := (by rw [b9.cell (by first | omega | (simp; done) | (simp; omega))]; go_cell)
          have a14_9 : w9.cell? ⟨w.heap.size, 14, none⟩ = some (.int .i64 ai12) := (by rw [b9.cell (by first | omega | (simp; done) | (simp; omega))]; go_cell)
          have al_9 : w.heap.size < w9.heap.size := (by have := b9.size; first | omega | (revert this; simp; done) | (revert this; simp; omega))
          have b0_9 : w9.cell? ⟨w.heap.size + 1, 0, none⟩ = some (.int .i64 bi0) := (by rw [b9.cell (by first | omega | (simp; done) | (simp; omega))]; go_cell)
          have b1_9 : w9.cell? ⟨w.heap.size + 1, 1, none⟩ = some (.int .i64 bi1) := (by rw [b9.cell (by first | omega | (simp; done) | (simp; omega))]; go_cell)
          have b2_9 : w9.cell? ⟨w.heap.size + 1, 2, none⟩ = some (.int .i64 bi2) := (by rw [b9.cell (by first | omega | (simp; done) | (simp; omega))]; go_cell)
          have b3_9 : w9.cell? ⟨w.heap.size + 1, 3, none⟩ = some (.int .i64 bi3) := (by rw [b9.cell (by first | omega | (simp; done) | (simp; omega))]; go_cell)
          have b4_9 : w9.cell? ⟨w.heap.size + 1, 4, none⟩ = some (.int .i64 bi4) := (by rw [b9.cell (by first | omega | (simp; done) | (simp; omega))]; go_cell)
          have b5_9 : w9.cell? ⟨w.heap.size + 1, 5, none⟩ = some (.int .i64 bi5) := (by rw [b9.cell (by first | omega | (simp; done) | (simp; omega))]; go_cell)
          have b6_9 : w9.cell? ⟨w.heap.size + 1, 6, none⟩ = some (.int .i64 bi6) := (by rw [b9.cell (by first | omega | (simp; done) | (simp; omega))]; go_cell)
          have b7_9 : w9.cell? ⟨w.heap.size + 1, 7, none⟩ = some (.int .i64 bi7) := (by rw [b9.cell (by first | omega | (simp; done) | (simp; omega))]; go_cell)
          have b8_9 : w9.cell? ⟨w.heap.size + 1, 8, none⟩ = some (.int .i64 bi8) := (by rw [b9.cell (by first | omega | (simp; done) | (simp; omega))]; go_cell)
          have b9_9 : w9.cell? ⟨w.heap.size + 1, 9, none⟩ = some (.int .i64 bi9) := (by rw [b9.cell (by first | omega | (simp; done) | (simp; omega))]; go_cell)
          have b10_9 : w9.cell? ⟨w.heap.size + 1, 10, none⟩ = some (.int .i64 bi10) := (by rw [b9.cell (by first | omega | (simp; done) | (simp; omega))]; go_cell)
          have b11_9 : w9.cell? ⟨w.heap.size + 1, 11, none⟩ = some (.int .i64 bi11) := (by rw [b9.cell (by first | omega | (simp; done) | (simp; omega))]; go_cell)
          have b12_9 : w9.cell? ⟨w.heap.size + 1, 12, none⟩ = some (.slice bo0 B0.length bc0) := (by rw [b9.cell (by first | omega | (simp; done) | (simp; omega))]; go_cell)
          have b13_9 : w9.cell? ⟨w.heap.size + 1, 13, none⟩ = some (.slice bo1 B1.length bc1) := (by rw [b9.cell (by first | omega | (simp; done) | (simp; omega))]; go_cell)
          have b14_9 : w9.cell? ⟨w.heap.size + 1, 14, none⟩ = some (.int .i64 bi12) := (by rw [b9.cell (by first | omega | (simp; done) | (simp; omega))]; go_cell)
          have bl_9 : w.heap.size + 1 < w9.heap.size := (by have := b9.size; first | omega | (revert this; simp; done) | (revert this; simp; omega))
          have x0_9 : w9.cell? ⟨w5.heap.size, 0, none⟩ = some (.int .i64 ai0) := (by rw [b9.cell (by first | omega | (simp; done) | (simp; omega))]; go_cell)
          have x1_9 : w9.cell? ⟨w5.heap.size, 1, none⟩ = some (.int .i64 ai1) := (by rw [b9.cell (by first | omega | (simp; done) | (simp; omega))]; go_cell)
          have x2_9 : w9.cell? ⟨w5.heap.size, 2, none⟩ = some (.int .i64 ai2) := (by rw [b9.cell (by first | omega | (simp; done) | (simp; omega))]; go_cell)
          have x3_9 : w9.cell? ⟨w5.heap.size, 3, none⟩ = some (.int .i64 ai3) := (by rw [b9.cell (by first | omega | (simp; done) | (simp; omega))]; go_cell)
          have x4_9 : w9.cell? ⟨w5.heap.size, 4, none⟩ = some (.int .i64 ai4) := (by rw [b9.cell (by first | omega | (simp; done) | (simp; omega))]; go_cell)
          have x5_9 : w9.cell? ⟨w5.heap.size, 5, none⟩ = some (.int .i64 ai5) := (by rw [b9.cell (by first | omega | (simp; done) | (simp; omega))]; go_cell)
          have x6_9 : w9.cell? ⟨w5.heap.size, 6, none⟩ = some (.int .i64 ai6) := (by rw [b9.cell (by first | omega | (simp; done) | (simp; omega))]; go_cell)
          have x7_9 : w9.cell? ⟨w5.heap.size, 7, none⟩ = some (.int .i64 ai7) := (by rw [b9.cell (by first | omega | (simp; done) | (simp; omega))]; go_cell)
          have x8_9 : w9.cell? ⟨w5.heap.size, 8, none⟩ = some (.int .i64 ai8) := (by rw [b9.cell (by first | omega | (simp; done) | (simp; omega))]; go_cell)
          have x9_9 : w9.cell? ⟨w5.heap.size, 9, none⟩ = some (.int .i64 ai9) := (by rw [b9.cell (by first | omega | (simp; done) | (simp; omega))]; go_cell)
          have x10_9 : w9.cell? ⟨w5.heap.size, 10, none⟩ = some (.int .i64 ai10) := (by rw [b9.cell (by first | omega | (simp; done) | (simp; omega))]; go_cell)
          have x11_9 : w9.cell? ⟨w5.heap.size, 11, none⟩ = some (.int .i64 ai11) := (by rw [b9.cell (by first | omega | (simp; done) | (simp; omega))]; go_cell)
          have x12_9 : w9.cell? ⟨w5.heap.size, 12, none⟩ = some (.slice po0 A0.length pc0) := (by rw [b9.cell (by first | omega | (simp; done) | (simp; omega))]; go_cell)
          have x13_9 : w9.cell? ⟨w5.heap.size, 13, none⟩ = some (.slice po1 A1.length pc1) := (by rw [b9.cell (by first | omega | (simp; done) | (simp; omega))]; go_cell)
          have x14_9 : w9.cell? ⟨w5.heap.size, 14, none⟩ = some (.int .i64 ai12) := (by rw [b9.cell (by first | omega | (simp; done) | (simp; omega))]; go_cell)
          have xl_9 : w5.heap.size < w9.heap.size := (by have := b9.size; first | omega | (revert this; simp; done) | (revert this; simp; omega))
          have y0_9 : w9.cell? ⟨w7.heap.size, 0, none⟩ = some (.int .i64 bi0) := (by rw [b9.cell (by first | omega | (simp; done) | (simp; omega))]; go_cell)
          have y1_9 : w9.cell? ⟨w7.heap.size, 1, none⟩ = some (.int .i64 bi1) := (by rw [b9.cell (by first | omega | (simp; done) | (simp; omega))]; go_cell)
          have y2_9 : w9.cell? ⟨w7.heap.size, 2, none⟩ = some (.int .i64 bi2) := (by rw [b9.cell (by first | omega | (simp; done) | (simp; omega))]; go_cell)
          have y3_9 : w9.cell? ⟨w7.heap.size, 3, none⟩ = some (.int .i64 bi3) := (by rw [b9.cell (by first | omega | (simp; done) | (simp; omega))]; go_cell)
          have y4_9 : w9.cell? ⟨w7.heap.size, 4, none⟩ = some (.int .i64 bi4) := (by rw [b9.cell (by first | omega | (simp; done) | (simp; omega))]; go_cell)
          have y5_9 : w9.cell? ⟨w7.heap.size, 5, none⟩ = some (.int .i64 bi5) := (by rw [b9.cell (by first | omega | (simp; done) | (simp; omega))]; go_cell)
          have y6_9 : w9.cell? ⟨w7.heap.size, 6, none⟩ = some (.int .i64 bi6) := (by rw [b9.cell (by first | omega | (simp; done) | (simp; omega))]; go_cell)
          have y7_9 : w9.cell? ⟨w7.heap.size, 7, none⟩ = some (.int .i64 bi7) := (by rw [b9.cell (by first | omega | (simp; done) | (simp; omega))]; go_cell)
          have y8_9 : w9.cell? ⟨w7.heap.size, 8, none⟩ = some (.int .i64 bi8) := (by rw [b9.cell (by first | omega | (simp; done) | (simp; omega))]; go_cell)
          have y9_9 : w9.cell? ⟨w7.heap.size, 9, none⟩ = some (.int .i64 bi9) := (by rw [b9.cell (by first | omega | (simp; done) | (simp; omega))]; go_cell)
          have y10_9 : w9.cell? ⟨w7.heap.size, 10, none⟩ = some (.int .i64 bi10) := (by rw [b9.cell (by first | omega | (simp; done) | (simp; omega))]; go_cell)
          have y11_9 : w9.cell? ⟨w7.heap.size, 11, none⟩ = some (.int .i64 bi11) := (by rw [b9.cell (by first | omega | (simp; done) | (simp; omega))]; go_cell)
          have y12_9 : w9.cell? ⟨w7.heap.size, 12, none⟩ = some (.slice qo0 B0.length qc0) := (by rw [b9.cell (by first | omega | (simp; done) | (simp; omega))]; go_cell)
          have y13_9 : w9.cell? ⟨w7.heap.size, 13, none⟩ = some (.slice qo1 B1.length qc1) := (by rw [b9.cell (by first | omega | (simp; done) | (simp; omega))]; go_cell)
          have y14_9 : w9.cell? ⟨w7.heap.size, 14, none⟩ = some (.int .i64 bi12) := (by rw [b9.cell (by first | omega | (simp; done) | (simp; omega))]; go_cell)
          have yl_9 : w7.heap.size < w9.heap.size := (by have := b9.size; first | omega | (revert this; simp; done) | (revert this; simp; omega))
          clear a0_8 a1_8 a2_8 a3_8 a4_8 a5_8 a6_8 a7_8 a8_8 a9_8 a10_8 a11_8 a12_8 a13_8 a14_8 al_8 b0_8 b1_8 b2_8 b3_8 b4_8 b5_8 b6_8 b7_8 b8_8 b9_8 b10_8 b11_8 b12_8 b13_8 b14_8 bl_8 x0_8 x1_8 x2_8 x3_8 x4_8 x5_8 x6_8 x7_8 x8_8 x9_8 x10_8 x11_8 x12_8 x13_8 x14_8 xl_8 y0_8 y1_8 y2_8 y3_8 y4_8 y5_8 y6_8 y7_8 y8_8 y9_8 y10_8 y11_8 y12_8 y13_8 y14_8 yl_8
          have OC9 := hid (OC8.out.later d9)
          have OD9 := hid (OD8.out.later d9)
          clear b9 d9
          go_upto_region 14 with fail
          go_cut [39] from 10 (fun s wx => s = .bool false ∧ Below w9.heap.size w9 wx)
          case first =>
            as_aux_lemma =>
              go_region_with (first
                | (go_at_call 7; refine (toMsg_rd ai0 ai1 ai2 ai3 ai4 ai5 ai6 ai7 ai8 ai9 ai10 ai11 ai12 (.slice ao0 A0.length ac0) (.slice ao1 A1.length ac1) A0 A1 _ (HA.out.later (c9.drew)) HLA.out).mono ?_; rintro e w10 ⟨⟨zo0, zo1, zc0, zc1, rfl, oa⟩, b10⟩; have OE10 := hid oa; clear oa; have d10 : Below w9.heap.size w9 w10 := (Below.trans (by go_grown) (b10.mono (by first | omega | (simp; done) | (simp; omega)))); have c10 : Below w.heap.size w w10 := c9.trans (d10.mono c9.size); have x0_10 : w10.cell? ⟨w5.heap.size, 0, none⟩ = some (.int .i64 ai0) := (by rw [b10.cell (by first | omega | (simp; done) | (simp; omega))]; go_cell); have x1_10 : w10.cell? ⟨w5.heap.size, 1, none⟩ = some (.int .i64 ai1) := (by rw [b10.cell (by first | omega | (simp; done) | (simp; omega))]; go_cell); have x2_10 : w10.cell? ⟨w5.heap.size, 2, none⟩ = some (.int .i64 ai2) := (by rw [b10.cell (by first | omega | (simp; done) | (simp; omega))]; go_cell); have x3_10 : w10.cell? ⟨w5.heap.size, 3, none⟩ = some (.int .i64 ai3) := (by rw [b10.cell (by first | omega | (simp; done) | (simp; omega))]; go_cell); have x4_10 : w10.cell? ⟨w5.heap.size, 4, none⟩ = some (.int .i64 ai4) := (by rw [b10.cell (by first | omega | (simp; done) | (simp; omega))]; go_cell); have x5_10 : w10.cell? ⟨w5.heap.size, 5, none⟩ = some (.int .i64 ai5) := (by rw [b10.cell (by first | omega | (simp; done) | (simp; omega))]; go_cell); have x6_10 : w10.cell? ⟨w5.heap.size, 6, none⟩ = some (.int .i64 ai6) := (by rw [b10.cell (by first | omega | (simp; done) | (simp; omega))]; go_cell); have x7_10 : w10.cell? ⟨w5.heap.size, 7, none⟩ = some (.int .i64 ai7) := (by rw [b10.cell (by first | omega | (simp; done) | (simp; omega))]; go_cell); have x8_10 : w10.cell? ⟨w5.heap.size, 8, none⟩ = some (.int .i64 ai8) := (by rw [b10.cell (by first | omega | (simp; done) | (simp; omega))]; go_cell); have x9_10 : w10.cell? ⟨w5.heap.size, 9, none⟩ = some (.int .i64 ai9) := (by rw [b10.cell (by first | omega | (simp; done) | (simp; omega))]; go_cell); have x10_10 : w10.cell? ⟨w5.heap.size, 10, none⟩ = some (.int .i64 ai10) := (by rw [b10.cell (by first | omega | (simp; done) | (simp; omega))]; go_cell); have x11_10 : w10.cell? ⟨w5.heap.size, 11, none⟩ = some (.int .i64 ai11) := (by rw [b10.cell (by first | omega | (simp; done) | (simp; omega))]; go_cell); have x12_10 : w10.cell? ⟨w5.heap.size, 12, none⟩ = some (.slice po0 A0.length pc0) := (by rw [b10.cell (by first | omega | (simp; done) | (simp; omega))]; go_cell); have x13_10 : w10.cell? ⟨w5.heap.size, 13, none⟩ = some (.slice po1 A1.length pc1) := (by rw [b10.cell (by first | omega | (simp; done) | (simp; omega))]; go_cell); have x14_10 : w10.cell? ⟨w5.heap.size, 14, none⟩ = some (.int .i64 ai12) := (by rw [b10.cell (by first | omega | (simp; done) | (simp; omega))]; go_cell); have xl_10 : w5.heap.size < w10.heap.size := (by have := b10.size; first | omega | (revert this; simp; done) | (revert this; simp; omega)); clear x0_9 x1_9 x2_9 x3_9 x4_9 x5_9 x6_9 x7_9 x8_9 x9_9 x10_9 x11_9 x12_9 x13_9 x14_9 xl_9)
                | (go_at_call 9; refine (eqMsg_rd ai0 ai1 ai2 ai3 ai4 ai5 ai6 ai7 ai8 ai9 ai10 ai11 ai12 _ _ _ _ A0 A1 _ (OC9.out.later d10) OE10.out).mono ?_; rintro e w11 ⟨rfl, b11⟩; have d11 : Below w10.heap.size w10 w11 := (Below.trans (by go_grown) (b11.mono (by first | omega | (simp; done) | (simp; omega)))); have c11 : Below w.heap.size w w11 := c10.trans (d11.mono c10.size)))
              all_goals
                go_wp2_with fail
                go_meet
                exact ⟨rfl, d10.trans (d11.mono d10.size)⟩
          case rest =>
            as_aux_lemma =>
              obtain ⟨rfl, b10⟩ := hcut
              obtain ⟨w10, hw10⟩ : ∃ x, x = wc := ⟨_, rfl⟩
              subst hw10
              have d10 : Below w9.heap.size w9 w10 := (Below.trans (by go_grown) (b10.mono (by first | omega | (simp; done) | (simp; omega))))
              have c10 : Below w.heap.size w w10 := c9.trans (d10.mono c9.size)
              have b0_10 : w10.cell? ⟨w.heap.size + 1, 0, none⟩ = some (.int .i64 bi0) := (by rw [b10.cell (by first | omega | (simp; done) | (simp; omega))]; go_cell)
              have b1_10 : w10.cell? ⟨w.heap.size + 1, 1, none⟩ = some (.int .i64 bi1) := (by rw [b10.cell (by first | omega | (simp; done) | (simp; omega))]; go_cell)
              have b2_10 : w10.cell? ⟨w.heap.size + 1, 2, none⟩ = some (.int .i64 bi2) := (by rw [b10.cell (by first | omega | (simp; done) | (simp; omega))]; go_cell)
              have b3_10 : w10.cell? ⟨w.heap.size + 1, 3, none⟩ = some (.int .i64 bi3) := (by rw [b10.cell (by first | omega | (simp; done) | (simp; omega))]; go_cell)
              have b4_10 : w10.cell? ⟨w.heap.size + 1, 4, none⟩ = some (.int .i64 bi4) := (by rw [b10.cell (by first | omega | (simp; done) | (simp; omega))]; go_cell)
              have b5_10 : w10.cell? ⟨w.heap.size + 1, 5, none⟩ = some (.int .i64 bi5) := (by rw [b10.cell (by first | omega | (simp; done) | (simp; omega))]; go_cell)
              have b6_10 : w10.cell? ⟨w.heap.size + 1, 6, none⟩ = some (.int .i64 bi6) := (by rw [b10.cell (by first | omega | (simp; done) | (simp; omega))]; go_cell)
              have b7_10 : w10.cell? ⟨w.heap.size + 1, 7, none⟩ = some (.int .i64 bi7) := (by rw [b10.cell (by first | omega | (simp; done) | (simp; omega))]; go_cell)
              have b8_10 : w10.cell? ⟨w.heap.size + 1, 8, none⟩ = some (.int .i64 bi8) := (by rw [b10.cell (by first | omega | (simp; done) | (simp; omega))]; go_cell)
              have b9_10 : w10.cell? ⟨w.heap.size + 1, 9, none⟩ = some (.int .i64 bi9) := (by rw [b10.cell (by first | omega | (simp; done) | (simp; omega))]; go_cell)
              have b10_10 : w10.cell? ⟨w.heap.size + 1, 10, none⟩ = some (.int .i64 bi10) := (by rw [b10.cell (by first | omega | (simp; done) | (simp; omega))]; go_cell)
              have b11_10 : w10.cell? ⟨w.heap.size + 1, 11, none⟩ = some (.int .i64 bi11) := (by rw [b10.cell (by first | omega | (simp; done) | (simp; omega))]; go_cell)
              have b12_10 : w10.cell? ⟨w.heap.size + 1, 12, none⟩ = some (.slice bo0 B0.length bc0) := (by rw [b10.cell (by first | omega | (simp; done) | (simp; omega))]; go_cell)
              have b13_10 : w10.cell? ⟨w.heap.size + 1, 13, none⟩ = some (.slice bo1 B1.length bc1) := (by rw [b10.cell (by first | omega | (simp; done) | (simp; omega))]; go_cell)
              have b14_10 : w10.cell? ⟨w.heap.size + 1, 14, none⟩ = some (.int .i64 bi12) := (by rw [b10.cell (by first | omega | (simp; done) | (simp; omega))]; go_cell)
              have bl_10 : w.heap.size + 1 < w10.heap.size := (by have := b10.size; first | omega | (revert this; simp; done) | (revert this; simp; omega))
              have y0_10 : w10.cell? ⟨w7.heap.size, 0, none⟩ = some (.int .i64 bi0) := (by rw [b10.cell (by first | omega | (simp; done) | (simp; omega))]; go_cell)
              have y1_10 : w10.cell? ⟨w7.heap.size, 1, none⟩ = some (.int .i64 bi1) := (by rw [b10.cell (by first | omega | (simp; done) | (simp; omega))]; go_cell)
              have y2_10 : w10.cell? ⟨w7.heap.size, 2, none⟩ = some (.int .i64 bi2) := (by rw [b10.cell (by first | omega | (simp; done) | (simp; omega))]; go_cell)
              have y3_10 : w10.cell? ⟨w7.heap.size, 3, none⟩ = some (.int .i64 bi3) := (by rw [b10.cell (by first | omega | (simp; done) | (simp; omega))]; go_cell)
              have y4_10 : w10.cell? ⟨w7.heap.size, 4, none⟩ = some (.int .i64 bi4) := (by rw [b10.cell (by first | omega | (simp; done) | (simp; omega))]; go_cell)
              have y5_10 : w10.cell? ⟨w7.heap.size, 5, none⟩ = some (.int .i64 bi5) := (by rw [b10.cell (by first | omega | (simp; done) | (simp; omega))]; go_cell)
              have y6_10 : w10.cell? ⟨w7.heap.size, 6, none⟩ = some (.int .i64 bi6) := (by rw [b10.cell (by first | omega | (simp; done) | (simp; omega))]; go_cell)
              have y7_10 : w10.cell? ⟨w7.heap.size, 7, none⟩ = some (.int .i64 bi7) := (by rw [b10.cell (by first | omega | (simp; done) | (simp; omega))]; go_cell)
              have y8_10 : w10.cell? ⟨w7.heap.size, 8, none⟩ = some (.int .i64 bi8) := (by rw [b10.cell (by first | omega | (simp; done) | (simp; omega))]; go_cell)
              have y9_10 : w10.cell? ⟨w7.heap.size, 9, none⟩ = some (.int .i64 bi9) := (by rw [b10.cell (by first | omega | (simp; done) | (simp; omega))]; go_cell)
              have y10_10 : w10.cell? ⟨w7.heap.size, 10, none⟩ = some (.int .i64 bi10) := (by rw [b10.cell (by first | omega | (simp; done) | (simp; omega))]; go_cell)
              have y11_10 : w10.cell? ⟨w7.heap.size, 11, none⟩ = some (.int .i64 bi11) := (by rw [b10.cell (by first | omega | (simp; done) | (simp; omega))]; go_cell)
              have y12_10 : w10.cell? ⟨w7.heap.size, 12, none⟩ = some (.slice qo0 B0.length qc0) := (by rw [b10.cell (by first | omega | (simp; done) | (simp; omega))]; go_cell)
              have y13_10 : w10.cell? ⟨w7.heap.size, 13, none⟩ = some (.slice qo1 B1.length qc1) := (by rw [b10.cell (by first | omega | (simp; done) | (simp; omega))]; go_cell)
              have y14_10 : w10.cell? ⟨w7.heap.size, 14, none⟩ = some (.int .i64 bi12) := (by rw [b10.cell (by first | omega | (simp; done) | (simp; omega))]; go_cell)
              have yl_10 : w7.heap.size < w10.heap.size := (by have := b10.size; first | omega | (revert this; simp; done) | (revert this; simp; omega))
              clear b0_9 b1_9 b2_9 b3_9 b4_9 b5_9 b6_9 b7_9 b8_9 b9_9 b10_9 b11_9 b12_9 b13_9 b14_9 bl_9 y0_9 y1_9 y2_9 y3_9 y4_9 y5_9 y6_9 y7_9 y8_9 y9_9 y10_9 y11_9 y12_9 y13_9 y14_9 yl_9
              have OD10 := hid (OD9.out.later d10)
              clear b10 d10
              go_upto_region 16 with fail
              go_cut [44] from 10 (fun s wx => s = .bool false ∧ Below w10.heap.size w10 wx)
              case first =>
                as_aux_lemma =>
                  go_region_with (first
                    | (go_at_call 7; refine (toMsg_rd bi0 bi1 bi2 bi3 bi4 bi5 bi6 bi7 bi8 bi9 bi10 bi11 bi12 (.slice bo0 B0.length bc0) (.slice bo1 B1.length bc1) B0 B1 _ (HB.out.later (c10.drew)) HLB.out).mono ?_; rintro e w11 ⟨⟨zo0, zo1, zc0, zc1, rfl, oa⟩, b11⟩; have OE11 := hid oa; clear oa; have d11 : Below w10.heap.size w10 w11 := (Below.trans (by go_grown) (b11.mono (by first | omega | (simp; done) | (simp; omega)))); have c11 : Below w.heap.size w w11 := c10.trans (d11.mono c10.size); have y0_11 : w11.cell? ⟨w7.heap.size, 0, none⟩ = some (.int .i64 bi0) := (by rw [b11.cell (by first | omega | (simp; done) | (simp; omega))]; go_cell); have y1_11 : w11.cell? ⟨w7.heap.size, 1, none⟩ = some (.int .i64 bi1) := (by rw [b11.cell (by first | omega | (simp; done) | (simp; omega))]; go_cell); have y2_11 : w11.cell? ⟨w7.heap.size, 2, none⟩ = some (.int .i64 bi2) := (by rw [b11.cell (by first | omega | (simp; done) | (simp; omega))]; go_cell); have y3_11 : w11.cell? ⟨w7.heap.size, 3, none⟩ = some (.int .i64 bi3) := (by rw [b11.cell (by first | omega | (simp; done) | (simp; omega))]; go_cell); have y4_11 : w11.cell? ⟨w7.heap.size, 4, none⟩ = some (.int .i64 bi4) := (by rw [b11.cell (by first | omega | (simp; done) | (simp; omega))]; go_cell); have y5_11 : w11.cell? ⟨w7.heap.size, 5, none⟩ = some (.int .i64 bi5) := (by rw [b11.cell (by first | omega | (simp; done) | (simp; omega))]; go_cell); have y6_11 : w11.cell? ⟨w7.heap.size, 6, none⟩ = some (.int .i64 bi6) := (by rw [b11.cell (by first | omega | (simp; done) | (simp; omega))]; go_cell); have y7_11 : w11.cell? ⟨w7.heap.size, 7, none⟩ = some (.int .i64 bi7) := (by rw [b11.cell (by first | omega | (simp; done) | (simp; omega))]; go_cell); have y8_11 : w11.cell? ⟨w7.heap.size, 8, none⟩ = some (.int .i64 bi8) := (by rw [b11.cell (by first | omega | (simp; done) | (simp; omega))]; go_cell); have y9_11 : w11.cell? ⟨w7.heap.size, 9, none⟩ = some (.int .i64 bi9) := (by rw [b11.cell (by first | omega | (simp; done) | (simp; omega))]; go_cell); have y10_11 : w11.cell? ⟨w7.heap.size, 10, none⟩ = some (.int .i64 bi10) := (by rw [b11.cell (by first | omega | (simp; done) | (simp; omega))]; go_cell); have y11_11 : w11.cell? ⟨w7.heap.size, 11, none⟩ = some (.int .i64 bi11) := (by rw [b11.cell (by first | omega | (simp; done) | (simp; omega))]; go_cell); have y12_11 : w11.cell? ⟨w7.heap.size, 12, none⟩ = some (.slice qo0 B0.length qc0) := (by rw [b11.cell (by first | omega | (simp; done) | (simp; omega))]; go_cell); have y13_11 : w11.cell? ⟨w7.heap.size, 13, none⟩ = some (.slice qo1 B1.length qc1) := (by rw [b11.cell (by first | omega | (simp; done) | (simp; omega))]; go_cell); have y14_11 : w11.cell? ⟨w7.heap.size, 14, none⟩ = some (.int .i64 bi12) := (by rw [b11.cell (by first | omega | (simp; done) | (simp; omega))]; go_cell); have yl_11 : w7.heap.size < w11.heap.size := (by have := b11.size; first | omega | (revert this; simp; done) | (revert this; simp; omega)); clear y0_10 y1_10 y2_10 y3_10 y4_10 y5_10 y6_10 y7_10 y8_10 y9_10 y10_10 y11_10 y12_10 y13_10 y14_10 yl_10)
                    | (go_at_call 9; refine (eqMsg_rd bi0 bi1 bi2 bi3 bi4 bi5 bi6 bi7 bi8 bi9 bi10 bi11 bi12 _ _ _ _ B0 B1 _ (OD10.out.later d11) OE11.out).mono ?_; rintro e w12 ⟨rfl, b12⟩; have d12 : Below w11.heap.size w11 w12 := (Below.trans (by go_grown) (b12.mono (by first | omega | (simp; done) | (simp; omega)))); have c12 : Below w.heap.size w w12 := c11.trans (d12.mono c11.size)))
                  all_goals
                    go_wp2_with fail
                    go_meet
                    exact ⟨rfl, d11.trans (d12.mono d11.size)⟩
              case rest =>
                as_aux_lemma =>
                  obtain ⟨rfl, b12⟩ := hcut
                  have c12 := c10.trans (b12.mono c10.size)
                  clear b12
                  go_wp2
                  go_ret
                  exact ⟨by simp, c12⟩
    · go_wp2
      go_ret
      exact ⟨by simp, c3⟩
  · go_wp2
    go_ret
    exact ⟨by simp, c2⟩
end Go.Proofs.Ytfdcnolcjgjfjaa
