/- The law's own to helpers of Done and of lists of such: contracts. Written by a program (gk.py). -/
import Derived.Test.YtefhpbcdjgllnaaGreatGrA
import Derived.Test.YtefhpbcdjgllnaaGreatKDone
import Derived.Deep.Cut
namespace Go.Proofs.YtefhpbcdjgllnaaGreat
open Go.RowKit
attribute [local go_sem ↓] Go.wp_at_zero Go.wp_at_succ

set_option maxRecDepth 100000 in
set_option maxHeartbeats 16000000 in
theorem toDone_any (p0 p1 p2 p3 p4 p5 : Int) (w : World) :
    Calls Tryz.prog 49 #[.agg #[.int .i64 p0, .int .i64 p1, .int .i64 p2, .int .i64 p3, .int .i64 p4, .int .i64 p5]] w fun e w' => e = .returned (.agg #[.int .i64 p0, .int .i64 p1, .int .i64 p2, .int .i64 p3, .int .i64 p4, .int .i64 p5]) ∧ Below w.heap.size w w' := by
  go_enter Tryz.func49, Tryz.ntmps49
  go_wp2_with fail
  refine (toReq_all p0 p1 p2 _).mono ?_
  rintro e w2 ⟨rfl, b2⟩
  have o0 : w2.cell? ⟨w.heap.size + 1 + 1, 0, none⟩ = some (.int .i64 0) := by rw [b2.cell (by simp)]; go_cell
  have fo0 : w2.frozen? ⟨w.heap.size + 1 + 1, 0, none⟩ = false := by rw [b2.frozen (by simp)]; (first | go_cell | (simp [World.frozen?, World.alloc]; done) | rfl)
  have r0 : w2.cell? ⟨w.heap.size + 1, 0, none⟩ = some (.int .i64 0) := by rw [b2.cell (by simp)]; go_cell
  have fr0 : w2.frozen? ⟨w.heap.size + 1, 0, none⟩ = false := by rw [b2.frozen (by simp)]; (first | go_cell | (simp [World.frozen?, World.alloc]; done) | rfl)
  have ar0 : w2.cell? ⟨w.heap.size, 0, none⟩ = some (.int .i64 p0) := by rw [b2.cell (by first | omega | (simp; done) | (simp; omega))]; go_cell
  have o1 : w2.cell? ⟨w.heap.size + 1 + 1, 1, none⟩ = some (.int .i64 0) := by rw [b2.cell (by simp)]; go_cell
  have fo1 : w2.frozen? ⟨w.heap.size + 1 + 1, 1, none⟩ = false := by rw [b2.frozen (by simp)]; (first | go_cell | (simp [World.frozen?, World.alloc]; done) | rfl)
  have r1 : w2.cell? ⟨w.heap.size + 1, 1, none⟩ = some (.int .i64 0) := by rw [b2.cell (by simp)]; go_cell
  have fr1 : w2.frozen? ⟨w.heap.size + 1, 1, none⟩ = false := by rw [b2.frozen (by simp)]; (first | go_cell | (simp [World.frozen?, World.alloc]; done) | rfl)
  have ar1 : w2.cell? ⟨w.heap.size, 1, none⟩ = some (.int .i64 p1) := by rw [b2.cell (by first | omega | (simp; done) | (simp; omega))]; go_cell
  have o2 : w2.cell? ⟨w.heap.size + 1 + 1, 2, none⟩ = some (.int .i64 0) := by rw [b2.cell (by simp)]; go_cell
  have fo2 : w2.frozen? ⟨w.heap.size + 1 + 1, 2, none⟩ = false := by rw [b2.frozen (by simp)]; (first | go_cell | (simp [World.frozen?, World.alloc]; done) | rfl)
  have r2 : w2.cell? ⟨w.heap.size + 1, 2, none⟩ = some (.int .i64 0) := by rw [b2.cell (by simp)]; go_cell
  have fr2 : w2.frozen? ⟨w.heap.size + 1, 2, none⟩ = false := by rw [b2.frozen (by simp)]; (first | go_cell | (simp [World.frozen?, World.alloc]; done) | rfl)
  have ar2 : w2.cell? ⟨w.heap.size, 2, none⟩ = some (.int .i64 p2) := by rw [b2.cell (by first | omega | (simp; done) | (simp; omega))]; go_cell
  have o3 : w2.cell? ⟨w.heap.size + 1 + 1, 3, none⟩ = some (.int .i64 0) := by rw [b2.cell (by simp)]; go_cell
  have fo3 : w2.frozen? ⟨w.heap.size + 1 + 1, 3, none⟩ = false := by rw [b2.frozen (by simp)]; (first | go_cell | (simp [World.frozen?, World.alloc]; done) | rfl)
  have r3 : w2.cell? ⟨w.heap.size + 1, 3, none⟩ = some (.int .i64 0) := by rw [b2.cell (by simp)]; go_cell
  have fr3 : w2.frozen? ⟨w.heap.size + 1, 3, none⟩ = false := by rw [b2.frozen (by simp)]; (first | go_cell | (simp [World.frozen?, World.alloc]; done) | rfl)
  have ar3 : w2.cell? ⟨w.heap.size, 3, none⟩ = some (.int .i64 p3) := by rw [b2.cell (by first | omega | (simp; done) | (simp; omega))]; go_cell
  have o4 : w2.cell? ⟨w.heap.size + 1 + 1, 4, none⟩ = some (.int .i64 0) := by rw [b2.cell (by simp)]; go_cell
  have fo4 : w2.frozen? ⟨w.heap.size + 1 + 1, 4, none⟩ = false := by rw [b2.frozen (by simp)]; (first | go_cell | (simp [World.frozen?, World.alloc]; done) | rfl)
  have r4 : w2.cell? ⟨w.heap.size + 1, 4, none⟩ = some (.int .i64 0) := by rw [b2.cell (by simp)]; go_cell
  have fr4 : w2.frozen? ⟨w.heap.size + 1, 4, none⟩ = false := by rw [b2.frozen (by simp)]; (first | go_cell | (simp [World.frozen?, World.alloc]; done) | rfl)
  have ar4 : w2.cell? ⟨w.heap.size, 4, none⟩ = some (.int .i64 p4) := by rw [b2.cell (by first | omega | (simp; done) | (simp; omega))]; go_cell
  have o5 : w2.cell? ⟨w.heap.size + 1 + 1, 5, none⟩ = some (.int .i64 0) := by rw [b2.cell (by simp)]; go_cell
  have fo5 : w2.frozen? ⟨w.heap.size + 1 + 1, 5, none⟩ = false := by rw [b2.frozen (by simp)]; (first | go_cell | (simp [World.frozen?, World.alloc]; done) | rfl)
  have r5 : w2.cell? ⟨w.heap.size + 1, 5, none⟩ = some (.int .i64 0) := by rw [b2.cell (by simp)]; go_cell
  have fr5 : w2.frozen? ⟨w.heap.size + 1, 5, none⟩ = false := by rw [b2.frozen (by simp)]; (first | go_cell | (simp [World.frozen?, World.alloc]; done) | rfl)
  have ar5 : w2.cell? ⟨w.heap.size, 5, none⟩ = some (.int .i64 p5) := by rw [b2.cell (by first | omega | (simp; done) | (simp; omega))]; go_cell
  have bb : Below w.heap.size w w2 := (Below.trans (by go_grown) (b2.mono (by first | omega | (simp; done) | (simp; omega))))
  have hz2 : w.heap.size + 3 ≤ w2.heap.size := by have := b2.size; simp at this; omega
  clear b2
  go_upto_region 6 with fail
  have x0 : ((((((w2.setCell ⟨w.heap.size + 1 + 1, 0, none⟩ (.int .i64 p0)).setCell ⟨w.heap.size + 1 + 1, 1, none⟩ (.int .i64 p1)).setCell ⟨w.heap.size + 1 + 1, 2, none⟩ (.int .i64 p2)).setCell ⟨w.heap.size + 1 + 1, 3, none⟩ (.int .i64 p3)).setCell ⟨w.heap.size + 1 + 1, 4, none⟩ (.int .i64 p4)).setCell ⟨w.heap.size + 1 + 1, 5, none⟩ (.int .i64 p5)).cell? ⟨w.heap.size + 1 + 1, 0, none⟩ = some (.int .i64 p0) := by go_cell
  have s0 : ((((((w2.setCell ⟨w.heap.size + 1 + 1, 0, none⟩ (.int .i64 p0)).setCell ⟨w.heap.size + 1 + 1, 1, none⟩ (.int .i64 p1)).setCell ⟨w.heap.size + 1 + 1, 2, none⟩ (.int .i64 p2)).setCell ⟨w.heap.size + 1 + 1, 3, none⟩ (.int .i64 p3)).setCell ⟨w.heap.size + 1 + 1, 4, none⟩ (.int .i64 p4)).setCell ⟨w.heap.size + 1 + 1, 5, none⟩ (.int .i64 p5)).cell? ⟨w.heap.size + 1, 0, none⟩ = some (.int .i64 0) := by go_cell
  have fs0 : ((((((w2.setCell ⟨w.heap.size + 1 + 1, 0, none⟩ (.int .i64 p0)).setCell ⟨w.heap.size + 1 + 1, 1, none⟩ (.int .i64 p1)).setCell ⟨w.heap.size + 1 + 1, 2, none⟩ (.int .i64 p2)).setCell ⟨w.heap.size + 1 + 1, 3, none⟩ (.int .i64 p3)).setCell ⟨w.heap.size + 1 + 1, 4, none⟩ (.int .i64 p4)).setCell ⟨w.heap.size + 1 + 1, 5, none⟩ (.int .i64 p5)).frozen? ⟨w.heap.size + 1, 0, none⟩ = false := by simpa using fr0
  have x1 : ((((((w2.setCell ⟨w.heap.size + 1 + 1, 0, none⟩ (.int .i64 p0)).setCell ⟨w.heap.size + 1 + 1, 1, none⟩ (.int .i64 p1)).setCell ⟨w.heap.size + 1 + 1, 2, none⟩ (.int .i64 p2)).setCell ⟨w.heap.size + 1 + 1, 3, none⟩ (.int .i64 p3)).setCell ⟨w.heap.size + 1 + 1, 4, none⟩ (.int .i64 p4)).setCell ⟨w.heap.size + 1 + 1, 5, none⟩ (.int .i64 p5)).cell? ⟨w.heap.size + 1 + 1, 1, none⟩ = some (.int .i64 p1) := by go_cell
  have s1 : ((((((w2.setCell ⟨w.heap.size + 1 + 1, 0, none⟩ (.int .i64 p0)).setCell ⟨w.heap.size + 1 + 1, 1, none⟩ (.int .i64 p1)).setCell ⟨w.heap.size + 1 + 1, 2, none⟩ (.int .i64 p2)).setCell ⟨w.heap.size + 1 + 1, 3, none⟩ (.int .i64 p3)).setCell ⟨w.heap.size + 1 + 1, 4, none⟩ (.int .i64 p4)).setCell ⟨w.heap.size + 1 + 1, 5, none⟩ (.int .i64 p5)).cell? ⟨w.heap.size + 1, 1, none⟩ = some (.int .i64 0) := by go_cell
  have fs1 : ((((((w2.setCell ⟨w.heap.size + 1 + 1, 0, none⟩ (.int .i64 p0)).setCell ⟨w.heap.size + 1 + 1, 1, none⟩ (.int .i64 p1)).setCell ⟨w.heap.size + 1 + 1, 2, none⟩ (.int .i64 p2)).setCell ⟨w.heap.size + 1 + 1, 3, none⟩ (.int .i64 p3)).setCell ⟨w.heap.size + 1 + 1, 4, none⟩ (.int .i64 p4)).setCell ⟨w.heap.size + 1 + 1, 5, none⟩ (.int .i64 p5)).frozen? ⟨w.heap.size + 1, 1, none⟩ = false := by simpa using fr1
  have x2 : ((((((w2.setCell ⟨w.heap.size + 1 + 1, 0, none⟩ (.int .i64 p0)).setCell ⟨w.heap.size + 1 + 1, 1, none⟩ (.int .i64 p1)).setCell ⟨w.heap.size + 1 + 1, 2, none⟩ (.int .i64 p2)).setCell ⟨w.heap.size + 1 + 1, 3, none⟩ (.int .i64 p3)).setCell ⟨w.heap.size + 1 + 1, 4, none⟩ (.int .i64 p4)).setCell ⟨w.heap.size + 1 + 1, 5, none⟩ (.int .i64 p5)).cell? ⟨w.heap.size + 1 + 1, 2, none⟩ = some (.int .i64 p2) := by go_cell
  have s2 : ((((((w2.setCell ⟨w.heap.size + 1 + 1, 0, none⟩ (.int .i64 p0)).setCell ⟨w.heap.size + 1 + 1, 1, none⟩ (.int .i64 p1)).setCell ⟨w.heap.size + 1 + 1, 2, none⟩ (.int .i64 p2)).setCell ⟨w.heap.size + 1 + 1, 3, none⟩ (.int .i64 p3)).setCell ⟨w.heap.size + 1 + 1, 4, none⟩ (.int .i64 p4)).setCell ⟨w.heap.size + 1 + 1, 5, none⟩ (.int .i64 p5)).cell? ⟨w.heap.size + 1, 2, none⟩ = some (.int .i64 0) := by go_cell
  have fs2 : ((((((w2.setCell ⟨w.heap.size + 1 + 1, 0, none⟩ (.int .i64 p0)).setCell ⟨w.heap.size + 1 + 1, 1, none⟩ (.int .i64 p1)).setCell ⟨w.heap.size + 1 + 1, 2, none⟩ (.int .i64 p2)).setCell ⟨w.heap.size + 1 + 1, 3, none⟩ (.int .i64 p3)).setCell ⟨w.heap.size + 1 + 1, 4, none⟩ (.int .i64 p4)).setCell ⟨w.heap.size + 1 + 1, 5, none⟩ (.int .i64 p5)).frozen? ⟨w.heap.size + 1, 2, none⟩ = false := by simpa using fr2
  have x3 : ((((((w2.setCell ⟨w.heap.size + 1 + 1, 0, none⟩ (.int .i64 p0)).setCell ⟨w.heap.size + 1 + 1, 1, none⟩ (.int .i64 p1)).setCell ⟨w.heap.size + 1 + 1, 2, none⟩ (.int .i64 p2)).setCell ⟨w.heap.size + 1 + 1, 3, none⟩ (.int .i64 p3)).setCell ⟨w.heap.size + 1 + 1, 4, none⟩ (.int .i64 p4)).setCell ⟨w.heap.size + 1 + 1, 5, none⟩ (.int .i64 p5)).cell? ⟨w.heap.size + 1 + 1, 3, none⟩ = some (.int .i64 p3) := by go_cell
  have s3 : ((((((w2.setCell ⟨w.heap.size + 1 + 1, 0, none⟩ (.int .i64 p0)).setCell ⟨w.heap.size + 1 + 1, 1, none⟩ (.int .i64 p1)).setCell ⟨w.heap.size + 1 + 1, 2, none⟩ (.int .i64 p2)).setCell ⟨w.heap.size + 1 + 1, 3, none⟩ (.int .i64 p3)).setCell ⟨w.heap.size + 1 + 1, 4, none⟩ (.int .i64 p4)).setCell ⟨w.heap.size + 1 + 1, 5, none⟩ (.int .i64 p5)).cell? ⟨w.heap.size + 1, 3, none⟩ = some (.int .i64 0) := by go_cell
  have fs3 : ((((((w2.setCell ⟨w.heap.size + 1 + 1, 0, none⟩ (.int .i64 p0)).setCell ⟨w.heap.size + 1 + 1, 1, none⟩ (.int .i64 p1)).setCell ⟨w.heap.size + 1 + 1, 2, none⟩ (.int .i64 p2)).setCell ⟨w.heap.size + 1 + 1, 3, none⟩ (.int .i64 p3)).setCell ⟨w.heap.size + 1 + 1, 4, none⟩ (.int .i64 p4)).setCell ⟨w.heap.size + 1 + 1, 5, none⟩ (.int .i64 p5)).frozen? ⟨w.heap.size + 1, 3, none⟩ = false := by simpa using fr3
  have x4 : ((((((w2.setCell ⟨w.heap.size + 1 + 1, 0, none⟩ (.int .i64 p0)).setCell ⟨w.heap.size + 1 + 1, 1, none⟩ (.int .i64 p1)).setCell ⟨w.heap.size + 1 + 1, 2, none⟩ (.int .i64 p2)).setCell ⟨w.heap.size + 1 + 1, 3, none⟩ (.int .i64 p3)).setCell ⟨w.heap.size + 1 + 1, 4, none⟩ (.int .i64 p4)).setCell ⟨w.heap.size + 1 + 1, 5, none⟩ (.int .i64 p5)).cell? ⟨w.heap.size + 1 + 1, 4, none⟩ = some (.int .i64 p4) := by go_cell
  have s4 : ((((((w2.setCell ⟨w.heap.size + 1 + 1, 0, none⟩ (.int .i64 p0)).setCell ⟨w.heap.size + 1 + 1, 1, none⟩ (.int .i64 p1)).setCell ⟨w.heap.size + 1 + 1, 2, none⟩ (.int .i64 p2)).setCell ⟨w.heap.size + 1 + 1, 3, none⟩ (.int .i64 p3)).setCell ⟨w.heap.size + 1 + 1, 4, none⟩ (.int .i64 p4)).setCell ⟨w.heap.size + 1 + 1, 5, none⟩ (.int .i64 p5)).cell? ⟨w.heap.size + 1, 4, none⟩ = some (.int .i64 0) := by go_cell
  have fs4 : ((((((w2.setCell ⟨w.heap.size + 1 + 1, 0, none⟩ (.int .i64 p0)).setCell ⟨w.heap.size + 1 + 1, 1, none⟩ (.int .i64 p1)).setCell ⟨w.heap.size + 1 + 1, 2, none⟩ (.int .i64 p2)).setCell ⟨w.heap.size + 1 + 1, 3, none⟩ (.int .i64 p3)).setCell ⟨w.heap.size + 1 + 1, 4, none⟩ (.int .i64 p4)).setCell ⟨w.heap.size + 1 + 1, 5, none⟩ (.int .i64 p5)).frozen? ⟨w.heap.size + 1, 4, none⟩ = false := by simpa using fr4
  have x5 : ((((((w2.setCell ⟨w.heap.size + 1 + 1, 0, none⟩ (.int .i64 p0)).setCell ⟨w.heap.size + 1 + 1, 1, none⟩ (.int .i64 p1)).setCell ⟨w.heap.size + 1 + 1, 2, none⟩ (.int .i64 p2)).setCell ⟨w.heap.size + 1 + 1, 3, none⟩ (.int .i64 p3)).setCell ⟨w.heap.size + 1 + 1, 4, none⟩ (.int .i64 p4)).setCell ⟨w.heap.size + 1 + 1, 5, none⟩ (.int .i64 p5)).cell? ⟨w.heap.size + 1 + 1, 5, none⟩ = some (.int .i64 p5) := by go_cell
  have s5 : ((((((w2.setCell ⟨w.heap.size + 1 + 1, 0, none⟩ (.int .i64 p0)).setCell ⟨w.heap.size + 1 + 1, 1, none⟩ (.int .i64 p1)).setCell ⟨w.heap.size + 1 + 1, 2, none⟩ (.int .i64 p2)).setCell ⟨w.heap.size + 1 + 1, 3, none⟩ (.int .i64 p3)).setCell ⟨w.heap.size + 1 + 1, 4, none⟩ (.int .i64 p4)).setCell ⟨w.heap.size + 1 + 1, 5, none⟩ (.int .i64 p5)).cell? ⟨w.heap.size + 1, 5, none⟩ = some (.int .i64 0) := by go_cell
  have fs5 : ((((((w2.setCell ⟨w.heap.size + 1 + 1, 0, none⟩ (.int .i64 p0)).setCell ⟨w.heap.size + 1 + 1, 1, none⟩ (.int .i64 p1)).setCell ⟨w.heap.size + 1 + 1, 2, none⟩ (.int .i64 p2)).setCell ⟨w.heap.size + 1 + 1, 3, none⟩ (.int .i64 p3)).setCell ⟨w.heap.size + 1 + 1, 4, none⟩ (.int .i64 p4)).setCell ⟨w.heap.size + 1 + 1, 5, none⟩ (.int .i64 p5)).frozen? ⟨w.heap.size + 1, 5, none⟩ = false := by simpa using fr5
  have bb3 := ((((((bb.setCell (p := ⟨w.heap.size + 1 + 1, 0, none⟩) (by show w.heap.size ≤ w.heap.size + 1 + 1; omega) (.int .i64 p0)).setCell (p := ⟨w.heap.size + 1 + 1, 1, none⟩) (by show w.heap.size ≤ w.heap.size + 1 + 1; omega) (.int .i64 p1)).setCell (p := ⟨w.heap.size + 1 + 1, 2, none⟩) (by show w.heap.size ≤ w.heap.size + 1 + 1; omega) (.int .i64 p2)).setCell (p := ⟨w.heap.size + 1 + 1, 3, none⟩) (by show w.heap.size ≤ w.heap.size + 1 + 1; omega) (.int .i64 p3)).setCell (p := ⟨w.heap.size + 1 + 1, 4, none⟩) (by show w.heap.size ≤ w.heap.size + 1 + 1; omega) (.int .i64 p4)).setCell (p := ⟨w.heap.size + 1 + 1, 5, none⟩) (by show w.heap.size ≤ w.heap.size + 1 + 1; omega) (.int .i64 p5))
  clear o0 fo0 r0 fr0 ar0 o1 fo1 r1 fr1 ar1 o2 fo2 r2 fr2 ar2 o3 fo3 r3 fr3 ar3 o4 fo4 r4 fr4 ar4 o5 fo5 r5 fr5 ar5
  generalize ((((((w2.setCell ⟨w.heap.size + 1 + 1, 0, none⟩ (.int .i64 p0)).setCell ⟨w.heap.size + 1 + 1, 1, none⟩ (.int .i64 p1)).setCell ⟨w.heap.size + 1 + 1, 2, none⟩ (.int .i64 p2)).setCell ⟨w.heap.size + 1 + 1, 3, none⟩ (.int .i64 p3)).setCell ⟨w.heap.size + 1 + 1, 4, none⟩ (.int .i64 p4)).setCell ⟨w.heap.size + 1 + 1, 5, none⟩ (.int .i64 p5)) = w3 at x0 s0 fs0 x1 s1 fs1 x2 s2 fs2 x3 s3 fs3 x4 s4 fs4 x5 s5 fs5 bb3 ⊢
  go_wp2
  have e0 : ((((((w3.setCell ⟨w.heap.size + 1, 0, none⟩ (.int .i64 p0)).setCell ⟨w.heap.size + 1, 1, none⟩ (.int .i64 p1)).setCell ⟨w.heap.size + 1, 2, none⟩ (.int .i64 p2)).setCell ⟨w.heap.size + 1, 3, none⟩ (.int .i64 p3)).setCell ⟨w.heap.size + 1, 4, none⟩ (.int .i64 p4)).setCell ⟨w.heap.size + 1, 5, none⟩ (.int .i64 p5)).cell? ⟨w.heap.size + 1, 0, none⟩ = some (.int .i64 p0) := by go_cell
  have e1 : ((((((w3.setCell ⟨w.heap.size + 1, 0, none⟩ (.int .i64 p0)).setCell ⟨w.heap.size + 1, 1, none⟩ (.int .i64 p1)).setCell ⟨w.heap.size + 1, 2, none⟩ (.int .i64 p2)).setCell ⟨w.heap.size + 1, 3, none⟩ (.int .i64 p3)).setCell ⟨w.heap.size + 1, 4, none⟩ (.int .i64 p4)).setCell ⟨w.heap.size + 1, 5, none⟩ (.int .i64 p5)).cell? ⟨w.heap.size + 1, 1, none⟩ = some (.int .i64 p1) := by go_cell
  have e2 : ((((((w3.setCell ⟨w.heap.size + 1, 0, none⟩ (.int .i64 p0)).setCell ⟨w.heap.size + 1, 1, none⟩ (.int .i64 p1)).setCell ⟨w.heap.size + 1, 2, none⟩ (.int .i64 p2)).setCell ⟨w.heap.size + 1, 3, none⟩ (.int .i64 p3)).setCell ⟨w.heap.size + 1, 4, none⟩ (.int .i64 p4)).setCell ⟨w.heap.size + 1, 5, none⟩ (.int .i64 p5)).cell? ⟨w.heap.size + 1, 2, none⟩ = some (.int .i64 p2) := by go_cell
  have e3 : ((((((w3.setCell ⟨w.heap.size + 1, 0, none⟩ (.int .i64 p0)).setCell ⟨w.heap.size + 1, 1, none⟩ (.int .i64 p1)).setCell ⟨w.heap.size + 1, 2, none⟩ (.int .i64 p2)).setCell ⟨w.heap.size + 1, 3, none⟩ (.int .i64 p3)).setCell ⟨w.heap.size + 1, 4, none⟩ (.int .i64 p4)).setCell ⟨w.heap.size + 1, 5, none⟩ (.int .i64 p5)).cell? ⟨w.heap.size + 1, 3, none⟩ = some (.int .i64 p3) := by go_cell
  have e4 : ((((((w3.setCell ⟨w.heap.size + 1, 0, none⟩ (.int .i64 p0)).setCell ⟨w.heap.size + 1, 1, none⟩ (.int .i64 p1)).setCell ⟨w.heap.size + 1, 2, none⟩ (.int .i64 p2)).setCell ⟨w.heap.size + 1, 3, none⟩ (.int .i64 p3)).setCell ⟨w.heap.size + 1, 4, none⟩ (.int .i64 p4)).setCell ⟨w.heap.size + 1, 5, none⟩ (.int .i64 p5)).cell? ⟨w.heap.size + 1, 4, none⟩ = some (.int .i64 p4) := by go_cell
  have e5 : ((((((w3.setCell ⟨w.heap.size + 1, 0, none⟩ (.int .i64 p0)).setCell ⟨w.heap.size + 1, 1, none⟩ (.int .i64 p1)).setCell ⟨w.heap.size + 1, 2, none⟩ (.int .i64 p2)).setCell ⟨w.heap.size + 1, 3, none⟩ (.int .i64 p3)).setCell ⟨w.heap.size + 1, 4, none⟩ (.int .i64 p4)).setCell ⟨w.heap.size + 1, 5, none⟩ (.int .i64 p5)).cell? ⟨w.heap.size + 1, 5, none⟩ = some (.int .i64 p5) := by go_cell
  refine bodyPost_ret (v := .agg #[.int .i64 p0, .int .i64 p1, .int .i64 p2, .int .i64 p3, .int .i64 p4, .int .i64 p5]) (by simp [results, Tryz.results49, go_sem, e0, e1, e2, e3, e4, e5]) rfl ⟨rfl, ?_⟩
  go_grown

theorem Tryz.infoDone_K : (Tryz.prog.info? 91).map (fun i => (i.zero, i.size, i.bytes)) = some (some (.agg #[.int .i64 0, .int .i64 0, .int .i64 0, .int .i64 0, .int .i64 0, .int .i64 0]), 6, 48) := by kernel_rfl
set_option maxRecDepth 100000 in
set_option maxHeartbeats 2000000 in
theorem toDoneS_own (v : Value) (L : List KD) (w : World) (h : RdM 6 6 false w v L) (hl : L.length ≤ 1048576) :
    Calls Tryz.prog 23 #[v] w fun e w' => ∃ v', e = .returned v' ∧ OwnM 91 6 6 false w' (Span w.heap.size w'.heap.size) v' L ∧ Below w.heap.size w w' := by
  obtain ⟨ao, cap, rfl, _, hc⟩ := h
  obtain ⟨i0, hi, hz0, hz1, hz2⟩ := info_parts Tryz.infoDone_K
  have hby : i0.bytes * L.length ≤ 281474976710656 := by rw [hz2]; omega
  have hml : L.length ≤ maxLen := by unfold maxLen; omega
  go_enter Tryz.func23, Tryz.ntmps23
  go_wp2_with (first | (at_make; refine wpList_make_full _ rfl (.tmp 6) (.tmp 6) 38 rfl w.heap.size 91 i0 _ 6 Tryz.underlying38 hi hz0 hz1 .i64 .i64 _ _ L.length rfl rfl rfl rfl hby hml (Nat.le_refl _) ?_; intro w1 hown hgrow))
  go_loopw [4] (fun i wr => ∃ (k : Nat) (xs : List Value) (us : Nat → Value), k ≤ L.length ∧ i = .int .i64 k ∧ Hid (FilM 6 6 false wr (Span (w.heap.size + 1) wr.heap.size) (some w.heap.size) xs us L k) ∧ Below w.heap.size w wr ∧
      wr.ownsRow w.heap.size 91 6 (.slice (some ⟨w.heap.size, 0, none⟩) L.length L.length) L.length xs) (fun i _ => L.length - (intOf i).toNat)
  case atStart => exact ⟨0, _, fun _ => .bool false, Nat.zero_le _, rfl, hid (FilM.zero _ _ _ _ _ _), (Below.refl _ _).grown hgrow (Nat.le_refl _) (by simp), hown⟩
  case round =>
    obtain ⟨k, xs, us, hk, rfl, hfil, hbel, hrow⟩ := hrel
    clear hown hgrow hby hi hz0 hz1 hz2
    by_cases hlt : k < L.length
    · obtain ⟨b, o, rfl, hb, hcc⟩ := hc (by omega)
      obtain ⟨p0, p1, p2, p3, p4, p5, hx, c0, c1, c2, c3, c4, c5⟩ := atK_6n ((hcc k hlt).later hb hbel)
      have hxl : xs.length = L.length * 6 := hrow.1
      have hgl := (hrow.lt w.heap.size rfl).2
      have HX := hid hx
      have HROW := hid hrow
      have hsz := hbel.size
      clear hcc hc hx
      go_wp2_with (first | (go_at_call 49; refine (toDone_any p0 p1 p2 p3 p4 p5 _).mono ?_; rintro e w2 ⟨rfl, hb2⟩; have hrow2 := row_later hrow hb2; have HR2 := hid hrow2; have HB2 := hid hb2; have hz2 := hb2.size; obtain ⟨q0, hq0⟩ := row_cell hrow2 (k * 6) (by omega); obtain ⟨q1, hq1⟩ := row_cell hrow2 (k * 6 + 1) (by omega); obtain ⟨q2, hq2⟩ := row_cell hrow2 (k * 6 + 2) (by omega); obtain ⟨q3, hq3⟩ := row_cell hrow2 (k * 6 + 3) (by omega); obtain ⟨q4, hq4⟩ := row_cell hrow2 (k * 6 + 4) (by omega); obtain ⟨q5, hq5⟩ := row_cell hrow2 (k * 6 + 5) (by omega); have f0 := hrow2.frozenAt (k * 6); have f1 := hrow2.frozenAt (k * 6 + 1); have f2 := hrow2.frozenAt (k * 6 + 2); have f3 := hrow2.frozenAt (k * 6 + 3); have f4 := hrow2.frozenAt (k * 6 + 4); have f5 := hrow2.frozenAt (k * 6 + 5); clear hrow2 hrow hb2))
      go_roundw
      case rel =>
        have hsl : ∀ p, p < k * 6 → ((((((xs.set (k * 6) (.int .i64 p0)).set (k * 6 + 1) (.int .i64 p1)).set (k * 6 + 2) (.int .i64 p2)).set (k * 6 + 3) (.int .i64 p3)).set (k * 6 + 4) (.int .i64 p4)).set (k * 6 + 5) (.int .i64 p5))[p]? = xs[p]? := fun p hp => by rw [List.getElem?_set_ne (by omega), List.getElem?_set_ne (by omega), List.getElem?_set_ne (by omega), List.getElem?_set_ne (by omega), List.getElem?_set_ne (by omega), List.getElem?_set_ne (by omega)]
        have hs0 : ((((((xs.set (k * 6) (.int .i64 p0)).set (k * 6 + 1) (.int .i64 p1)).set (k * 6 + 2) (.int .i64 p2)).set (k * 6 + 3) (.int .i64 p3)).set (k * 6 + 4) (.int .i64 p4)).set (k * 6 + 5) (.int .i64 p5))[k * 6]? = some (.int .i64 p0) := by rw [List.getElem?_set_ne (by omega), List.getElem?_set_ne (by omega), List.getElem?_set_ne (by omega), List.getElem?_set_ne (by omega), List.getElem?_set_ne (by omega), List.getElem?_set_self (by first | omega | (simp only [List.length_set]; omega))]
        have hs1 : ((((((xs.set (k * 6) (.int .i64 p0)).set (k * 6 + 1) (.int .i64 p1)).set (k * 6 + 2) (.int .i64 p2)).set (k * 6 + 3) (.int .i64 p3)).set (k * 6 + 4) (.int .i64 p4)).set (k * 6 + 5) (.int .i64 p5))[k * 6 + 1]? = some (.int .i64 p1) := by rw [List.getElem?_set_ne (by omega), List.getElem?_set_ne (by omega), List.getElem?_set_ne (by omega), List.getElem?_set_ne (by omega), List.getElem?_set_self (by first | omega | (simp only [List.length_set]; omega))]
        have hs2 : ((((((xs.set (k * 6) (.int .i64 p0)).set (k * 6 + 1) (.int .i64 p1)).set (k * 6 + 2) (.int .i64 p2)).set (k * 6 + 3) (.int .i64 p3)).set (k * 6 + 4) (.int .i64 p4)).set (k * 6 + 5) (.int .i64 p5))[k * 6 + 2]? = some (.int .i64 p2) := by rw [List.getElem?_set_ne (by omega), List.getElem?_set_ne (by omega), List.getElem?_set_ne (by omega), List.getElem?_set_self (by first | omega | (simp only [List.length_set]; omega))]
        have hs3 : ((((((xs.set (k * 6) (.int .i64 p0)).set (k * 6 + 1) (.int .i64 p1)).set (k * 6 + 2) (.int .i64 p2)).set (k * 6 + 3) (.int .i64 p3)).set (k * 6 + 4) (.int .i64 p4)).set (k * 6 + 5) (.int .i64 p5))[k * 6 + 3]? = some (.int .i64 p3) := by rw [List.getElem?_set_ne (by omega), List.getElem?_set_ne (by omega), List.getElem?_set_self (by first | omega | (simp only [List.length_set]; omega))]
        have hs4 : ((((((xs.set (k * 6) (.int .i64 p0)).set (k * 6 + 1) (.int .i64 p1)).set (k * 6 + 2) (.int .i64 p2)).set (k * 6 + 3) (.int .i64 p3)).set (k * 6 + 4) (.int .i64 p4)).set (k * 6 + 5) (.int .i64 p5))[k * 6 + 4]? = some (.int .i64 p4) := by rw [List.getElem?_set_ne (by omega), List.getElem?_set_self (by first | omega | (simp only [List.length_set]; omega))]
        have hs5 : ((((((xs.set (k * 6) (.int .i64 p0)).set (k * 6 + 1) (.int .i64 p1)).set (k * 6 + 2) (.int .i64 p2)).set (k * 6 + 3) (.int .i64 p3)).set (k * 6 + 4) (.int .i64 p4)).set (k * 6 + 5) (.int .i64 p5))[k * 6 + 5]? = some (.int .i64 p5) := by rw [List.getElem?_set_self (by first | omega | (simp only [List.length_set]; omega))]
        refine ⟨k + 1, _, _, by omega, by go_num, hid (FilM.step hfil.out (.bool false) (fun b _ hne hl => (heap_set_ne (j := k * 6 + 5) (x := (.int .i64 p5)) (fun q => hne (by rw [q])) (heap_set_ne (j := k * 6 + 4) (x := (.int .i64 p4)) (fun q => hne (by rw [q])) (heap_set_ne (j := k * 6 + 3) (x := (.int .i64 p3)) (fun q => hne (by rw [q])) (heap_set_ne (j := k * 6 + 2) (x := (.int .i64 p2)) (fun q => hne (by rw [q])) (heap_set_ne (j := k * 6 + 1) (x := (.int .i64 p1)) (fun q => hne (by rw [q])) (heap_set_ne (j := k * 6) (x := (.int .i64 p0)) (fun q => hne (by rw [q])) (HB2.out.block b hl)))))))) (fun b hb hl => ⟨hb.1, by have := hb.2; simp only [World.setCell, Array.size_modify]; omega⟩) (by decide) (by decide) hsl (by rw [HX.out]; rfl) (by rw [HX.out]; intro j hj; match j, hj with | 0, _ => exact hs0 | 1, _ => exact hs1 | 2, _ => exact hs2 | 3, _ => exact hs3 | 4, _ => exact hs4 | 5, _ => exact hs5) (fun q => by cases q) (fun _ => by rw [HX.out])), (((((((hbel.trans (HB2.out.mono hsz)).setCell (p := ⟨w.heap.size, k * 6, none⟩) (Nat.le_refl _) (.int .i64 p0)).setCell (p := ⟨w.heap.size, k * 6 + 1, none⟩) (Nat.le_refl _) (.int .i64 p1)).setCell (p := ⟨w.heap.size, k * 6 + 2, none⟩) (Nat.le_refl _) (.int .i64 p2)).setCell (p := ⟨w.heap.size, k * 6 + 3, none⟩) (Nat.le_refl _) (.int .i64 p3)).setCell (p := ⟨w.heap.size, k * 6 + 4, none⟩) (Nat.le_refl _) (.int .i64 p4)).setCell (p := ⟨w.heap.size, k * 6 + 5, none⟩) (Nat.le_refl _) (.int .i64 p5)), (row_put1 (row_put1 (row_put1 (row_put1 (row_put1 (row_put1 HR2.out (k * 6) (.int .i64 p0)) (k * 6 + 1) (.int .i64 p1)) (k * 6 + 2) (.int .i64 p2)) (k * 6 + 3) (.int .i64 p3)) (k * 6 + 4) (.int .i64 p4)) (k * 6 + 5) (.int .i64 p5))⟩
      case measure => simp [intOf]; omega
    · have hkl : k = L.length := by omega
      go_wp2
      go_ret
      subst hkl
      exact ⟨_, rfl, ⟨xs, us, row_mono0 hrow, fun g hg => by cases hg; exact ⟨Nat.le_refl _, (hrow.lt _ rfl).2⟩, hfil.out.agree (fun _ _ _ _ => rfl) (fun b hb _ => ⟨Nat.le_of_succ_le hb.1, hb.2⟩)⟩, hbel⟩
end Go.Proofs.YtefhpbcdjgllnaaGreat
