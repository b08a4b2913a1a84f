/- spec.OpDo: contract. -/
import Derived.Test.YtkmhnjgncnoddaaGreatOc
namespace Go.Proofs.YtkmhnjgncnoddaaGreat
open Go.RowKit
attribute [local go_sem ↓] Go.wp_at_zero Go.wp_at_succ

set_option maxRecDepth 100000 in
set_option maxHeartbeats 1000000 in
theorem specDo_no (k a b n m : Int) (v : Value) (l : List (Int × Int)) (w : World) (h : Rd w v l) (_ : l.length ≤ 1099511627776) (HOK : opOk k a b n = false) :
    Calls Tryz.prog 40 #[.agg #[.int .i64 m, v], .agg #[.int .i64 k, .int .i64 a, .int .i64 b, .int .i64 n]] w fun e w' => ValA w.heap.size w' e (0) ([]) ∧ Below w.heap.size w w' := by
  have HS := fun w => specOpOk_any k a b n w
  rw [HOK] at HS
  clear HOK
  obtain ⟨ao, cap, hv, _⟩ := h
  subst hv
  go_enter Tryz.func40, Tryz.ntmps40
  go_wp2_with fail
  have x0_1 : (((w.alloc (.cells #[.int .i64 m, .slice ao l.length cap] 38)).alloc (.cells #[.int .i64 k, .int .i64 a, .int .i64 b, .int .i64 n] 27)).alloc (.cells #[.int .i64 0, .slice none 0 0] 38)).cell? ⟨w.heap.size, 0, none⟩ = some (.int .i64 m) := by go_cell
  have x1_1 : (((w.alloc (.cells #[.int .i64 m, .slice ao l.length cap] 38)).alloc (.cells #[.int .i64 k, .int .i64 a, .int .i64 b, .int .i64 n] 27)).alloc (.cells #[.int .i64 0, .slice none 0 0] 38)).cell? ⟨w.heap.size, 1, none⟩ = some (.slice ao l.length cap) := by go_cell
  have xl_1 : w.heap.size < (((w.alloc (.cells #[.int .i64 m, .slice ao l.length cap] 38)).alloc (.cells #[.int .i64 k, .int .i64 a, .int .i64 b, .int .i64 n] 27)).alloc (.cells #[.int .i64 0, .slice none 0 0] 38)).heap.size := by first | (simp; done) | (simp; omega)
  have o0_1 : (((w.alloc (.cells #[.int .i64 m, .slice ao l.length cap] 38)).alloc (.cells #[.int .i64 k, .int .i64 a, .int .i64 b, .int .i64 n] 27)).alloc (.cells #[.int .i64 0, .slice none 0 0] 38)).cell? ⟨w.heap.size + 1, 0, none⟩ = some (.int .i64 k) := by go_cell
  have o1_1 : (((w.alloc (.cells #[.int .i64 m, .slice ao l.length cap] 38)).alloc (.cells #[.int .i64 k, .int .i64 a, .int .i64 b, .int .i64 n] 27)).alloc (.cells #[.int .i64 0, .slice none 0 0] 38)).cell? ⟨w.heap.size + 1, 1, none⟩ = some (.int .i64 a) := by go_cell
  have o2_1 : (((w.alloc (.cells #[.int .i64 m, .slice ao l.length cap] 38)).alloc (.cells #[.int .i64 k, .int .i64 a, .int .i64 b, .int .i64 n] 27)).alloc (.cells #[.int .i64 0, .slice none 0 0] 38)).cell? ⟨w.heap.size + 1, 2, none⟩ = some (.int .i64 b) := by go_cell
  have o3_1 : (((w.alloc (.cells #[.int .i64 m, .slice ao l.length cap] 38)).alloc (.cells #[.int .i64 k, .int .i64 a, .int .i64 b, .int .i64 n] 27)).alloc (.cells #[.int .i64 0, .slice none 0 0] 38)).cell? ⟨w.heap.size + 1, 3, none⟩ = some (.int .i64 n) := by go_cell
  have ol_1 : w.heap.size + 1 < (((w.alloc (.cells #[.int .i64 m, .slice ao l.length cap] 38)).alloc (.cells #[.int .i64 k, .int .i64 a, .int .i64 b, .int .i64 n] 27)).alloc (.cells #[.int .i64 0, .slice none 0 0] 38)).heap.size := by first | (simp; done) | (simp; omega)
  have r0_1 : (((w.alloc (.cells #[.int .i64 m, .slice ao l.length cap] 38)).alloc (.cells #[.int .i64 k, .int .i64 a, .int .i64 b, .int .i64 n] 27)).alloc (.cells #[.int .i64 0, .slice none 0 0] 38)).cell? ⟨w.heap.size + 1 + 1, 0, none⟩ = some (.int .i64 0) := by go_cell
  have rf0_1 : (((w.alloc (.cells #[.int .i64 m, .slice ao l.length cap] 38)).alloc (.cells #[.int .i64 k, .int .i64 a, .int .i64 b, .int .i64 n] 27)).alloc (.cells #[.int .i64 0, .slice none 0 0] 38)).frozen? ⟨w.heap.size + 1 + 1, 0, none⟩ = false := by (first | go_cell | (simp [World.frozen?, World.alloc]; done) | rfl)
  have r1_1 : (((w.alloc (.cells #[.int .i64 m, .slice ao l.length cap] 38)).alloc (.cells #[.int .i64 k, .int .i64 a, .int .i64 b, .int .i64 n] 27)).alloc (.cells #[.int .i64 0, .slice none 0 0] 38)).cell? ⟨w.heap.size + 1 + 1, 1, none⟩ = some (.slice none 0 0) := by go_cell
  have rf1_1 : (((w.alloc (.cells #[.int .i64 m, .slice ao l.length cap] 38)).alloc (.cells #[.int .i64 k, .int .i64 a, .int .i64 b, .int .i64 n] 27)).alloc (.cells #[.int .i64 0, .slice none 0 0] 38)).frozen? ⟨w.heap.size + 1 + 1, 1, none⟩ = false := by (first | go_cell | (simp [World.frozen?, World.alloc]; done) | rfl)
  have rl_1 : w.heap.size + 1 + 1 < (((w.alloc (.cells #[.int .i64 m, .slice ao l.length cap] 38)).alloc (.cells #[.int .i64 k, .int .i64 a, .int .i64 b, .int .i64 n] 27)).alloc (.cells #[.int .i64 0, .slice none 0 0] 38)).heap.size := by first | (simp; done) | (simp; omega)
  have c1 : Below w.heap.size w (((w.alloc (.cells #[.int .i64 m, .slice ao l.length cap] 38)).alloc (.cells #[.int .i64 k, .int .i64 a, .int .i64 b, .int .i64 n] 27)).alloc (.cells #[.int .i64 0, .slice none 0 0] 38)) := by go_grown
  have s1 : (((w.alloc (.cells #[.int .i64 m, .slice ao l.length cap] 38)).alloc (.cells #[.int .i64 k, .int .i64 a, .int .i64 b, .int .i64 n] 27)).alloc (.cells #[.int .i64 0, .slice none 0 0] 38)).heap.size = w.heap.size + 3 := by simp
  generalize (((w.alloc (.cells #[.int .i64 m, .slice ao l.length cap] 38)).alloc (.cells #[.int .i64 k, .int .i64 a, .int .i64 b, .int .i64 n] 27)).alloc (.cells #[.int .i64 0, .slice none 0 0] 38)) = w1 at x0_1 x1_1 xl_1 o0_1 o1_1 o2_1 o3_1 ol_1 r0_1 rf0_1 r1_1 rf1_1 rl_1 c1 s1 ⊢
  have qx0_1 := cell_regrown x0_1
  have qx1_1 := cell_regrown x1_1
  have qo0_1 := cell_regrown o0_1
  have qo1_1 := cell_regrown o1_1
  have qo2_1 := cell_regrown o2_1
  have qo3_1 := cell_regrown o3_1
  have qr0_1 := cell_regrown r0_1
  have qr1_1 := cell_regrown r1_1
  refine (HS _).mono ?_
  rintro e w2 ⟨rfl, b2⟩
  have d2 : Below w1.heap.size w1 w2 := (Below.trans (by go_grown) (b2.mono (by first | omega | (simp; done) | (simp; omega))))
  have c2 : Below w.heap.size w w2 := c1.trans (d2.mono c1.size)
  have x0_2 : w2.cell? ⟨w.heap.size, 0, none⟩ = some (.int .i64 m) := (by rw [b2.cell (by first | omega | (simp; done) | (simp; omega))]; go_cell)
  have x1_2 : w2.cell? ⟨w.heap.size, 1, none⟩ = some (.slice ao l.length cap) := (by rw [b2.cell (by first | omega | (simp; done) | (simp; omega))]; go_cell)
  have xl_2 : w.heap.size < w2.heap.size := (by have := b2.size; first | omega | (revert this; simp; done) | (revert this; simp; omega))
  have o0_2 : w2.cell? ⟨w.heap.size + 1, 0, none⟩ = some (.int .i64 k) := (by rw [b2.cell (by first | omega | (simp; done) | (simp; omega))]; go_cell)
  have o1_2 : w2.cell? ⟨w.heap.size + 1, 1, none⟩ = some (.int .i64 a) := (by rw [b2.cell (by first | omega | (simp; done) | (simp; omega))]; go_cell)
  have o2_2 : w2.cell? ⟨w.heap.size + 1, 2, none⟩ = some (.int .i64 b) := (by rw [b2.cell (by first | omega | (simp; done) | (simp; omega))]; go_cell)
  have o3_2 : w2.cell? ⟨w.heap.size + 1, 3, none⟩ = some (.int .i64 n) := (by rw [b2.cell (by first | omega | (simp; done) | (simp; omega))]; go_cell)
  have ol_2 : w.heap.size + 1 < w2.heap.size := (by have := b2.size; first | omega | (revert this; simp; done) | (revert this; simp; omega))
  have r0_2 : w2.cell? ⟨w.heap.size + 1 + 1, 0, none⟩ = some (.int .i64 0) := (by rw [b2.cell (by first | omega | (simp; done) | (simp; omega))]; go_cell)
  have rf0_2 : w2.frozen? ⟨w.heap.size + 1 + 1, 0, none⟩ = false := (by rw [b2.frozen (by first | omega | (simp; done) | (simp; omega))]; (first | go_cell | (simp [World.frozen?, World.alloc]; done) | rfl))
  have r1_2 : w2.cell? ⟨w.heap.size + 1 + 1, 1, none⟩ = some (.slice none 0 0) := (by rw [b2.cell (by first | omega | (simp; done) | (simp; omega))]; go_cell)
  have rf1_2 : w2.frozen? ⟨w.heap.size + 1 + 1, 1, none⟩ = false := (by rw [b2.frozen (by first | omega | (simp; done) | (simp; omega))]; (first | go_cell | (simp [World.frozen?, World.alloc]; done) | rfl))
  have rl_2 : w.heap.size + 1 + 1 < w2.heap.size := (by have := b2.size; first | omega | (revert this; simp; done) | (revert this; simp; omega))
  clear x0_1 x1_1 xl_1 o0_1 o1_1 o2_1 o3_1 ol_1 r0_1 rf0_1 r1_1 rf1_1 rl_1
  clear b2 d2
  go_wp2_with fail
  have e0 : ((w2.setCell ⟨w.heap.size + 1 + 1, 0, none⟩ (.int .i64 (0))).setCell ⟨w.heap.size + 1 + 1, 1, none⟩ (.slice none 0 0)).cell? ⟨w.heap.size + 1 + 1, 0, none⟩ = some (.int .i64 (0)) := by go_cell
  have e1 : ((w2.setCell ⟨w.heap.size + 1 + 1, 0, none⟩ (.int .i64 (0))).setCell ⟨w.heap.size + 1 + 1, 1, none⟩ (.slice none 0 0)).cell? ⟨w.heap.size + 1 + 1, 1, none⟩ = some (.slice none 0 0) := by go_cell
  refine bodyPost_ret (v := .agg #[.int .i64 (0), .slice none 0 0]) (by simp [results, Tryz.results40, go_sem, e0, e1]) rfl ⟨valA_nil _ _ _, (c2.setCell (p := ⟨w.heap.size + 1 + 1, 0, none⟩) (by show w.heap.size ≤ w.heap.size + 1 + 1; omega) _).setCell (p := ⟨w.heap.size + 1 + 1, 1, none⟩) (by show w.heap.size ≤ w.heap.size + 1 + 1; omega) _⟩

set_option maxRecDepth 100000 in
set_option maxHeartbeats 1000000 in
theorem specDo_set (k a b n m : Int) (v : Value) (l : List (Int × Int)) (w : World) (h : Rd w v l) (_ : l.length ≤ 1099511627776) (hs : setOk k a b n) (HOK : opOk k a b n = true) :
    Calls Tryz.prog 40 #[.agg #[.int .i64 m, v], .agg #[.int .i64 k, .int .i64 a, .int .i64 b, .int .i64 n]] w fun e w' => ValA w.heap.size w' e (n) ([]) ∧ Below w.heap.size w w' := by
  have HS := fun w => specOpOk_any k a b n w
  rw [HOK] at HS
  clear HOK
  obtain ⟨ao, cap, hv, _⟩ := h
  subst hv
  obtain ⟨rfl, -⟩ := hs
  go_enter Tryz.func40, Tryz.ntmps40
  go_wp2_with fail
  have x0_1 : (((w.alloc (.cells #[.int .i64 m, .slice ao l.length cap] 38)).alloc (.cells #[.int .i64 1, .int .i64 a, .int .i64 b, .int .i64 n] 27)).alloc (.cells #[.int .i64 0, .slice none 0 0] 38)).cell? ⟨w.heap.size, 0, none⟩ = some (.int .i64 m) := by go_cell
  have x1_1 : (((w.alloc (.cells #[.int .i64 m, .slice ao l.length cap] 38)).alloc (.cells #[.int .i64 1, .int .i64 a, .int .i64 b, .int .i64 n] 27)).alloc (.cells #[.int .i64 0, .slice none 0 0] 38)).cell? ⟨w.heap.size, 1, none⟩ = some (.slice ao l.length cap) := by go_cell
  have xl_1 : w.heap.size < (((w.alloc (.cells #[.int .i64 m, .slice ao l.length cap] 38)).alloc (.cells #[.int .i64 1, .int .i64 a, .int .i64 b, .int .i64 n] 27)).alloc (.cells #[.int .i64 0, .slice none 0 0] 38)).heap.size := by first | (simp; done) | (simp; omega)
  have o0_1 : (((w.alloc (.cells #[.int .i64 m, .slice ao l.length cap] 38)).alloc (.cells #[.int .i64 1, .int .i64 a, .int .i64 b, .int .i64 n] 27)).alloc (.cells #[.int .i64 0, .slice none 0 0] 38)).cell? ⟨w.heap.size + 1, 0, none⟩ = some (.int .i64 1) := by go_cell
  have o1_1 : (((w.alloc (.cells #[.int .i64 m, .slice ao l.length cap] 38)).alloc (.cells #[.int .i64 1, .int .i64 a, .int .i64 b, .int .i64 n] 27)).alloc (.cells #[.int .i64 0, .slice none 0 0] 38)).cell? ⟨w.heap.size + 1, 1, none⟩ = some (.int .i64 a) := by go_cell
  have o2_1 : (((w.alloc (.cells #[.int .i64 m, .slice ao l.length cap] 38)).alloc (.cells #[.int .i64 1, .int .i64 a, .int .i64 b, .int .i64 n] 27)).alloc (.cells #[.int .i64 0, .slice none 0 0] 38)).cell? ⟨w.heap.size + 1, 2, none⟩ = some (.int .i64 b) := by go_cell
  have o3_1 : (((w.alloc (.cells #[.int .i64 m, .slice ao l.length cap] 38)).alloc (.cells #[.int .i64 1, .int .i64 a, .int .i64 b, .int .i64 n] 27)).alloc (.cells #[.int .i64 0, .slice none 0 0] 38)).cell? ⟨w.heap.size + 1, 3, none⟩ = some (.int .i64 n) := by go_cell
  have ol_1 : w.heap.size + 1 < (((w.alloc (.cells #[.int .i64 m, .slice ao l.length cap] 38)).alloc (.cells #[.int .i64 1, .int .i64 a, .int .i64 b, .int .i64 n] 27)).alloc (.cells #[.int .i64 0, .slice none 0 0] 38)).heap.size := by first | (simp; done) | (simp; omega)
  have r0_1 : (((w.alloc (.cells #[.int .i64 m, .slice ao l.length cap] 38)).alloc (.cells #[.int .i64 1, .int .i64 a, .int .i64 b, .int .i64 n] 27)).alloc (.cells #[.int .i64 0, .slice none 0 0] 38)).cell? ⟨w.heap.size + 1 + 1, 0, none⟩ = some (.int .i64 0) := by go_cell
  have rf0_1 : (((w.alloc (.cells #[.int .i64 m, .slice ao l.length cap] 38)).alloc (.cells #[.int .i64 1, .int .i64 a, .int .i64 b, .int .i64 n] 27)).alloc (.cells #[.int .i64 0, .slice none 0 0] 38)).frozen? ⟨w.heap.size + 1 + 1, 0, none⟩ = false := by (first | go_cell | (simp [World.frozen?, World.alloc]; done) | rfl)
  have r1_1 : (((w.alloc (.cells #[.int .i64 m, .slice ao l.length cap] 38)).alloc (.cells #[.int .i64 1, .int .i64 a, .int .i64 b, .int .i64 n] 27)).alloc (.cells #[.int .i64 0, .slice none 0 0] 38)).cell? ⟨w.heap.size + 1 + 1, 1, none⟩ = some (.slice none 0 0) := by go_cell
  have rf1_1 : (((w.alloc (.cells #[.int .i64 m, .slice ao l.length cap] 38)).alloc (.cells #[.int .i64 1, .int .i64 a, .int .i64 b, .int .i64 n] 27)).alloc (.cells #[.int .i64 0, .slice none 0 0] 38)).frozen? ⟨w.heap.size + 1 + 1, 1, none⟩ = false := by (first | go_cell | (simp [World.frozen?, World.alloc]; done) | rfl)
  have rl_1 : w.heap.size + 1 + 1 < (((w.alloc (.cells #[.int .i64 m, .slice ao l.length cap] 38)).alloc (.cells #[.int .i64 1, .int .i64 a, .int .i64 b, .int .i64 n] 27)).alloc (.cells #[.int .i64 0, .slice none 0 0] 38)).heap.size := by first | (simp; done) | (simp; omega)
  have c1 : Below w.heap.size w (((w.alloc (.cells #[.int .i64 m, .slice ao l.length cap] 38)).alloc (.cells #[.int .i64 1, .int .i64 a, .int .i64 b, .int .i64 n] 27)).alloc (.cells #[.int .i64 0, .slice none 0 0] 38)) := by go_grown
  have s1 : (((w.alloc (.cells #[.int .i64 m, .slice ao l.length cap] 38)).alloc (.cells #[.int .i64 1, .int .i64 a, .int .i64 b, .int .i64 n] 27)).alloc (.cells #[.int .i64 0, .slice none 0 0] 38)).heap.size = w.heap.size + 3 := by simp
  generalize (((w.alloc (.cells #[.int .i64 m, .slice ao l.length cap] 38)).alloc (.cells #[.int .i64 1, .int .i64 a, .int .i64 b, .int .i64 n] 27)).alloc (.cells #[.int .i64 0, .slice none 0 0] 38)) = w1 at x0_1 x1_1 xl_1 o0_1 o1_1 o2_1 o3_1 ol_1 r0_1 rf0_1 r1_1 rf1_1 rl_1 c1 s1 ⊢
  have qx0_1 := cell_regrown x0_1
  have qx1_1 := cell_regrown x1_1
  have qo0_1 := cell_regrown o0_1
  have qo1_1 := cell_regrown o1_1
  have qo2_1 := cell_regrown o2_1
  have qo3_1 := cell_regrown o3_1
  have qr0_1 := cell_regrown r0_1
  have qr1_1 := cell_regrown r1_1
  refine (HS _).mono ?_
  rintro e w2 ⟨rfl, b2⟩
  have d2 : Below w1.heap.size w1 w2 := (Below.trans (by go_grown) (b2.mono (by first | omega | (simp; done) | (simp; omega))))
  have c2 : Below w.heap.size w w2 := c1.trans (d2.mono c1.size)
  have x0_2 : w2.cell? ⟨w.heap.size, 0, none⟩ = some (.int .i64 m) := (by rw [b2.cell (by first | omega | (simp; done) | (simp; omega))]; go_cell)
  have x1_2 : w2.cell? ⟨w.heap.size, 1, none⟩ = some (.slice ao l.length cap) := (by rw [b2.cell (by first | omega | (simp; done) | (simp; omega))]; go_cell)
  have xl_2 : w.heap.size < w2.heap.size := (by have := b2.size; first | omega | (revert this; simp; done) | (revert this; simp; omega))
  have o0_2 : w2.cell? ⟨w.heap.size + 1, 0, none⟩ = some (.int .i64 1) := (by rw [b2.cell (by first | omega | (simp; done) | (simp; omega))]; go_cell)
  have o1_2 : w2.cell? ⟨w.heap.size + 1, 1, none⟩ = some (.int .i64 a) := (by rw [b2.cell (by first | omega | (simp; done) | (simp; omega))]; go_cell)
  have o2_2 : w2.cell? ⟨w.heap.size + 1, 2, none⟩ = some (.int .i64 b) := (by rw [b2.cell (by first | omega | (simp; done) | (simp; omega))]; go_cell)
  have o3_2 : w2.cell? ⟨w.heap.size + 1, 3, none⟩ = some (.int .i64 n) := (by rw [b2.cell (by first | omega | (simp; done) | (simp; omega))]; go_cell)
  have ol_2 : w.heap.size + 1 < w2.heap.size := (by have := b2.size; first | omega | (revert this; simp; done) | (revert this; simp; omega))
  have r0_2 : w2.cell? ⟨w.heap.size + 1 + 1, 0, none⟩ = some (.int .i64 0) := (by rw [b2.cell (by first | omega | (simp; done) | (simp; omega))]; go_cell)
  have rf0_2 : w2.frozen? ⟨w.heap.size + 1 + 1, 0, none⟩ = false := (by rw [b2.frozen (by first | omega | (simp; done) | (simp; omega))]; (first | go_cell | (simp [World.frozen?, World.alloc]; done) | rfl))
  have r1_2 : w2.cell? ⟨w.heap.size + 1 + 1, 1, none⟩ = some (.slice none 0 0) := (by rw [b2.cell (by first | omega | (simp; done) | (simp; omega))]; go_cell)
  have rf1_2 : w2.frozen? ⟨w.heap.size + 1 + 1, 1, none⟩ = false := (by rw [b2.frozen (by first | omega | (simp; done) | (simp; omega))]; (first | go_cell | (simp [World.frozen?, World.alloc]; done) | rfl))
  have rl_2 : w.heap.size + 1 + 1 < w2.heap.size := (by have := b2.size; first | omega | (revert this; simp; done) | (revert this; simp; omega))
  clear x0_1 x1_1 xl_1 o0_1 o1_1 o2_1 o3_1 ol_1 r0_1 rf0_1 r1_1 rf1_1 rl_1
  clear b2 d2
  go_wp2_with fail
  have e0 : ((w2.setCell ⟨w.heap.size + 1 + 1, 0, none⟩ (.int .i64 (n))).setCell ⟨w.heap.size + 1 + 1, 1, none⟩ (.slice none 0 0)).cell? ⟨w.heap.size + 1 + 1, 0, none⟩ = some (.int .i64 (n)) := by go_cell
  have e1 : ((w2.setCell ⟨w.heap.size + 1 + 1, 0, none⟩ (.int .i64 (n))).setCell ⟨w.heap.size + 1 + 1, 1, none⟩ (.slice none 0 0)).cell? ⟨w.heap.size + 1 + 1, 1, none⟩ = some (.slice none 0 0) := by go_cell
  refine bodyPost_ret (v := .agg #[.int .i64 (n), .slice none 0 0]) (by simp [results, Tryz.results40, go_sem, e0, e1]) rfl ⟨valA_nil _ _ _, (c2.setCell (p := ⟨w.heap.size + 1 + 1, 0, none⟩) (by show w.heap.size ≤ w.heap.size + 1 + 1; omega) _).setCell (p := ⟨w.heap.size + 1 + 1, 1, none⟩) (by show w.heap.size ≤ w.heap.size + 1 + 1; omega) _⟩

set_option maxRecDepth 100000 in
set_option maxHeartbeats 1000000 in
theorem specDo_bind (k a b n m : Int) (v : Value) (l : List (Int × Int)) (w : World) (h : Rd w v l) (hll : l.length ≤ 1099511627776) (hs : bindOk k a b n) (HOK : opOk k a b n = true) :
    Calls Tryz.prog 40 #[.agg #[.int .i64 m, v], .agg #[.int .i64 k, .int .i64 a, .int .i64 b, .int .i64 n]] w fun e w' => ValA w.heap.size w' e (0) (addL l b n) ∧ Below w.heap.size w w' := by
  have HS := fun w => specOpOk_any k a b n w
  rw [HOK] at HS
  clear HOK
  have HR := hid h
  obtain ⟨ao, cap, hv, _⟩ := h
  subst hv
  have HC := hid (show (∀ (v : Value) (w : World), Rd w v l → Calls Tryz.prog 102 #[.agg #[.int .i64 m, v], .agg #[.int .i64 k, .int .i64 a, .int .i64 b, .int .i64 n], .int .i64 b] w fun e w' => ValA w.heap.size w' e 0 (addL l b n) ∧ Below w.heap.size w w') from fun v w hr => by
    have := specKin_any k a b n m b v l w hr hll (Or.inr rfl) (Or.inl hs)
    rwa [if_pos hs] at this)
  obtain ⟨rfl, -⟩ := hs
  obtain ⟨q, hq⟩ : ∃ q, addL l b n = q := ⟨_, rfl⟩
  have HQ := hid hq
  rw [hq] at HC
  clear hq
  go_enter Tryz.func40, Tryz.ntmps40
  go_wp2_with fail
  have x0_1 : (((w.alloc (.cells #[.int .i64 m, .slice ao l.length cap] 38)).alloc (.cells #[.int .i64 2, .int .i64 a, .int .i64 b, .int .i64 n] 27)).alloc (.cells #[.int .i64 0, .slice none 0 0] 38)).cell? ⟨w.heap.size, 0, none⟩ = some (.int .i64 m) := by go_cell
  have x1_1 : (((w.alloc (.cells #[.int .i64 m, .slice ao l.length cap] 38)).alloc (.cells #[.int .i64 2, .int .i64 a, .int .i64 b, .int .i64 n] 27)).alloc (.cells #[.int .i64 0, .slice none 0 0] 38)).cell? ⟨w.heap.size, 1, none⟩ = some (.slice ao l.length cap) := by go_cell
  have xl_1 : w.heap.size < (((w.alloc (.cells #[.int .i64 m, .slice ao l.length cap] 38)).alloc (.cells #[.int .i64 2, .int .i64 a, .int .i64 b, .int .i64 n] 27)).alloc (.cells #[.int .i64 0, .slice none 0 0] 38)).heap.size := by first | (simp; done) | (simp; omega)
  have o0_1 : (((w.alloc (.cells #[.int .i64 m, .slice ao l.length cap] 38)).alloc (.cells #[.int .i64 2, .int .i64 a, .int .i64 b, .int .i64 n] 27)).alloc (.cells #[.int .i64 0, .slice none 0 0] 38)).cell? ⟨w.heap.size + 1, 0, none⟩ = some (.int .i64 2) := by go_cell
  have o1_1 : (((w.alloc (.cells #[.int .i64 m, .slice ao l.length cap] 38)).alloc (.cells #[.int .i64 2, .int .i64 a, .int .i64 b, .int .i64 n] 27)).alloc (.cells #[.int .i64 0, .slice none 0 0] 38)).cell? ⟨w.heap.size + 1, 1, none⟩ = some (.int .i64 a) := by go_cell
  have o2_1 : (((w.alloc (.cells #[.int .i64 m, .slice ao l.length cap] 38)).alloc (.cells #[.int .i64 2, .int .i64 a, .int .i64 b, .int .i64 n] 27)).alloc (.cells #[.int .i64 0, .slice none 0 0] 38)).cell? ⟨w.heap.size + 1, 2, none⟩ = some (.int .i64 b) := by go_cell
  have o3_1 : (((w.alloc (.cells #[.int .i64 m, .slice ao l.length cap] 38)).alloc (.cells #[.int .i64 2, .int .i64 a, .int .i64 b, .int .i64 n] 27)).alloc (.cells #[.int .i64 0, .slice none 0 0] 38)).cell? ⟨w.heap.size + 1, 3, none⟩ = some (.int .i64 n) := by go_cell
  have ol_1 : w.heap.size + 1 < (((w.alloc (.cells #[.int .i64 m, .slice ao l.length cap] 38)).alloc (.cells #[.int .i64 2, .int .i64 a, .int .i64 b, .int .i64 n] 27)).alloc (.cells #[.int .i64 0, .slice none 0 0] 38)).heap.size := by first | (simp; done) | (simp; omega)
  have r0_1 : (((w.alloc (.cells #[.int .i64 m, .slice ao l.length cap] 38)).alloc (.cells #[.int .i64 2, .int .i64 a, .int .i64 b, .int .i64 n] 27)).alloc (.cells #[.int .i64 0, .slice none 0 0] 38)).cell? ⟨w.heap.size + 1 + 1, 0, none⟩ = some (.int .i64 0) := by go_cell
  have rf0_1 : (((w.alloc (.cells #[.int .i64 m, .slice ao l.length cap] 38)).alloc (.cells #[.int .i64 2, .int .i64 a, .int .i64 b, .int .i64 n] 27)).alloc (.cells #[.int .i64 0, .slice none 0 0] 38)).frozen? ⟨w.heap.size + 1 + 1, 0, none⟩ = false := by (first | go_cell | (simp [World.frozen?, World.alloc]; done) | rfl)
  have r1_1 : (((w.alloc (.cells #[.int .i64 m, .slice ao l.length cap] 38)).alloc (.cells #[.int .i64 2, .int .i64 a, .int .i64 b, .int .i64 n] 27)).alloc (.cells #[.int .i64 0, .slice none 0 0] 38)).cell? ⟨w.heap.size + 1 + 1, 1, none⟩ = some (.slice none 0 0) := by go_cell
  have rf1_1 : (((w.alloc (.cells #[.int .i64 m, .slice ao l.length cap] 38)).alloc (.cells #[.int .i64 2, .int .i64 a, .int .i64 b, .int .i64 n] 27)).alloc (.cells #[.int .i64 0, .slice none 0 0] 38)).frozen? ⟨w.heap.size + 1 + 1, 1, none⟩ = false := by (first | go_cell | (simp [World.frozen?, World.alloc]; done) | rfl)
  have rl_1 : w.heap.size + 1 + 1 < (((w.alloc (.cells #[.int .i64 m, .slice ao l.length cap] 38)).alloc (.cells #[.int .i64 2, .int .i64 a, .int .i64 b, .int .i64 n] 27)).alloc (.cells #[.int .i64 0, .slice none 0 0] 38)).heap.size := by first | (simp; done) | (simp; omega)
  have c1 : Below w.heap.size w (((w.alloc (.cells #[.int .i64 m, .slice ao l.length cap] 38)).alloc (.cells #[.int .i64 2, .int .i64 a, .int .i64 b, .int .i64 n] 27)).alloc (.cells #[.int .i64 0, .slice none 0 0] 38)) := by go_grown
  have s1 : (((w.alloc (.cells #[.int .i64 m, .slice ao l.length cap] 38)).alloc (.cells #[.int .i64 2, .int .i64 a, .int .i64 b, .int .i64 n] 27)).alloc (.cells #[.int .i64 0, .slice none 0 0] 38)).heap.size = w.heap.size + 3 := by simp
  generalize (((w.alloc (.cells #[.int .i64 m, .slice ao l.length cap] 38)).alloc (.cells #[.int .i64 2, .int .i64 a, .int .i64 b, .int .i64 n] 27)).alloc (.cells #[.int .i64 0, .slice none 0 0] 38)) = w1 at x0_1 x1_1 xl_1 o0_1 o1_1 o2_1 o3_1 ol_1 r0_1 rf0_1 r1_1 rf1_1 rl_1 c1 s1 ⊢
  have qx0_1 := cell_regrown x0_1
  have qx1_1 := cell_regrown x1_1
  have qo0_1 := cell_regrown o0_1
  have qo1_1 := cell_regrown o1_1
  have qo2_1 := cell_regrown o2_1
  have qo3_1 := cell_regrown o3_1
  have qr0_1 := cell_regrown r0_1
  have qr1_1 := cell_regrown r1_1
  refine (HS _).mono ?_
  rintro e w2 ⟨rfl, b2⟩
  have d2 : Below w1.heap.size w1 w2 := (Below.trans (by go_grown) (b2.mono (by first | omega | (simp; done) | (simp; omega))))
  have c2 : Below w.heap.size w w2 := c1.trans (d2.mono c1.size)
  have x0_2 : w2.cell? ⟨w.heap.size, 0, none⟩ = some (.int .i64 m) := (by rw [b2.cell (by first | omega | (simp; done) | (simp; omega))]; go_cell)
  have x1_2 : w2.cell? ⟨w.heap.size, 1, none⟩ = some (.slice ao l.length cap) := (by rw [b2.cell (by first | omega | (simp; done) | (simp; omega))]; go_cell)
  have xl_2 : w.heap.size < w2.heap.size := (by have := b2.size; first | omega | (revert this; simp; done) | (revert this; simp; omega))
  have o0_2 : w2.cell? ⟨w.heap.size + 1, 0, none⟩ = some (.int .i64 2) := (by rw [b2.cell (by first | omega | (simp; done) | (simp; omega))]; go_cell)
  have o1_2 : w2.cell? ⟨w.heap.size + 1, 1, none⟩ = some (.int .i64 a) := (by rw [b2.cell (by first | omega | (simp; done) | (simp; omega))]; go_cell)
  have o2_2 : w2.cell? ⟨w.heap.size + 1, 2, none⟩ = some (.int .i64 b) := (by rw [b2.cell (by first | omega | (simp; done) | (simp; omega))]; go_cell)
  have o3_2 : w2.cell? ⟨w.heap.size + 1, 3, none⟩ = some (.int .i64 n) := (by rw [b2.cell (by first | omega | (simp; done) | (simp; omega))]; go_cell)
  have ol_2 : w.heap.size + 1 < w2.heap.size := (by have := b2.size; first | omega | (revert this; simp; done) | (revert this; simp; omega))
  have r0_2 : w2.cell? ⟨w.heap.size + 1 + 1, 0, none⟩ = some (.int .i64 0) := (by rw [b2.cell (by first | omega | (simp; done) | (simp; omega))]; go_cell)
  have rf0_2 : w2.frozen? ⟨w.heap.size + 1 + 1, 0, none⟩ = false := (by rw [b2.frozen (by first | omega | (simp; done) | (simp; omega))]; (first | go_cell | (simp [World.frozen?, World.alloc]; done) | rfl))
  have r1_2 : w2.cell? ⟨w.heap.size + 1 + 1, 1, none⟩ = some (.slice none 0 0) := (by rw [b2.cell (by first | omega | (simp; done) | (simp; omega))]; go_cell)
  have rf1_2 : w2.frozen? ⟨w.heap.size + 1 + 1, 1, none⟩ = false := (by rw [b2.frozen (by first | omega | (simp; done) | (simp; omega))]; (first | go_cell | (simp [World.frozen?, World.alloc]; done) | rfl))
  have rl_2 : w.heap.size + 1 + 1 < w2.heap.size := (by have := b2.size; first | omega | (revert this; simp; done) | (revert this; simp; omega))
  clear x0_1 x1_1 xl_1 o0_1 o1_1 o2_1 o3_1 ol_1 r0_1 rf0_1 r1_1 rf1_1 rl_1
  clear b2 d2
  go_wp2_with fail
  refine (HC.out _ _ (HR.out.later c2)).mono ?_
  rintro e w3 ⟨⟨v', rfl, ho⟩, b3⟩
  have HO := hid ho
  clear ho
  have hz2 : w.heap.size + 1 + 1 < w2.heap.size := rl_2
  have d3 : Below w2.heap.size w2 w3 := (Below.trans (by go_grown) (b3.mono (by first | omega | (simp; done) | (simp; omega))))
  have c3 : Below w.heap.size w w3 := c2.trans (d3.mono c2.size)
  have r0_3 : w3.cell? ⟨w.heap.size + 1 + 1, 0, none⟩ = some (.int .i64 0) := (by rw [b3.cell (by first | omega | (simp; done) | (simp; omega))]; go_cell)
  have rf0_3 : w3.frozen? ⟨w.heap.size + 1 + 1, 0, none⟩ = false := (by rw [b3.frozen (by first | omega | (simp; done) | (simp; omega))]; (first | go_cell | (simp [World.frozen?, World.alloc]; done) | rfl))
  have r1_3 : w3.cell? ⟨w.heap.size + 1 + 1, 1, none⟩ = some (.slice none 0 0) := (by rw [b3.cell (by first | omega | (simp; done) | (simp; omega))]; go_cell)
  have rf1_3 : w3.frozen? ⟨w.heap.size + 1 + 1, 1, none⟩ = false := (by rw [b3.frozen (by first | omega | (simp; done) | (simp; omega))]; (first | go_cell | (simp [World.frozen?, World.alloc]; done) | rfl))
  have rl_3 : w.heap.size + 1 + 1 < w3.heap.size := (by have := b3.size; first | omega | (revert this; simp; done) | (revert this; simp; omega))
  clear r0_2 rf0_2 r1_2 rf1_2 rl_2
  clear b3 d3
  obtain ⟨uo, uc, huv, _⟩ := HO.out.rd
  subst huv
  go_wp2
  have e0 : ((w3.setCell ⟨w.heap.size + 1 + 1, 0, none⟩ (.int .i64 (0))).setCell ⟨w.heap.size + 1 + 1, 1, none⟩ (.slice uo q.length uc)).cell? ⟨w.heap.size + 1 + 1, 0, none⟩ = some (.int .i64 (0)) := by go_cell
  have e1 : ((w3.setCell ⟨w.heap.size + 1 + 1, 0, none⟩ (.int .i64 (0))).setCell ⟨w.heap.size + 1 + 1, 1, none⟩ (.slice uo q.length uc)).cell? ⟨w.heap.size + 1 + 1, 1, none⟩ = some (.slice uo q.length uc) := by go_cell
  have HF := hid (((HO.out.setApart (p := ⟨w.heap.size + 1 + 1, 0, none⟩) (by show w.heap.size + 1 + 1 < _; omega) (.int .i64 (0))).setApart (p := ⟨w.heap.size + 1 + 1, 1, none⟩) (by show w.heap.size + 1 + 1 < _; omega) (.slice uo q.length uc)).mono (B' := w.heap.size) (by omega))
  refine bodyPost_ret (v := .agg #[.int .i64 (0), .slice uo q.length uc]) (by simp [results, Tryz.results40, go_sem, e0, e1]) rfl ⟨⟨_, rfl, by rw [HQ.out]; exact HF.out⟩, (c3.setCell (p := ⟨w.heap.size + 1 + 1, 0, none⟩) (by show w.heap.size ≤ w.heap.size + 1 + 1; omega) _).setCell (p := ⟨w.heap.size + 1 + 1, 1, none⟩) (by show w.heap.size ≤ w.heap.size + 1 + 1; omega) _⟩

set_option maxRecDepth 100000 in
set_option maxHeartbeats 1000000 in
theorem specDo_part (k a b n m : Int) (v : Value) (l : List (Int × Int)) (w : World) (h : Rd w v l) (hll : l.length ≤ 1099511627776) (hs : partOk k a b n) (HOK : opOk k a b n = true) :
    Calls Tryz.prog 40 #[.agg #[.int .i64 m, v], .agg #[.int .i64 k, .int .i64 a, .int .i64 b, .int .i64 n]] w fun e w' => ValA w.heap.size w' e (0) (dropL l b) ∧ Below w.heap.size w w' := by
  have HS := fun w => specOpOk_any k a b n w
  rw [HOK] at HS
  clear HOK
  have HR := hid h
  obtain ⟨ao, cap, hv, _⟩ := h
  subst hv
  have HC := hid (show (∀ (v : Value) (w : World), Rd w v l → Calls Tryz.prog 102 #[.agg #[.int .i64 m, v], .agg #[.int .i64 k, .int .i64 a, .int .i64 b, .int .i64 n], .int .i64 b] w fun e w' => ValA w.heap.size w' e 0 (dropL l b) ∧ Below w.heap.size w w') from fun v w hr => by
    have := specKin_any k a b n m b v l w hr hll (Or.inr rfl) (Or.inr hs)
    rwa [if_neg (fun h2 => by have := hs.1; have := h2.1; omega)] at this)
  obtain ⟨rfl, -⟩ := hs
  obtain ⟨q, hq⟩ : ∃ q, dropL l b = q := ⟨_, rfl⟩
  have HQ := hid hq
  rw [hq] at HC
  clear hq
  go_enter Tryz.func40, Tryz.ntmps40
  go_wp2_with fail
  have x0_1 : (((w.alloc (.cells #[.int .i64 m, .slice ao l.length cap] 38)).alloc (.cells #[.int .i64 3, .int .i64 a, .int .i64 b, .int .i64 n] 27)).alloc (.cells #[.int .i64 0, .slice none 0 0] 38)).cell? ⟨w.heap.size, 0, none⟩ = some (.int .i64 m) := by go_cell
  have x1_1 : (((w.alloc (.cells #[.int .i64 m, .slice ao l.length cap] 38)).alloc (.cells #[.int .i64 3, .int .i64 a, .int .i64 b, .int .i64 n] 27)).alloc (.cells #[.int .i64 0, .slice none 0 0] 38)).cell? ⟨w.heap.size, 1, none⟩ = some (.slice ao l.length cap) := by go_cell
  have xl_1 : w.heap.size < (((w.alloc (.cells #[.int .i64 m, .slice ao l.length cap] 38)).alloc (.cells #[.int .i64 3, .int .i64 a, .int .i64 b, .int .i64 n] 27)).alloc (.cells #[.int .i64 0, .slice none 0 0] 38)).heap.size := by first | (simp; done) | (simp; omega)
  have o0_1 : (((w.alloc (.cells #[.int .i64 m, .slice ao l.length cap] 38)).alloc (.cells #[.int .i64 3, .int .i64 a, .int .i64 b, .int .i64 n] 27)).alloc (.cells #[.int .i64 0, .slice none 0 0] 38)).cell? ⟨w.heap.size + 1, 0, none⟩ = some (.int .i64 3) := by go_cell
  have o1_1 : (((w.alloc (.cells #[.int .i64 m, .slice ao l.length cap] 38)).alloc (.cells #[.int .i64 3, .int .i64 a, .int .i64 b, .int .i64 n] 27)).alloc (.cells #[.int .i64 0, .slice none 0 0] 38)).cell? ⟨w.heap.size + 1, 1, none⟩ = some (.int .i64 a) := by go_cell
  have o2_1 : (((w.alloc (.cells #[.int .i64 m, .slice ao l.length cap] 38)).alloc (.cells #[.int .i64 3, .int .i64 a, .int .i64 b, .int .i64 n] 27)).alloc (.cells #[.int .i64 0, .slice none 0 0] 38)).cell? ⟨w.heap.size + 1, 2, none⟩ = some (.int .i64 b) := by go_cell
  have o3_1 : (((w.alloc (.cells #[.int .i64 m, .slice ao l.length cap] 38)).alloc (.cells #[.int .i64 3, .int .i64 a, .int .i64 b, .int .i64 n] 27)).alloc (.cells #[.int .i64 0, .slice none 0 0] 38)).cell? ⟨w.heap.size + 1, 3, none⟩ = some (.int .i64 n) := by go_cell
  have ol_1 : w.heap.size + 1 < (((w.alloc (.cells #[.int .i64 m, .slice ao l.length cap] 38)).alloc (.cells #[.int .i64 3, .int .i64 a, .int .i64 b, .int .i64 n] 27)).alloc (.cells #[.int .i64 0, .slice none 0 0] 38)).heap.size := by first | (simp; done) | (simp; omega)
  have r0_1 : (((w.alloc (.cells #[.int .i64 m, .slice ao l.length cap] 38)).alloc (.cells #[.int .i64 3, .int .i64 a, .int .i64 b, .int .i64 n] 27)).alloc (.cells #[.int .i64 0, .slice none 0 0] 38)).cell? ⟨w.heap.size + 1 + 1, 0, none⟩ = some (.int .i64 0) := by go_cell
  have rf0_1 : (((w.alloc (.cells #[.int .i64 m, .slice ao l.length cap] 38)).alloc (.cells #[.int .i64 3, .int .i64 a, .int .i64 b, .int .i64 n] 27)).alloc (.cells #[.int .i64 0, .slice none 0 0] 38)).frozen? ⟨w.heap.size + 1 + 1, 0, none⟩ = false := by (first | go_cell | (simp [World.frozen?, World.alloc]; done) | rfl)
  have r1_1 : (((w.alloc (.cells #[.int .i64 m, .slice ao l.length cap] 38)).alloc (.cells #[.int .i64 3, .int .i64 a, .int .i64 b, .int .i64 n] 27)).alloc (.cells #[.int .i64 0, .slice none 0 0] 38)).cell? ⟨w.heap.size + 1 + 1, 1, none⟩ = some (.slice none 0 0) := by go_cell
  have rf1_1 : (((w.alloc (.cells #[.int .i64 m, .slice ao l.length cap] 38)).alloc (.cells #[.int .i64 3, .int .i64 a, .int .i64 b, .int .i64 n] 27)).alloc (.cells #[.int .i64 0, .slice none 0 0] 38)).frozen? ⟨w.heap.size + 1 + 1, 1, none⟩ = false := by (first | go_cell | (simp [World.frozen?, World.alloc]; done) | rfl)
  have rl_1 : w.heap.size + 1 + 1 < (((w.alloc (.cells #[.int .i64 m, .slice ao l.length cap] 38)).alloc (.cells #[.int .i64 3, .int .i64 a, .int .i64 b, .int .i64 n] 27)).alloc (.cells #[.int .i64 0, .slice none 0 0] 38)).heap.size := by first | (simp; done) | (simp; omega)
  have c1 : Below w.heap.size w (((w.alloc (.cells #[.int .i64 m, .slice ao l.length cap] 38)).alloc (.cells #[.int .i64 3, .int .i64 a, .int .i64 b, .int .i64 n] 27)).alloc (.cells #[.int .i64 0, .slice none 0 0] 38)) := by go_grown
  have s1 : (((w.alloc (.cells #[.int .i64 m, .slice ao l.length cap] 38)).alloc (.cells #[.int .i64 3, .int .i64 a, .int .i64 b, .int .i64 n] 27)).alloc (.cells #[.int .i64 0, .slice none 0 0] 38)).heap.size = w.heap.size + 3 := by simp
  generalize (((w.alloc (.cells #[.int .i64 m, .slice ao l.length cap] 38)).alloc (.cells #[.int .i64 3, .int .i64 a, .int .i64 b, .int .i64 n] 27)).alloc (.cells #[.int .i64 0, .slice none 0 0] 38)) = w1 at x0_1 x1_1 xl_1 o0_1 o1_1 o2_1 o3_1 ol_1 r0_1 rf0_1 r1_1 rf1_1 rl_1 c1 s1 ⊢
  have qx0_1 := cell_regrown x0_1
  have qx1_1 := cell_regrown x1_1
  have qo0_1 := cell_regrown o0_1
  have qo1_1 := cell_regrown o1_1
  have qo2_1 := cell_regrown o2_1
  have qo3_1 := cell_regrown o3_1
  have qr0_1 := cell_regrown r0_1
  have qr1_1 := cell_regrown r1_1
  refine (HS _).mono ?_
  rintro e w2 ⟨rfl, b2⟩
  have d2 : Below w1.heap.size w1 w2 := (Below.trans (by go_grown) (b2.mono (by first | omega | (simp; done) | (simp; omega))))
  have c2 : Below w.heap.size w w2 := c1.trans (d2.mono c1.size)
  have x0_2 : w2.cell? ⟨w.heap.size, 0, none⟩ = some (.int .i64 m) := (by rw [b2.cell (by first | omega | (simp; done) | (simp; omega))]; go_cell)
  have x1_2 : w2.cell? ⟨w.heap.size, 1, none⟩ = some (.slice ao l.length cap) := (by rw [b2.cell (by first | omega | (simp; done) | (simp; omega))]; go_cell)
  have xl_2 : w.heap.size < w2.heap.size := (by have := b2.size; first | omega | (revert this; simp; done) | (revert this; simp; omega))
  have o0_2 : w2.cell? ⟨w.heap.size + 1, 0, none⟩ = some (.int .i64 3) := (by rw [b2.cell (by first | omega | (simp; done) | (simp; omega))]; go_cell)
  have o1_2 : w2.cell? ⟨w.heap.size + 1, 1, none⟩ = some (.int .i64 a) := (by rw [b2.cell (by first | omega | (simp; done) | (simp; omega))]; go_cell)
  have o2_2 : w2.cell? ⟨w.heap.size + 1, 2, none⟩ = some (.int .i64 b) := (by rw [b2.cell (by first | omega | (simp; done) | (simp; omega))]; go_cell)
  have o3_2 : w2.cell? ⟨w.heap.size + 1, 3, none⟩ = some (.int .i64 n) := (by rw [b2.cell (by first | omega | (simp; done) | (simp; omega))]; go_cell)
  have ol_2 : w.heap.size + 1 < w2.heap.size := (by have := b2.size; first | omega | (revert this; simp; done) | (revert this; simp; omega))
  have r0_2 : w2.cell? ⟨w.heap.size + 1 + 1, 0, none⟩ = some (.int .i64 0) := (by rw [b2.cell (by first | omega | (simp; done) | (simp; omega))]; go_cell)
  have rf0_2 : w2.frozen? ⟨w.heap.size + 1 + 1, 0, none⟩ = false := (by rw [b2.frozen (by first | omega | (simp; done) | (simp; omega))]; (first | go_cell | (simp [World.frozen?, World.alloc]; done) | rfl))
  have r1_2 : w2.cell? ⟨w.heap.size + 1 + 1, 1, none⟩ = some (.slice none 0 0) := (by rw [b2.cell (by first | omega | (simp; done) | (simp; omega))]; go_cell)
  have rf1_2 : w2.frozen? ⟨w.heap.size + 1 + 1, 1, none⟩ = false := (by rw [b2.frozen (by first | omega | (simp; done) | (simp; omega))]; (first | go_cell | (simp [World.frozen?, World.alloc]; done) | rfl))
  have rl_2 : w.heap.size + 1 + 1 < w2.heap.size := (by have := b2.size; first | omega | (revert this; simp; done) | (revert this; simp; omega))
  clear x0_1 x1_1 xl_1 o0_1 o1_1 o2_1 o3_1 ol_1 r0_1 rf0_1 r1_1 rf1_1 rl_1
  clear b2 d2
  go_wp2_with fail
  refine (HC.out _ _ (HR.out.later c2)).mono ?_
  rintro e w3 ⟨⟨v', rfl, ho⟩, b3⟩
  have HO := hid ho
  clear ho
  have hz2 : w.heap.size + 1 + 1 < w2.heap.size := rl_2
  have d3 : Below w2.heap.size w2 w3 := (Below.trans (by go_grown) (b3.mono (by first | omega | (simp; done) | (simp; omega))))
  have c3 : Below w.heap.size w w3 := c2.trans (d3.mono c2.size)
  have r0_3 : w3.cell? ⟨w.heap.size + 1 + 1, 0, none⟩ = some (.int .i64 0) := (by rw [b3.cell (by first | omega | (simp; done) | (simp; omega))]; go_cell)
  have rf0_3 : w3.frozen? ⟨w.heap.size + 1 + 1, 0, none⟩ = false := (by rw [b3.frozen (by first | omega | (simp; done) | (simp; omega))]; (first | go_cell | (simp [World.frozen?, World.alloc]; done) | rfl))
  have r1_3 : w3.cell? ⟨w.heap.size + 1 + 1, 1, none⟩ = some (.slice none 0 0) := (by rw [b3.cell (by first | omega | (simp; done) | (simp; omega))]; go_cell)
  have rf1_3 : w3.frozen? ⟨w.heap.size + 1 + 1, 1, none⟩ = false := (by rw [b3.frozen (by first | omega | (simp; done) | (simp; omega))]; (first | go_cell | (simp [World.frozen?, World.alloc]; done) | rfl))
  have rl_3 : w.heap.size + 1 + 1 < w3.heap.size := (by have := b3.size; first | omega | (revert this; simp; done) | (revert this; simp; omega))
  clear r0_2 rf0_2 r1_2 rf1_2 rl_2
  clear b3 d3
  obtain ⟨uo, uc, huv, _⟩ := HO.out.rd
  subst huv
  go_wp2
  have e0 : ((w3.setCell ⟨w.heap.size + 1 + 1, 0, none⟩ (.int .i64 (0))).setCell ⟨w.heap.size + 1 + 1, 1, none⟩ (.slice uo q.length uc)).cell? ⟨w.heap.size + 1 + 1, 0, none⟩ = some (.int .i64 (0)) := by go_cell
  have e1 : ((w3.setCell ⟨w.heap.size + 1 + 1, 0, none⟩ (.int .i64 (0))).setCell ⟨w.heap.size + 1 + 1, 1, none⟩ (.slice uo q.length uc)).cell? ⟨w.heap.size + 1 + 1, 1, none⟩ = some (.slice uo q.length uc) := by go_cell
  have HF := hid (((HO.out.setApart (p := ⟨w.heap.size + 1 + 1, 0, none⟩) (by show w.heap.size + 1 + 1 < _; omega) (.int .i64 (0))).setApart (p := ⟨w.heap.size + 1 + 1, 1, none⟩) (by show w.heap.size + 1 + 1 < _; omega) (.slice uo q.length uc)).mono (B' := w.heap.size) (by omega))
  refine bodyPost_ret (v := .agg #[.int .i64 (0), .slice uo q.length uc]) (by simp [results, Tryz.results40, go_sem, e0, e1]) rfl ⟨⟨_, rfl, by rw [HQ.out]; exact HF.out⟩, (c3.setCell (p := ⟨w.heap.size + 1 + 1, 0, none⟩) (by show w.heap.size ≤ w.heap.size + 1 + 1; omega) _).setCell (p := ⟨w.heap.size + 1 + 1, 1, none⟩) (by show w.heap.size ≤ w.heap.size + 1 + 1; omega) _⟩

theorem specDo_any (k a b n m : Int) (v : Value) (l : List (Int × Int)) (w : World) (h : Rd w v l) (hll : l.length ≤ 1099511627776) :
    Calls Tryz.prog 40 #[.agg #[.int .i64 m, v], .agg #[.int .i64 k, .int .i64 a, .int .i64 b, .int .i64 n]] w fun e w' => ValA w.heap.size w' e (doN k a b n) (doL k a b n l) ∧ Below w.heap.size w w' := by
  have ht : setOk k a b n → opOk k a b n = true := fun h => by simp [opOk, h]
  have hb : bindOk k a b n → opOk k a b n = true := fun h => by simp [opOk, h]
  have hp : partOk k a b n → opOk k a b n = true := fun h => by simp [opOk, h]
  rcases do_ways k a b n l with ⟨hs, e1, e2, -⟩ | ⟨hs, e1, e2, -⟩ | ⟨hs, e1, e2, -⟩ | ⟨h1, h2, h3, e1, e2, -⟩ <;> rw [e1, e2]
  · exact specDo_set k a b n m v l w h hll hs (ht hs)
  · exact specDo_bind k a b n m v l w h hll hs (hb hs)
  · exact specDo_part k a b n m v l w h hll hs (hp hs)
  · exact specDo_no k a b n m v l w h hll (by simp [opOk, h1, h2, h3])

end Go.Proofs.YtkmhnjgncnoddaaGreat
