/- Parts of what the last text proves: contracts and plain facts. -/
import Derived.Test.YtkmhnjgncnoddaaRowFGOrdAll0
import Derived.Test.YtkmhnjgncnoddaaVs
import Derived.Test.YtkmhnjgncnoddaaMark
import Derived.Test.YtkmhnjgncnoddaaItP
import Derived.Test.YtkmhnjgncnoddaaGv
import Derived.Test.YtkmhnjgncnoddaaLo
import Derived.Test.YtkmhnjgncnoddaaAdS
import Derived.Test.YtkmhnjgncnoddaaGa
import Derived.Deep.RegionLaw
import Derived.Deep.Cut
import Derived.Deep.CutRange
/- Part: spec.OpBack: contract. -/
namespace Go.Proofs.Ytkmhnjgncnoddaa
open Go.RowKit
attribute [local go_sem ↓] Go.wp_at_zero Go.wp_at_succ

set_option maxRecDepth 100000 in
set_option maxHeartbeats 1000000 in
theorem specBack_no (k a b n m : Int) (v : Value) (l : List (Int × Int)) (w : World) (h : Rd w v l) (_ : l.length ≤ 1099511627776) (HOK : opOk k a b n = false) :
    Calls Try.prog 27 #[.agg #[.int .i64 m, v], .agg #[.int .i64 k, .int .i64 a, .int .i64 b, .int .i64 n]] w fun e w' => ValA w.heap.size w' e (0) ([]) ∧ Below w.heap.size w w' := by
  have HS := fun w => specOpOk_any k a b n w
  rw [HOK] at HS
  clear HOK
  obtain ⟨ao, cap, hv, _⟩ := h
  subst hv
  go_enter Try.func27, Try.ntmps27
  go_wp2_with fail
  have x0_1 : (((w.alloc (.cells #[.int .i64 m, .slice ao l.length cap] 62)).alloc (.cells #[.int .i64 k, .int .i64 a, .int .i64 b, .int .i64 n] 27)).alloc (.cells #[.int .i64 0, .slice none 0 0] 62)).cell? ⟨w.heap.size, 0, none⟩ = some (.int .i64 m) := by go_cell
  have x1_1 : (((w.alloc (.cells #[.int .i64 m, .slice ao l.length cap] 62)).alloc (.cells #[.int .i64 k, .int .i64 a, .int .i64 b, .int .i64 n] 27)).alloc (.cells #[.int .i64 0, .slice none 0 0] 62)).cell? ⟨w.heap.size, 1, none⟩ = some (.slice ao l.length cap) := by go_cell
  have xl_1 : w.heap.size < (((w.alloc (.cells #[.int .i64 m, .slice ao l.length cap] 62)).alloc (.cells #[.int .i64 k, .int .i64 a, .int .i64 b, .int .i64 n] 27)).alloc (.cells #[.int .i64 0, .slice none 0 0] 62)).heap.size := by first | (simp; done) | (simp; omega)
  have o0_1 : (((w.alloc (.cells #[.int .i64 m, .slice ao l.length cap] 62)).alloc (.cells #[.int .i64 k, .int .i64 a, .int .i64 b, .int .i64 n] 27)).alloc (.cells #[.int .i64 0, .slice none 0 0] 62)).cell? ⟨w.heap.size + 1, 0, none⟩ = some (.int .i64 k) := by go_cell
  have o1_1 : (((w.alloc (.cells #[.int .i64 m, .slice ao l.length cap] 62)).alloc (.cells #[.int .i64 k, .int .i64 a, .int .i64 b, .int .i64 n] 27)).alloc (.cells #[.int .i64 0, .slice none 0 0] 62)).cell? ⟨w.heap.size + 1, 1, none⟩ = some (.int .i64 a) := by go_cell
  have o2_1 : (((w.alloc (.cells #[.int .i64 m, .slice ao l.length cap] 62)).alloc (.cells #[.int .i64 k, .int .i64 a, .int .i64 b, .int .i64 n] 27)).alloc (.cells #[.int .i64 0, .slice none 0 0] 62)).cell? ⟨w.heap.size + 1, 2, none⟩ = some (.int .i64 b) := by go_cell
  have o3_1 : (((w.alloc (.cells #[.int .i64 m, .slice ao l.length cap] 62)).alloc (.cells #[.int .i64 k, .int .i64 a, .int .i64 b, .int .i64 n] 27)).alloc (.cells #[.int .i64 0, .slice none 0 0] 62)).cell? ⟨w.heap.size + 1, 3, none⟩ = some (.int .i64 n) := by go_cell
  have ol_1 : w.heap.size + 1 < (((w.alloc (.cells #[.int .i64 m, .slice ao l.length cap] 62)).alloc (.cells #[.int .i64 k, .int .i64 a, .int .i64 b, .int .i64 n] 27)).alloc (.cells #[.int .i64 0, .slice none 0 0] 62)).heap.size := by first | (simp; done) | (simp; omega)
  have r0_1 : (((w.alloc (.cells #[.int .i64 m, .slice ao l.length cap] 62)).alloc (.cells #[.int .i64 k, .int .i64 a, .int .i64 b, .int .i64 n] 27)).alloc (.cells #[.int .i64 0, .slice none 0 0] 62)).cell? ⟨w.heap.size + 1 + 1, 0, none⟩ = some (.int .i64 0) := by go_cell
  have rf0_1 : (((w.alloc (.cells #[.int .i64 m, .slice ao l.length cap] 62)).alloc (.cells #[.int .i64 k, .int .i64 a, .int .i64 b, .int .i64 n] 27)).alloc (.cells #[.int .i64 0, .slice none 0 0] 62)).frozen? ⟨w.heap.size + 1 + 1, 0, none⟩ = false := by (first | go_cell | (simp [World.frozen?, World.alloc]; done) | rfl)
  have r1_1 : (((w.alloc (.cells #[.int .i64 m, .slice ao l.length cap] 62)).alloc (.cells #[.int .i64 k, .int .i64 a, .int .i64 b, .int .i64 n] 27)).alloc (.cells #[.int .i64 0, .slice none 0 0] 62)).cell? ⟨w.heap.size + 1 + 1, 1, none⟩ = some (.slice none 0 0) := by go_cell
  have rf1_1 : (((w.alloc (.cells #[.int .i64 m, .slice ao l.length cap] 62)).alloc (.cells #[.int .i64 k, .int .i64 a, .int .i64 b, .int .i64 n] 27)).alloc (.cells #[.int .i64 0, .slice none 0 0] 62)).frozen? ⟨w.heap.size + 1 + 1, 1, none⟩ = false := by (first | go_cell | (simp [World.frozen?, World.alloc]; done) | rfl)
  have rl_1 : w.heap.size + 1 + 1 < (((w.alloc (.cells #[.int .i64 m, .slice ao l.length cap] 62)).alloc (.cells #[.int .i64 k, .int .i64 a, .int .i64 b, .int .i64 n] 27)).alloc (.cells #[.int .i64 0, .slice none 0 0] 62)).heap.size := by first | (simp; done) | (simp; omega)
  have c1 : Below w.heap.size w (((w.alloc (.cells #[.int .i64 m, .slice ao l.length cap] 62)).alloc (.cells #[.int .i64 k, .int .i64 a, .int .i64 b, .int .i64 n] 27)).alloc (.cells #[.int .i64 0, .slice none 0 0] 62)) := by go_grown
  have s1 : (((w.alloc (.cells #[.int .i64 m, .slice ao l.length cap] 62)).alloc (.cells #[.int .i64 k, .int .i64 a, .int .i64 b, .int .i64 n] 27)).alloc (.cells #[.int .i64 0, .slice none 0 0] 62)).heap.size = w.heap.size + 3 := by simp
  generalize (((w.alloc (.cells #[.int .i64 m, .slice ao l.length cap] 62)).alloc (.cells #[.int .i64 k, .int .i64 a, .int .i64 b, .int .i64 n] 27)).alloc (.cells #[.int .i64 0, .slice none 0 0] 62)) = w1 at x0_1 x1_1 xl_1 o0_1 o1_1 o2_1 o3_1 ol_1 r0_1 rf0_1 r1_1 rf1_1 rl_1 c1 s1 ⊢
  have qx0_1 := cell_regrown x0_1
  have qx1_1 := cell_regrown x1_1
  have qo0_1 := cell_regrown o0_1
  have qo1_1 := cell_regrown o1_1
  have qo2_1 := cell_regrown o2_1
  have qo3_1 := cell_regrown o3_1
  have qr0_1 := cell_regrown r0_1
  have qr1_1 := cell_regrown r1_1
  refine (HS _).mono ?_
  rintro e w2 ⟨rfl, b2⟩
  have d2 : Below w1.heap.size w1 w2 := (Below.trans (by go_grown) (b2.mono (by first | omega | (simp; done) | (simp; omega))))
  have c2 : Below w.heap.size w w2 := c1.trans (d2.mono c1.size)
  have x0_2 : w2.cell? ⟨w.heap.size, 0, none⟩ = some (.int .i64 m) := (by rw [b2.cell (by first | omega | (simp; done) | (simp; omega))]; go_cell)
  have x1_2 : w2.cell? ⟨w.heap.size, 1, none⟩ = some (.slice ao l.length cap) := (by rw [b2.cell (by first | omega | (simp; done) | (simp; omega))]; go_cell)
  have xl_2 : w.heap.size < w2.heap.size := (by have := b2.size; first | omega | (revert this; simp; done) | (revert this; simp; omega))
  have o0_2 : w2.cell? ⟨w.heap.size + 1, 0, none⟩ = some (.int .i64 k) := (by rw [b2.cell (by first | omega | (simp; done) | (simp; omega))]; go_cell)
  have o1_2 : w2.cell? ⟨w.heap.size + 1, 1, none⟩ = some (.int .i64 a) := (by rw [b2.cell (by first | omega | (simp; done) | (simp; omega))]; go_cell)
  have o2_2 : w2.cell? ⟨w.heap.size + 1, 2, none⟩ = some (.int .i64 b) := (by rw [b2.cell (by first | omega | (simp; done) | (simp; omega))]; go_cell)
  have o3_2 : w2.cell? ⟨w.heap.size + 1, 3, none⟩ = some (.int .i64 n) := (by rw [b2.cell (by first | omega | (simp; done) | (simp; omega))]; go_cell)
  have ol_2 : w.heap.size + 1 < w2.heap.size := (by have := b2.size; first | omega | (revert this; simp; done) | (revert this; simp; omega))
  have r0_2 : w2.cell? ⟨w.heap.size + 1 + 1, 0, none⟩ = some (.int .i64 0) := (by rw [b2.cell (by first | omega | (simp; done) | (simp; omega))]; go_cell)
  have rf0_2 : w2.frozen? ⟨w.heap.size + 1 + 1, 0, none⟩ = false := (by rw [b2.frozen (by first | omega | (simp; done) | (simp; omega))]; (first | go_cell | (simp [World.frozen?, World.alloc]; done) | rfl))
  have r1_2 : w2.cell? ⟨w.heap.size + 1 + 1, 1, none⟩ = some (.slice none 0 0) := (by rw [b2.cell (by first | omega | (simp; done) | (simp; omega))]; go_cell)
  have rf1_2 : w2.frozen? ⟨w.heap.size + 1 + 1, 1, none⟩ = false := (by rw [b2.frozen (by first | omega | (simp; done) | (simp; omega))]; (first | go_cell | (simp [World.frozen?, World.alloc]; done) | rfl))
  have rl_2 : w.heap.size + 1 + 1 < w2.heap.size := (by have := b2.size; first | omega | (revert this; simp; done) | (revert this; simp; omega))
  clear x0_1 x1_1 xl_1 o0_1 o1_1 o2_1 o3_1 ol_1 r0_1 rf0_1 r1_1 rf1_1 rl_1
  clear b2 d2
  go_wp2_with fail
  have e0 : ((w2.setCell ⟨w.heap.size + 1 + 1, 0, none⟩ (.int .i64 (0))).setCell ⟨w.heap.size + 1 + 1, 1, none⟩ (.slice none 0 0)).cell? ⟨w.heap.size + 1 + 1, 0, none⟩ = some (.int .i64 (0)) := by go_cell
  have e1 : ((w2.setCell ⟨w.heap.size + 1 + 1, 0, none⟩ (.int .i64 (0))).setCell ⟨w.heap.size + 1 + 1, 1, none⟩ (.slice none 0 0)).cell? ⟨w.heap.size + 1 + 1, 1, none⟩ = some (.slice none 0 0) := by go_cell
  refine bodyPost_ret (v := .agg #[.int .i64 (0), .slice none 0 0]) (by simp [results, Try.results27, go_sem, e0, e1]) rfl ⟨valA_nil _ _ _, (c2.setCell (p := ⟨w.heap.size + 1 + 1, 0, none⟩) (by show w.heap.size ≤ w.heap.size + 1 + 1; omega) _).setCell (p := ⟨w.heap.size + 1 + 1, 1, none⟩) (by show w.heap.size ≤ w.heap.size + 1 + 1; omega) _⟩

set_option maxRecDepth 100000 in
set_option maxHeartbeats 1000000 in
theorem specBack_set (k a b n m : Int) (v : Value) (l : List (Int × Int)) (w : World) (h : Rd w v l) (_ : l.length ≤ 1099511627776) (hs : setOk k a b n) (HOK : opOk k a b n = true) :
    Calls Try.prog 27 #[.agg #[.int .i64 m, v], .agg #[.int .i64 k, .int .i64 a, .int .i64 b, .int .i64 n]] w fun e w' => ValA w.heap.size w' e (0) ([]) ∧ Below w.heap.size w w' := by
  have HS := fun w => specOpOk_any k a b n w
  rw [HOK] at HS
  clear HOK
  obtain ⟨ao, cap, hv, _⟩ := h
  subst hv
  obtain ⟨rfl, -⟩ := hs
  go_enter Try.func27, Try.ntmps27
  go_wp2_with fail
  have x0_1 : (((w.alloc (.cells #[.int .i64 m, .slice ao l.length cap] 62)).alloc (.cells #[.int .i64 1, .int .i64 a, .int .i64 b, .int .i64 n] 27)).alloc (.cells #[.int .i64 0, .slice none 0 0] 62)).cell? ⟨w.heap.size, 0, none⟩ = some (.int .i64 m) := by go_cell
  have x1_1 : (((w.alloc (.cells #[.int .i64 m, .slice ao l.length cap] 62)).alloc (.cells #[.int .i64 1, .int .i64 a, .int .i64 b, .int .i64 n] 27)).alloc (.cells #[.int .i64 0, .slice none 0 0] 62)).cell? ⟨w.heap.size, 1, none⟩ = some (.slice ao l.length cap) := by go_cell
  have xl_1 : w.heap.size < (((w.alloc (.cells #[.int .i64 m, .slice ao l.length cap] 62)).alloc (.cells #[.int .i64 1, .int .i64 a, .int .i64 b, .int .i64 n] 27)).alloc (.cells #[.int .i64 0, .slice none 0 0] 62)).heap.size := by first | (simp; done) | (simp; omega)
  have o0_1 : (((w.alloc (.cells #[.int .i64 m, .slice ao l.length cap] 62)).alloc (.cells #[.int .i64 1, .int .i64 a, .int .i64 b, .int .i64 n] 27)).alloc (.cells #[.int .i64 0, .slice none 0 0] 62)).cell? ⟨w.heap.size + 1, 0, none⟩ = some (.int .i64 1) := by go_cell
  have o1_1 : (((w.alloc (.cells #[.int .i64 m, .slice ao l.length cap] 62)).alloc (.cells #[.int .i64 1, .int .i64 a, .int .i64 b, .int .i64 n] 27)).alloc (.cells #[.int .i64 0, .slice none 0 0] 62)).cell? ⟨w.heap.size + 1, 1, none⟩ = some (.int .i64 a) := by go_cell
  have o2_1 : (((w.alloc (.cells #[.int .i64 m, .slice ao l.length cap] 62)).alloc (.cells #[.int .i64 1, .int .i64 a, .int .i64 b, .int .i64 n] 27)).alloc (.cells #[.int .i64 0, .slice none 0 0] 62)).cell? ⟨w.heap.size + 1, 2, none⟩ = some (.int .i64 b) := by go_cell
  have o3_1 : (((w.alloc (.cells #[.int .i64 m, .slice ao l.length cap] 62)).alloc (.cells #[.int .i64 1, .int .i64 a, .int .i64 b, .int .i64 n] 27)).alloc (.cells #[.int .i64 0, .slice none 0 0] 62)).cell? ⟨w.heap.size + 1, 3, none⟩ = some (.int .i64 n) := by go_cell
  have ol_1 : w.heap.size + 1 < (((w.alloc (.cells #[.int .i64 m, .slice ao l.length cap] 62)).alloc (.cells #[.int .i64 1, .int .i64 a, .int .i64 b, .int .i64 n] 27)).alloc (.cells #[.int .i64 0, .slice none 0 0] 62)).heap.size := by first | (simp; done) | (simp; omega)
  have r0_1 : (((w.alloc (.cells #[.int .i64 m, .slice ao l.length cap] 62)).alloc (.cells #[.int .i64 1, .int .i64 a, .int .i64 b, .int .i64 n] 27)).alloc (.cells #[.int .i64 0, .slice none 0 0] 62)).cell? ⟨w.heap.size + 1 + 1, 0, none⟩ = some (.int .i64 0) := by go_cell
  have rf0_1 : (((w.alloc (.cells #[.int .i64 m, .slice ao l.length cap] 62)).alloc (.cells #[.int .i64 1, .int .i64 a, .int .i64 b, .int .i64 n] 27)).alloc (.cells #[.int .i64 0, .slice none 0 0] 62)).frozen? ⟨w.heap.size + 1 + 1, 0, none⟩ = false := by (first | go_cell | (simp [World.frozen?, World.alloc]; done) | rfl)
  have r1_1 : (((w.alloc (.cells #[.int .i64 m, .slice ao l.length cap] 62)).alloc (.cells #[.int .i64 1, .int .i64 a, .int .i64 b, .int .i64 n] 27)).alloc (.cells #[.int .i64 0, .slice none 0 0] 62)).cell? ⟨w.heap.size + 1 + 1, 1, none⟩ = some (.slice none 0 0) := by go_cell
  have rf1_1 : (((w.alloc (.cells #[.int .i64 m, .slice ao l.length cap] 62)).alloc (.cells #[.int .i64 1, .int .i64 a, .int .i64 b, .int .i64 n] 27)).alloc (.cells #[.int .i64 0, .slice none 0 0] 62)).frozen? ⟨w.heap.size + 1 + 1, 1, none⟩ = false := by (first | go_cell | (simp [World.frozen?, World.alloc]; done) | rfl)
  have rl_1 : w.heap.size + 1 + 1 < (((w.alloc (.cells #[.int .i64 m, .slice ao l.length cap] 62)).alloc (.cells #[.int .i64 1, .int .i64 a, .int .i64 b, .int .i64 n] 27)).alloc (.cells #[.int .i64 0, .slice none 0 0] 62)).heap.size := by first | (simp; done) | (simp; omega)
  have c1 : Below w.heap.size w (((w.alloc (.cells #[.int .i64 m, .slice ao l.length cap] 62)).alloc (.cells #[.int .i64 1, .int .i64 a, .int .i64 b, .int .i64 n] 27)).alloc (.cells #[.int .i64 0, .slice none 0 0] 62)) := by go_grown
  have s1 : (((w.alloc (.cells #[.int .i64 m, .slice ao l.length cap] 62)).alloc (.cells #[.int .i64 1, .int .i64 a, .int .i64 b, .int .i64 n] 27)).alloc (.cells #[.int .i64 0, .slice none 0 0] 62)).heap.size = w.heap.size + 3 := by simp
  generalize (((w.alloc (.cells #[.int .i64 m, .slice ao l.length cap] 62)).alloc (.cells #[.int .i64 1, .int .i64 a, .int .i64 b, .int .i64 n] 27)).alloc (.cells #[.int .i64 0, .slice none 0 0] 62)) = w1 at x0_1 x1_1 xl_1 o0_1 o1_1 o2_1 o3_1 ol_1 r0_1 rf0_1 r1_1 rf1_1 rl_1 c1 s1 ⊢
  have qx0_1 := cell_regrown x0_1
  have qx1_1 := cell_regrown x1_1
  have qo0_1 := cell_regrown o0_1
  have qo1_1 := cell_regrown o1_1
  have qo2_1 := cell_regrown o2_1
  have qo3_1 := cell_regrown o3_1
  have qr0_1 := cell_regrown r0_1
  have qr1_1 := cell_regrown r1_1
  refine (HS _).mono ?_
  rintro e w2 ⟨rfl, b2⟩
  have d2 : Below w1.heap.size w1 w2 := (Below.trans (by go_grown) (b2.mono (by first | omega | (simp; done) | (simp; omega))))
  have c2 : Below w.heap.size w w2 := c1.trans (d2.mono c1.size)
  have x0_2 : w2.cell? ⟨w.heap.size, 0, none⟩ = some (.int .i64 m) := (by rw [b2.cell (by first | omega | (simp; done) | (simp; omega))]; go_cell)
  have x1_2 : w2.cell? ⟨w.heap.size, 1, none⟩ = some (.slice ao l.length cap) := (by rw [b2.cell (by first | omega | (simp; done) | (simp; omega))]; go_cell)
  have xl_2 : w.heap.size < w2.heap.size := (by have := b2.size; first | omega | (revert this; simp; done) | (revert this; simp; omega))
  have o0_2 : w2.cell? ⟨w.heap.size + 1, 0, none⟩ = some (.int .i64 1) := (by rw [b2.cell (by first | omega | (simp; done) | (simp; omega))]; go_cell)
  have o1_2 : w2.cell? ⟨w.heap.size + 1, 1, none⟩ = some (.int .i64 a) := (by rw [b2.cell (by first | omega | (simp; done) | (simp; omega))]; go_cell)
  have o2_2 : w2.cell? ⟨w.heap.size + 1, 2, none⟩ = some (.int .i64 b) := (by rw [b2.cell (by first | omega | (simp; done) | (simp; omega))]; go_cell)
  have o3_2 : w2.cell? ⟨w.heap.size + 1, 3, none⟩ = some (.int .i64 n) := (by rw [b2.cell (by first | omega | (simp; done) | (simp; omega))]; go_cell)
  have ol_2 : w.heap.size + 1 < w2.heap.size := (by have := b2.size; first | omega | (revert this; simp; done) | (revert this; simp; omega))
  have r0_2 : w2.cell? ⟨w.heap.size + 1 + 1, 0, none⟩ = some (.int .i64 0) := (by rw [b2.cell (by first | omega | (simp; done) | (simp; omega))]; go_cell)
  have rf0_2 : w2.frozen? ⟨w.heap.size + 1 + 1, 0, none⟩ = false := (by rw [b2.frozen (by first | omega | (simp; done) | (simp; omega))]; (first | go_cell | (simp [World.frozen?, World.alloc]; done) | rfl))
  have r1_2 : w2.cell? ⟨w.heap.size + 1 + 1, 1, none⟩ = some (.slice none 0 0) := (by rw [b2.cell (by first | omega | (simp; done) | (simp; omega))]; go_cell)
  have rf1_2 : w2.frozen? ⟨w.heap.size + 1 + 1, 1, none⟩ = false := (by rw [b2.frozen (by first | omega | (simp; done) | (simp; omega))]; (first | go_cell | (simp [World.frozen?, World.alloc]; done) | rfl))
  have rl_2 : w.heap.size + 1 + 1 < w2.heap.size := (by have := b2.size; first | omega | (revert this; simp; done) | (revert this; simp; omega))
  clear x0_1 x1_1 xl_1 o0_1 o1_1 o2_1 o3_1 ol_1 r0_1 rf0_1 r1_1 rf1_1 rl_1
  clear b2 d2
  go_wp2_with fail
  have e0 : ((w2.setCell ⟨w.heap.size + 1 + 1, 0, none⟩ (.int .i64 (0))).setCell ⟨w.heap.size + 1 + 1, 1, none⟩ (.slice none 0 0)).cell? ⟨w.heap.size + 1 + 1, 0, none⟩ = some (.int .i64 (0)) := by go_cell
  have e1 : ((w2.setCell ⟨w.heap.size + 1 + 1, 0, none⟩ (.int .i64 (0))).setCell ⟨w.heap.size + 1 + 1, 1, none⟩ (.slice none 0 0)).cell? ⟨w.heap.size + 1 + 1, 1, none⟩ = some (.slice none 0 0) := by go_cell
  refine bodyPost_ret (v := .agg #[.int .i64 (0), .slice none 0 0]) (by simp [results, Try.results27, go_sem, e0, e1]) rfl ⟨valA_nil _ _ _, (c2.setCell (p := ⟨w.heap.size + 1 + 1, 0, none⟩) (by show w.heap.size ≤ w.heap.size + 1 + 1; omega) _).setCell (p := ⟨w.heap.size + 1 + 1, 1, none⟩) (by show w.heap.size ≤ w.heap.size + 1 + 1; omega) _⟩

set_option maxRecDepth 100000 in
set_option maxHeartbeats 1000000 in
theorem specBack_bind (k a b n m : Int) (v : Value) (l : List (Int × Int)) (w : World) (h : Rd w v l) (hll : l.length ≤ 1099511627776) (hs : bindOk k a b n) (HOK : opOk k a b n = true) :
    Calls Try.prog 27 #[.agg #[.int .i64 m, v], .agg #[.int .i64 k, .int .i64 a, .int .i64 b, .int .i64 n]] w fun e w' => ValA w.heap.size w' e (0) (addL l a n) ∧ Below w.heap.size w w' := by
  have HS := fun w => specOpOk_any k a b n w
  rw [HOK] at HS
  clear HOK
  have HR := hid h
  obtain ⟨ao, cap, hv, _⟩ := h
  subst hv
  have HC := hid (show (∀ (v : Value) (w : World), Rd w v l → Calls Try.prog 67 #[.agg #[.int .i64 m, v], .agg #[.int .i64 k, .int .i64 a, .int .i64 b, .int .i64 n], .int .i64 a] w fun e w' => ValA w.heap.size w' e 0 (addL l a n) ∧ Below w.heap.size w w') from fun v w hr => by
    have := specKin_any k a b n m a v l w hr hll (Or.inl rfl) (Or.inl hs)
    rwa [if_pos hs] at this)
  obtain ⟨rfl, -⟩ := hs
  obtain ⟨q, hq⟩ : ∃ q, addL l a n = q := ⟨_, rfl⟩
  have HQ := hid hq
  rw [hq] at HC
  clear hq
  go_enter Try.func27, Try.ntmps27
  go_wp2_with fail
  have x0_1 : (((w.alloc (.cells #[.int .i64 m, .slice ao l.length cap] 62)).alloc (.cells #[.int .i64 2, .int .i64 a, .int .i64 b, .int .i64 n] 27)).alloc (.cells #[.int .i64 0, .slice none 0 0] 62)).cell? ⟨w.heap.size, 0, none⟩ = some (.int .i64 m) := by go_cell
  have x1_1 : (((w.alloc (.cells #[.int .i64 m, .slice ao l.length cap] 62)).alloc (.cells #[.int .i64 2, .int .i64 a, .int .i64 b, .int .i64 n] 27)).alloc (.cells #[.int .i64 0, .slice none 0 0] 62)).cell? ⟨w.heap.size, 1, none⟩ = some (.slice ao l.length cap) := by go_cell
  have xl_1 : w.heap.size < (((w.alloc (.cells #[.int .i64 m, .slice ao l.length cap] 62)).alloc (.cells #[.int .i64 2, .int .i64 a, .int .i64 b, .int .i64 n] 27)).alloc (.cells #[.int .i64 0, .slice none 0 0] 62)).heap.size := by first | (simp; done) | (simp; omega)
  have o0_1 : (((w.alloc (.cells #[.int .i64 m, .slice ao l.length cap] 62)).alloc (.cells #[.int .i64 2, .int .i64 a, .int .i64 b, .int .i64 n] 27)).alloc (.cells #[.int .i64 0, .slice none 0 0] 62)).cell? ⟨w.heap.size + 1, 0, none⟩ = some (.int .i64 2) := by go_cell
  have o1_1 : (((w.alloc (.cells #[.int .i64 m, .slice ao l.length cap] 62)).alloc (.cells #[.int .i64 2, .int .i64 a, .int .i64 b, .int .i64 n] 27)).alloc (.cells #[.int .i64 0, .slice none 0 0] 62)).cell? ⟨w.heap.size + 1, 1, none⟩ = some (.int .i64 a) := by go_cell
  have o2_1 : (((w.alloc (.cells #[.int .i64 m, .slice ao l.length cap] 62)).alloc (.cells #[.int .i64 2, .int .i64 a, .int .i64 b, .int .i64 n] 27)).alloc (.cells #[.int .i64 0, .slice none 0 0] 62)).cell? ⟨w.heap.size + 1, 2, none⟩ = some (.int .i64 b) := by go_cell
  have o3_1 : (((w.alloc (.cells #[.int .i64 m, .slice ao l.length cap] 62)).alloc (.cells #[.int .i64 2, .int .i64 a, .int .i64 b, .int .i64 n] 27)).alloc (.cells #[.int .i64 0, .slice none 0 0] 62)).cell? ⟨w.heap.size + 1, 3, none⟩ = some (.int .i64 n) := by go_cell
  have ol_1 : w.heap.size + 1 < (((w.alloc (.cells #[.int .i64 m, .slice ao l.length cap] 62)).alloc (.cells #[.int .i64 2, .int .i64 a, .int .i64 b, .int .i64 n] 27)).alloc (.cells #[.int .i64 0, .slice none 0 0] 62)).heap.size := by first | (simp; done) | (simp; omega)
  have r0_1 : (((w.alloc (.cells #[.int .i64 m, .slice ao l.length cap] 62)).alloc (.cells #[.int .i64 2, .int .i64 a, .int .i64 b, .int .i64 n] 27)).alloc (.cells #[.int .i64 0, .slice none 0 0] 62)).cell? ⟨w.heap.size + 1 + 1, 0, none⟩ = some (.int .i64 0) := by go_cell
  have rf0_1 : (((w.alloc (.cells #[.int .i64 m, .slice ao l.length cap] 62)).alloc (.cells #[.int .i64 2, .int .i64 a, .int .i64 b, .int .i64 n] 27)).alloc (.cells #[.int .i64 0, .slice none 0 0] 62)).frozen? ⟨w.heap.size + 1 + 1, 0, none⟩ = false := by (first | go_cell | (simp [World.frozen?, World.alloc]; done) | rfl)
  have r1_1 : (((w.alloc (.cells #[.int .i64 m, .slice ao l.length cap] 62)).alloc (.cells #[.int .i64 2, .int .i64 a, .int .i64 b, .int .i64 n] 27)).alloc (.cells #[.int .i64 0, .slice none 0 0] 62)).cell? ⟨w.heap.size + 1 + 1, 1, none⟩ = some (.slice none 0 0) := by go_cell
  have rf1_1 : (((w.alloc (.cells #[.int .i64 m, .slice ao l.length cap] 62)).alloc (.cells #[.int .i64 2, .int .i64 a, .int .i64 b, .int .i64 n] 27)).alloc (.cells #[.int .i64 0, .slice none 0 0] 62)).frozen? ⟨w.heap.size + 1 + 1, 1, none⟩ = false := by (first | go_cell | (simp [World.frozen?, World.alloc]; done) | rfl)
  have rl_1 : w.heap.size + 1 + 1 < (((w.alloc (.cells #[.int .i64 m, .slice ao l.length cap] 62)).alloc (.cells #[.int .i64 2, .int .i64 a, .int .i64 b, .int .i64 n] 27)).alloc (.cells #[.int .i64 0, .slice none 0 0] 62)).heap.size := by first | (simp; done) | (simp; omega)
  have c1 : Below w.heap.size w (((w.alloc (.cells #[.int .i64 m, .slice ao l.length cap] 62)).alloc (.cells #[.int .i64 2, .int .i64 a, .int .i64 b, .int .i64 n] 27)).alloc (.cells #[.int .i64 0, .slice none 0 0] 62)) := by go_grown
  have s1 : (((w.alloc (.cells #[.int .i64 m, .slice ao l.length cap] 62)).alloc (.cells #[.int .i64 2, .int .i64 a, .int .i64 b, .int .i64 n] 27)).alloc (.cells #[.int .i64 0, .slice none 0 0] 62)).heap.size = w.heap.size + 3 := by simp
  generalize (((w.alloc (.cells #[.int .i64 m, .slice ao l.length cap] 62)).alloc (.cells #[.int .i64 2, .int .i64 a, .int .i64 b, .int .i64 n] 27)).alloc (.cells #[.int .i64 0, .slice none 0 0] 62)) = w1 at x0_1 x1_1 xl_1 o0_1 o1_1 o2_1 o3_1 ol_1 r0_1 rf0_1 r1_1 rf1_1 rl_1 c1 s1 ⊢
  have qx0_1 := cell_regrown x0_1
  have qx1_1 := cell_regrown x1_1
  have qo0_1 := cell_regrown o0_1
  have qo1_1 := cell_regrown o1_1
  have qo2_1 := cell_regrown o2_1
  have qo3_1 := cell_regrown o3_1
  have qr0_1 := cell_regrown r0_1
  have qr1_1 := cell_regrown r1_1
  refine (HS _).mono ?_
  rintro e w2 ⟨rfl, b2⟩
  have d2 : Below w1.heap.size w1 w2 := (Below.trans (by go_grown) (b2.mono (by first | omega | (simp; done) | (simp; omega))))
  have c2 : Below w.heap.size w w2 := c1.trans (d2.mono c1.size)
  have x0_2 : w2.cell? ⟨w.heap.size, 0, none⟩ = some (.int .i64 m) := (by rw [b2.cell (by first | omega | (simp; done) | (simp; omega))]; go_cell)
  have x1_2 : w2.cell? ⟨w.heap.size, 1, none⟩ = some (.slice ao l.length cap) := (by rw [b2.cell (by first | omega | (simp; done) | (simp; omega))]; go_cell)
  have xl_2 : w.heap.size < w2.heap.size := (by have := b2.size; first | omega | (revert this; simp; done) | (revert this; simp; omega))
  have o0_2 : w2.cell? ⟨w.heap.size + 1, 0, none⟩ = some (.int .i64 2) := (by rw [b2.cell (by first | omega | (simp; done) | (simp; omega))]; go_cell)
  have o1_2 : w2.cell? ⟨w.heap.size + 1, 1, none⟩ = some (.int .i64 a) := (by rw [b2.cell (by first | omega | (simp; done) | (simp; omega))]; go_cell)
  have o2_2 : w2.cell? ⟨w.heap.size + 1, 2, none⟩ = some (.int .i64 b) := (by rw [b2.cell (by first | omega | (simp; done) | (simp; omega))]; go_cell)
  have o3_2 : w2.cell? ⟨w.heap.size + 1, 3, none⟩ = some (.int .i64 n) := (by rw [b2.cell (by first | omega | (simp; done) | (simp; omega))]; go_cell)
  have ol_2 : w.heap.size + 1 < w2.heap.size := (by have := b2.size; first | omega | (revert this; simp; done) | (revert this; simp; omega))
  have r0_2 : w2.cell? ⟨w.heap.size + 1 + 1, 0, none⟩ = some (.int .i64 0) := (by rw [b2.cell (by first | omega | (simp; done) | (simp; omega))]; go_cell)
  have rf0_2 : w2.frozen? ⟨w.heap.size + 1 + 1, 0, none⟩ = false := (by rw [b2.frozen (by first | omega | (simp; done) | (simp; omega))]; (first | go_cell | (simp [World.frozen?, World.alloc]; done) | rfl))
  have r1_2 : w2.cell? ⟨w.heap.size + 1 + 1, 1, none⟩ = some (.slice none 0 0) := (by rw [b2.cell (by first | omega | (simp; done) | (simp; omega))]; go_cell)
  have rf1_2 : w2.frozen? ⟨w.heap.size + 1 + 1, 1, none⟩ = false := (by rw [b2.frozen (by first | omega | (simp; done) | (simp; omega))]; (first | go_cell | (simp [World.frozen?, World.alloc]; done) | rfl))
  have rl_2 : w.heap.size + 1 + 1 < w2.heap.size := (by have := b2.size; first | omega | (revert this; simp; done) | (revert this; simp; omega))
  clear x0_1 x1_1 xl_1 o0_1 o1_1 o2_1 o3_1 ol_1 r0_1 rf0_1 r1_1 rf1_1 rl_1
  clear b2 d2
  go_wp2_with fail
  refine (HC.out _ _ (HR.out.later c2)).mono ?_
  rintro e w3 ⟨⟨v', rfl, ho⟩, b3⟩
  have HO := hid ho
  clear ho
  have hz2 : w.heap.size + 1 + 1 < w2.heap.size := rl_2
  have d3 : Below w2.heap.size w2 w3 := (Below.trans (by go_grown) (b3.mono (by first | omega | (simp; done) | (simp; omega))))
  have c3 : Below w.heap.size w w3 := c2.trans (d3.mono c2.size)
  have r0_3 : w3.cell? ⟨w.heap.size + 1 + 1, 0, none⟩ = some (.int .i64 0) := (by rw [b3.cell (by first | omega | (simp; done) | (simp; omega))]; go_cell)
  have rf0_3 : w3.frozen? ⟨w.heap.size + 1 + 1, 0, none⟩ = false := (by rw [b3.frozen (by first | omega | (simp; done) | (simp; omega))]; (first | go_cell | (simp [World.frozen?, World.alloc]; done) | rfl))
  have r1_3 : w3.cell? ⟨w.heap.size + 1 + 1, 1, none⟩ = some (.slice none 0 0) := (by rw [b3.cell (by first | omega | (simp; done) | (simp; omega))]; go_cell)
  have rf1_3 : w3.frozen? ⟨w.heap.size + 1 + 1, 1, none⟩ = false := (by rw [b3.frozen (by first | omega | (simp; done) | (simp; omega))]; (first | go_cell | (simp [World.frozen?, World.alloc]; done) | rfl))
  have rl_3 : w.heap.size + 1 + 1 < w3.heap.size := (by have := b3.size; first | omega | (revert this; simp; done) | (revert this; simp; omega))
  clear r0_2 rf0_2 r1_2 rf1_2 rl_2
  clear b3 d3
  obtain ⟨uo, uc, huv, _⟩ := HO.out.rd
  subst huv
  go_wp2
  have e0 : ((w3.setCell ⟨w.heap.size + 1 + 1, 0, none⟩ (.int .i64 (0))).setCell ⟨w.heap.size + 1 + 1, 1, none⟩ (.slice uo q.length uc)).cell? ⟨w.heap.size + 1 + 1, 0, none⟩ = some (.int .i64 (0)) := by go_cell
  have e1 : ((w3.setCell ⟨w.heap.size + 1 + 1, 0, none⟩ (.int .i64 (0))).setCell ⟨w.heap.size + 1 + 1, 1, none⟩ (.slice uo q.length uc)).cell? ⟨w.heap.size + 1 + 1, 1, none⟩ = some (.slice uo q.length uc) := by go_cell
  have HF := hid (((HO.out.setApart (p := ⟨w.heap.size + 1 + 1, 0, none⟩) (by show w.heap.size + 1 + 1 < _; omega) (.int .i64 (0))).setApart (p := ⟨w.heap.size + 1 + 1, 1, none⟩) (by show w.heap.size + 1 + 1 < _; omega) (.slice uo q.length uc)).mono (B' := w.heap.size) (by omega))
  refine bodyPost_ret (v := .agg #[.int .i64 (0), .slice uo q.length uc]) (by simp [results, Try.results27, go_sem, e0, e1]) rfl ⟨⟨_, rfl, by rw [HQ.out]; exact HF.out⟩, (c3.setCell (p := ⟨w.heap.size + 1 + 1, 0, none⟩) (by show w.heap.size ≤ w.heap.size + 1 + 1; omega) _).setCell (p := ⟨w.heap.size + 1 + 1, 1, none⟩) (by show w.heap.size ≤ w.heap.size + 1 + 1; omega) _⟩

set_option maxRecDepth 100000 in
set_option maxHeartbeats 1000000 in
theorem specBack_part (k a b n m : Int) (v : Value) (l : List (Int × Int)) (w : World) (h : Rd w v l) (hll : l.length ≤ 1099511627776) (hs : partOk k a b n) (HOK : opOk k a b n = true) :
    Calls Try.prog 27 #[.agg #[.int .i64 m, v], .agg #[.int .i64 k, .int .i64 a, .int .i64 b, .int .i64 n]] w fun e w' => ValA w.heap.size w' e (0) (dropL l a) ∧ Below w.heap.size w w' := by
  have HS := fun w => specOpOk_any k a b n w
  rw [HOK] at HS
  clear HOK
  have HR := hid h
  obtain ⟨ao, cap, hv, _⟩ := h
  subst hv
  have HC := hid (show (∀ (v : Value) (w : World), Rd w v l → Calls Try.prog 67 #[.agg #[.int .i64 m, v], .agg #[.int .i64 k, .int .i64 a, .int .i64 b, .int .i64 n], .int .i64 a] w fun e w' => ValA w.heap.size w' e 0 (dropL l a) ∧ Below w.heap.size w w') from fun v w hr => by
    have := specKin_any k a b n m a v l w hr hll (Or.inl rfl) (Or.inr hs)
    rwa [if_neg (fun h2 => by have := hs.1; have := h2.1; omega)] at this)
  obtain ⟨rfl, -⟩ := hs
  obtain ⟨q, hq⟩ : ∃ q, dropL l a = q := ⟨_, rfl⟩
  have HQ := hid hq
  rw [hq] at HC
  clear hq
  go_enter Try.func27, Try.ntmps27
  go_wp2_with fail
  have x0_1 : (((w.alloc (.cells #[.int .i64 m, .slice ao l.length cap] 62)).alloc (.cells #[.int .i64 3, .int .i64 a, .int .i64 b, .int .i64 n] 27)).alloc (.cells #[.int .i64 0, .slice none 0 0] 62)).cell? ⟨w.heap.size, 0, none⟩ = some (.int .i64 m) := by go_cell
  have x1_1 : (((w.alloc (.cells #[.int .i64 m, .slice ao l.length cap] 62)).alloc (.cells #[.int .i64 3, .int .i64 a, .int .i64 b, .int .i64 n] 27)).alloc (.cells #[.int .i64 0, .slice none 0 0] 62)).cell? ⟨w.heap.size, 1, none⟩ = some (.slice ao l.length cap) := by go_cell
  have xl_1 : w.heap.size < (((w.alloc (.cells #[.int .i64 m, .slice ao l.length cap] 62)).alloc (.cells #[.int .i64 3, .int .i64 a, .int .i64 b, .int .i64 n] 27)).alloc (.cells #[.int .i64 0, .slice none 0 0] 62)).heap.size := by first | (simp; done) | (simp; omega)
  have o0_1 : (((w.alloc (.cells #[.int .i64 m, .slice ao l.length cap] 62)).alloc (.cells #[.int .i64 3, .int .i64 a, .int .i64 b, .int .i64 n] 27)).alloc (.cells #[.int .i64 0, .slice none 0 0] 62)).cell? ⟨w.heap.size + 1, 0, none⟩ = some (.int .i64 3) := by go_cell
  have o1_1 : (((w.alloc (.cells #[.int .i64 m, .slice ao l.length cap] 62)).alloc (.cells #[.int .i64 3, .int .i64 a, .int .i64 b, .int .i64 n] 27)).alloc (.cells #[.int .i64 0, .slice none 0 0] 62)).cell? ⟨w.heap.size + 1, 1, none⟩ = some (.int .i64 a) := by go_cell
  have o2_1 : (((w.alloc (.cells #[.int .i64 m, .slice ao l.length cap] 62)).alloc (.cells #[.int .i64 3, .int .i64 a, .int .i64 b, .int .i64 n] 27)).alloc (.cells #[.int .i64 0, .slice none 0 0] 62)).cell? ⟨w.heap.size + 1, 2, none⟩ = some (.int .i64 b) := by go_cell
  have o3_1 : (((w.alloc (.cells #[.int .i64 m, .slice ao l.length cap] 62)).alloc (.cells #[.int .i64 3, .int .i64 a, .int .i64 b, .int .i64 n] 27)).alloc (.cells #[.int .i64 0, .slice none 0 0] 62)).cell? ⟨w.heap.size + 1, 3, none⟩ = some (.int .i64 n) := by go_cell
  have ol_1 : w.heap.size + 1 < (((w.alloc (.cells #[.int .i64 m, .slice ao l.length cap] 62)).alloc (.cells #[.int .i64 3, .int .i64 a, .int .i64 b, .int .i64 n] 27)).alloc (.cells #[.int .i64 0, .slice none 0 0] 62)).heap.size := by first | (simp; done) | (simp; omega)
  have r0_1 : (((w.alloc (.cells #[.int .i64 m, .slice ao l.length cap] 62)).alloc (.cells #[.int .i64 3, .int .i64 a, .int .i64 b, .int .i64 n] 27)).alloc (.cells #[.int .i64 0, .slice none 0 0] 62)).cell? ⟨w.heap.size + 1 + 1, 0, none⟩ = some (.int .i64 0) := by go_cell
  have rf0_1 : (((w.alloc (.cells #[.int .i64 m, .slice ao l.length cap] 62)).alloc (.cells #[.int .i64 3, .int .i64 a, .int .i64 b, .int .i64 n] 27)).alloc (.cells #[.int .i64 0, .slice none 0 0] 62)).frozen? ⟨w.heap.size + 1 + 1, 0, none⟩ = false := by (first | go_cell | (simp [World.frozen?, World.alloc]; done) | rfl)
  have r1_1 : (((w.alloc (.cells #[.int .i64 m, .slice ao l.length cap] 62)).alloc (.cells #[.int .i64 3, .int .i64 a, .int .i64 b, .int .i64 n] 27)).alloc (.cells #[.int .i64 0, .slice none 0 0] 62)).cell? ⟨w.heap.size + 1 + 1, 1, none⟩ = some (.slice none 0 0) := by go_cell
  have rf1_1 : (((w.alloc (.cells #[.int .i64 m, .slice ao l.length cap] 62)).alloc (.cells #[.int .i64 3, .int .i64 a, .int .i64 b, .int .i64 n] 27)).alloc (.cells #[.int .i64 0, .slice none 0 0] 62)).frozen? ⟨w.heap.size + 1 + 1, 1, none⟩ = false := by (first | go_cell | (simp [World.frozen?, World.alloc]; done) | rfl)
  have rl_1 : w.heap.size + 1 + 1 < (((w.alloc (.cells #[.int .i64 m, .slice ao l.length cap] 62)).alloc (.cells #[.int .i64 3, .int .i64 a, .int .i64 b, .int .i64 n] 27)).alloc (.cells #[.int .i64 0, .slice none 0 0] 62)).heap.size := by first | (simp; done) | (simp; omega)
  have c1 : Below w.heap.size w (((w.alloc (.cells #[.int .i64 m, .slice ao l.length cap] 62)).alloc (.cells #[.int .i64 3, .int .i64 a, .int .i64 b, .int .i64 n] 27)).alloc (.cells #[.int .i64 0, .slice none 0 0] 62)) := by go_grown
  have s1 : (((w.alloc (.cells #[.int .i64 m, .slice ao l.length cap] 62)).alloc (.cells #[.int .i64 3, .int .i64 a, .int .i64 b, .int .i64 n] 27)).alloc (.cells #[.int .i64 0, .slice none 0 0] 62)).heap.size = w.heap.size + 3 := by simp
  generalize (((w.alloc (.cells #[.int .i64 m, .slice ao l.length cap] 62)).alloc (.cells #[.int .i64 3, .int .i64 a, .int .i64 b, .int .i64 n] 27)).alloc (.cells #[.int .i64 0, .slice none 0 0] 62)) = w1 at x0_1 x1_1 xl_1 o0_1 o1_1 o2_1 o3_1 ol_1 r0_1 rf0_1 r1_1 rf1_1 rl_1 c1 s1 ⊢
  have qx0_1 := cell_regrown x0_1
  have qx1_1 := cell_regrown x1_1
  have qo0_1 := cell_regrown o0_1
  have qo1_1 := cell_regrown o1_1
  have qo2_1 := cell_regrown o2_1
  have qo3_1 := cell_regrown o3_1
  have qr0_1 := cell_regrown r0_1
  have qr1_1 := cell_regrown r1_1
  refine (HS _).mono ?_
  rintro e w2 ⟨rfl, b2⟩
  have d2 : Below w1.heap.size w1 w2 := (Below.trans (by go_grown) (b2.mono (by first | omega | (simp; done) | (simp; omega))))
  have c2 : Below w.heap.size w w2 := c1.trans (d2.mono c1.size)
  have x0_2 : w2.cell? ⟨w.heap.size, 0, none⟩ = some (.int .i64 m) := (by rw [b2.cell (by first | omega | (simp; done) | (simp; omega))]; go_cell)
  have x1_2 : w2.cell? ⟨w.heap.size, 1, none⟩ = some (.slice ao l.length cap) := (by rw [b2.cell (by first | omega | (simp; done) | (simp; omega))]; go_cell)
  have xl_2 : w.heap.size < w2.heap.size := (by have := b2.size; first | omega | (revert this; simp; done) | (revert this; simp; omega))
  have o0_2 : w2.cell? ⟨w.heap.size + 1, 0, none⟩ = some (.int .i64 3) := (by rw [b2.cell (by first | omega | (simp; done) | (simp; omega))]; go_cell)
  have o1_2 : w2.cell? ⟨w.heap.size + 1, 1, none⟩ = some (.int .i64 a) := (by rw [b2.cell (by first | omega | (simp; done) | (simp; omega))]; go_cell)
  have o2_2 : w2.cell? ⟨w.heap.size + 1, 2, none⟩ = some (.int .i64 b) := (by rw [b2.cell (by first | omega | (simp; done) | (simp; omega))]; go_cell)
  have o3_2 : w2.cell? ⟨w.heap.size + 1, 3, none⟩ = some (.int .i64 n) := (by rw [b2.cell (by first | omega | (simp; done) | (simp; omega))]; go_cell)
  have ol_2 : w.heap.size + 1 < w2.heap.size := (by have := b2.size; first | omega | (revert this; simp; done) | (revert this; simp; omega))
  have r0_2 : w2.cell? ⟨w.heap.size + 1 + 1, 0, none⟩ = some (.int .i64 0) := (by rw [b2.cell (by first | omega | (simp; done) | (simp; omega))]; go_cell)
  have rf0_2 : w2.frozen? ⟨w.heap.size + 1 + 1, 0, none⟩ = false := (by rw [b2.frozen (by first | omega | (simp; done) | (simp; omega))]; (first | go_cell | (simp [World.frozen?, World.alloc]; done) | rfl))
  have r1_2 : w2.cell? ⟨w.heap.size + 1 + 1, 1, none⟩ = some (.slice none 0 0) := (by rw [b2.cell (by first | omega | (simp; done) | (simp; omega))]; go_cell)
  have rf1_2 : w2.frozen? ⟨w.heap.size + 1 + 1, 1, none⟩ = false := (by rw [b2.frozen (by first | omega | (simp; done) | (simp; omega))]; (first | go_cell | (simp [World.frozen?, World.alloc]; done) | rfl))
  have rl_2 : w.heap.size + 1 + 1 < w2.heap.size := (by have := b2.size; first | omega | (revert this; simp; done) | (revert this; simp; omega))
  clear x0_1 x1_1 xl_1 o0_1 o1_1 o2_1 o3_1 ol_1 r0_1 rf0_1 r1_1 rf1_1 rl_1
  clear b2 d2
  go_wp2_with fail
  refine (HC.out _ _ (HR.out.later c2)).mono ?_
  rintro e w3 ⟨⟨v', rfl, ho⟩, b3⟩
  have HO := hid ho
  clear ho
  have hz2 : w.heap.size + 1 + 1 < w2.heap.size := rl_2
  have d3 : Below w2.heap.size w2 w3 := (Below.trans (by go_grown) (b3.mono (by first | omega | (simp; done) | (simp; omega))))
  have c3 : Below w.heap.size w w3 := c2.trans (d3.mono c2.size)
  have r0_3 : w3.cell? ⟨w.heap.size + 1 + 1, 0, none⟩ = some (.int .i64 0) := (by rw [b3.cell (by first | omega | (simp; done) | (simp; omega))]; go_cell)
  have rf0_3 : w3.frozen? ⟨w.heap.size + 1 + 1, 0, none⟩ = false := (by rw [b3.frozen (by first | omega | (simp; done) | (simp; omega))]; (first | go_cell | (simp [World.frozen?, World.alloc]; done) | rfl))
  have r1_3 : w3.cell? ⟨w.heap.size + 1 + 1, 1, none⟩ = some (.slice none 0 0) := (by rw [b3.cell (by first | omega | (simp; done) | (simp; omega))]; go_cell)
  have rf1_3 : w3.frozen? ⟨w.heap.size + 1 + 1, 1, none⟩ = false := (by rw [b3.frozen (by first | omega | (simp; done) | (simp; omega))]; (first | go_cell | (simp [World.frozen?, World.alloc]; done) | rfl))
  have rl_3 : w.heap.size + 1 + 1 < w3.heap.size := (by have := b3.size; first | omega | (revert this; simp; done) | (revert this; simp; omega))
  clear r0_2 rf0_2 r1_2 rf1_2 rl_2
  clear b3 d3
  obtain ⟨uo, uc, huv, _⟩ := HO.out.rd
  subst huv
  go_wp2
  have e0 : ((w3.setCell ⟨w.heap.size + 1 + 1, 0, none⟩ (.int .i64 (0))).setCell ⟨w.heap.size + 1 + 1, 1, none⟩ (.slice uo q.length uc)).cell? ⟨w.heap.size + 1 + 1, 0, none⟩ = some (.int .i64 (0)) := by go_cell
  have e1 : ((w3.setCell ⟨w.heap.size + 1 + 1, 0, none⟩ (.int .i64 (0))).setCell ⟨w.heap.size + 1 + 1, 1, none⟩ (.slice uo q.length uc)).cell? ⟨w.heap.size + 1 + 1, 1, none⟩ = some (.slice uo q.length uc) := by go_cell
  have HF := hid (((HO.out.setApart (p := ⟨w.heap.size + 1 + 1, 0, none⟩) (by show w.heap.size + 1 + 1 < _; omega) (.int .i64 (0))).setApart (p := ⟨w.heap.size + 1 + 1, 1, none⟩) (by show w.heap.size + 1 + 1 < _; omega) (.slice uo q.length uc)).mono (B' := w.heap.size) (by omega))
  refine bodyPost_ret (v := .agg #[.int .i64 (0), .slice uo q.length uc]) (by simp [results, Try.results27, go_sem, e0, e1]) rfl ⟨⟨_, rfl, by rw [HQ.out]; exact HF.out⟩, (c3.setCell (p := ⟨w.heap.size + 1 + 1, 0, none⟩) (by show w.heap.size ≤ w.heap.size + 1 + 1; omega) _).setCell (p := ⟨w.heap.size + 1 + 1, 1, none⟩) (by show w.heap.size ≤ w.heap.size + 1 + 1; omega) _⟩

theorem specBack_any (k a b n m : Int) (v : Value) (l : List (Int × Int)) (w : World) (h : Rd w v l) (hll : l.length ≤ 1099511627776) :
    Calls Try.prog 27 #[.agg #[.int .i64 m, v], .agg #[.int .i64 k, .int .i64 a, .int .i64 b, .int .i64 n]] w fun e w' => ValA w.heap.size w' e 0 (backL k a b n l) ∧ Below w.heap.size w w' := by
  have ht : setOk k a b n → opOk k a b n = true := fun h => by simp [opOk, h]
  have hb : bindOk k a b n → opOk k a b n = true := fun h => by simp [opOk, h]
  have hp : partOk k a b n → opOk k a b n = true := fun h => by simp [opOk, h]
  rcases do_ways k a b n l with ⟨hs, -, -, e2⟩ | ⟨hs, -, -, e2⟩ | ⟨hs, -, -, e2⟩ | ⟨h1, h2, h3, -, -, e2⟩ <;> rw [e2]
  · exact specBack_set k a b n m v l w h hll hs (ht hs)
  · exact specBack_bind k a b n m v l w h hll hs (hb hs)
  · exact specBack_part k a b n m v l w h hll hs (hp hs)
  · exact specBack_no k a b n m v l w h hll (by simp [opOk, h1, h2, h3])

end Go.Proofs.Ytkmhnjgncnoddaa

/- Part: The law FnExactOpOther: its walk. -/
namespace Go.Proofs.Ytkmhnjgncnoddaa
open Go.RowKit
attribute [local go_sem ↓] Go.wp_at_zero Go.wp_at_succ

set_option maxHeartbeats 1000000 in
theorem specOther_any (k a b n : Int) (w : World) : Calls Try.prog 26 #[.agg #[.int .i64 k, .int .i64 a, .int .i64 b, .int .i64 n]] w fun e w' => e = .returned (.int .i64 (opOther k a b n)) ∧ Below w.heap.size w w' := by
  have HS := fun w => specOpOk_any k a b n w
  rcases op_ways k a b n with ⟨h, e0, -, e⟩ | ⟨h, e0, -, e⟩ | ⟨h, e0, -, e⟩ | ⟨-, -, -, e0, -, e⟩
  · rw [e]; clear e
    rw [e0] at HS; clear e0
    obtain ⟨rfl, -⟩ := h
    go_enter Try.func26, Try.ntmps26
    go_wp2_with fail
    have a0_1 : (w.alloc (.cells #[.int .i64 1, .int .i64 a, .int .i64 b, .int .i64 n] 27)).cell? ⟨w.heap.size, 0, none⟩ = some (.int .i64 1) := by go_cell
    have a1_1 : (w.alloc (.cells #[.int .i64 1, .int .i64 a, .int .i64 b, .int .i64 n] 27)).cell? ⟨w.heap.size, 1, none⟩ = some (.int .i64 a) := by go_cell
    have a2_1 : (w.alloc (.cells #[.int .i64 1, .int .i64 a, .int .i64 b, .int .i64 n] 27)).cell? ⟨w.heap.size, 2, none⟩ = some (.int .i64 b) := by go_cell
    have a3_1 : (w.alloc (.cells #[.int .i64 1, .int .i64 a, .int .i64 b, .int .i64 n] 27)).cell? ⟨w.heap.size, 3, none⟩ = some (.int .i64 n) := by go_cell
    have al_1 : w.heap.size < (w.alloc (.cells #[.int .i64 1, .int .i64 a, .int .i64 b, .int .i64 n] 27)).heap.size := by first | (simp; done) | (simp; omega)
    have c1 : Below w.heap.size w (w.alloc (.cells #[.int .i64 1, .int .i64 a, .int .i64 b, .int .i64 n] 27)) := by go_grown
    have s1 : (w.alloc (.cells #[.int .i64 1, .int .i64 a, .int .i64 b, .int .i64 n] 27)).heap.size = w.heap.size + 1 := by simp
    generalize (w.alloc (.cells #[.int .i64 1, .int .i64 a, .int .i64 b, .int .i64 n] 27)) = w1 at a0_1 a1_1 a2_1 a3_1 al_1 c1 s1 ⊢
    have qa0_1 := cell_regrown a0_1
    have qa1_1 := cell_regrown a1_1
    have qa2_1 := cell_regrown a2_1
    have qa3_1 := cell_regrown a3_1
    refine (HS _).mono ?_
    rintro e w2 ⟨rfl, b2⟩
    have d2 : Below w1.heap.size w1 w2 := (Below.trans (by go_grown) (b2.mono (by first | omega | (simp; done) | (simp; omega))))
    have c2 : Below w.heap.size w w2 := c1.trans (d2.mono c1.size)
    have a0_2 : w2.cell? ⟨w.heap.size, 0, none⟩ = some (.int .i64 1) := (by rw [b2.cell (by first | omega | (simp; done) | (simp; omega))]; go_cell)
    have a1_2 : w2.cell? ⟨w.heap.size, 1, none⟩ = some (.int .i64 a) := (by rw [b2.cell (by first | omega | (simp; done) | (simp; omega))]; go_cell)
    have a2_2 : w2.cell? ⟨w.heap.size, 2, none⟩ = some (.int .i64 b) := (by rw [b2.cell (by first | omega | (simp; done) | (simp; omega))]; go_cell)
    have a3_2 : w2.cell? ⟨w.heap.size, 3, none⟩ = some (.int .i64 n) := (by rw [b2.cell (by first | omega | (simp; done) | (simp; omega))]; go_cell)
    have al_2 : w.heap.size < w2.heap.size := (by have := b2.size; first | omega | (revert this; simp; done) | (revert this; simp; omega))
    clear a0_1 a1_1 a2_1 a3_1 al_1
    clear b2 d2 HS
    go_wp2_with fail
    go_ret
    exact ⟨by simp, by go_grown⟩
  · rw [e]; clear e
    rw [e0] at HS; clear e0
    have hk : keyOf 1 b = 8 + b := by rw [keyOf_in (by omega) (by omega) h.2.2.1.1 h.2.2.1.2]; omega
    obtain ⟨rfl, -⟩ := h
    go_enter Try.func26, Try.ntmps26
    go_wp2_with fail
    have a0_1 : (w.alloc (.cells #[.int .i64 2, .int .i64 a, .int .i64 b, .int .i64 n] 27)).cell? ⟨w.heap.size, 0, none⟩ = some (.int .i64 2) := by go_cell
    have a1_1 : (w.alloc (.cells #[.int .i64 2, .int .i64 a, .int .i64 b, .int .i64 n] 27)).cell? ⟨w.heap.size, 1, none⟩ = some (.int .i64 a) := by go_cell
    have a2_1 : (w.alloc (.cells #[.int .i64 2, .int .i64 a, .int .i64 b, .int .i64 n] 27)).cell? ⟨w.heap.size, 2, none⟩ = some (.int .i64 b) := by go_cell
    have a3_1 : (w.alloc (.cells #[.int .i64 2, .int .i64 a, .int .i64 b, .int .i64 n] 27)).cell? ⟨w.heap.size, 3, none⟩ = some (.int .i64 n) := by go_cell
    have al_1 : w.heap.size < (w.alloc (.cells #[.int .i64 2, .int .i64 a, .int .i64 b, .int .i64 n] 27)).heap.size := by first | (simp; done) | (simp; omega)
    have c1 : Below w.heap.size w (w.alloc (.cells #[.int .i64 2, .int .i64 a, .int .i64 b, .int .i64 n] 27)) := by go_grown
    have s1 : (w.alloc (.cells #[.int .i64 2, .int .i64 a, .int .i64 b, .int .i64 n] 27)).heap.size = w.heap.size + 1 := by simp
    generalize (w.alloc (.cells #[.int .i64 2, .int .i64 a, .int .i64 b, .int .i64 n] 27)) = w1 at a0_1 a1_1 a2_1 a3_1 al_1 c1 s1 ⊢
    have qa0_1 := cell_regrown a0_1
    have qa1_1 := cell_regrown a1_1
    have qa2_1 := cell_regrown a2_1
    have qa3_1 := cell_regrown a3_1
    refine (HS _).mono ?_
    rintro e w2 ⟨rfl, b2⟩
    have d2 : Below w1.heap.size w1 w2 := (Below.trans (by go_grown) (b2.mono (by first | omega | (simp; done) | (simp; omega))))
    have c2 : Below w.heap.size w w2 := c1.trans (d2.mono c1.size)
    have a0_2 : w2.cell? ⟨w.heap.size, 0, none⟩ = some (.int .i64 2) := (by rw [b2.cell (by first | omega | (simp; done) | (simp; omega))]; go_cell)
    have a1_2 : w2.cell? ⟨w.heap.size, 1, none⟩ = some (.int .i64 a) := (by rw [b2.cell (by first | omega | (simp; done) | (simp; omega))]; go_cell)
    have a2_2 : w2.cell? ⟨w.heap.size, 2, none⟩ = some (.int .i64 b) := (by rw [b2.cell (by first | omega | (simp; done) | (simp; omega))]; go_cell)
    have a3_2 : w2.cell? ⟨w.heap.size, 3, none⟩ = some (.int .i64 n) := (by rw [b2.cell (by first | omega | (simp; done) | (simp; omega))]; go_cell)
    have al_2 : w.heap.size < w2.heap.size := (by have := b2.size; first | omega | (revert this; simp; done) | (revert this; simp; omega))
    clear a0_1 a1_1 a2_1 a3_1 al_1
    clear b2 d2 HS
    go_wp2_with fail
    refine (specMake_any _ _ _).mono ?_
    rintro e w3 ⟨rfl, rfl⟩
    rw [hk]
    go_wp2
    go_ret
    exact ⟨by simp, by go_grown⟩
  · rw [e]; clear e
    rw [e0] at HS; clear e0
    have hk : keyOf 1 b = 8 + b := by rw [keyOf_in (by omega) (by omega) h.2.2.1.1 h.2.2.1.2]; omega
    obtain ⟨rfl, -⟩ := h
    go_enter Try.func26, Try.ntmps26
    go_wp2_with fail
    have a0_1 : (w.alloc (.cells #[.int .i64 3, .int .i64 a, .int .i64 b, .int .i64 n] 27)).cell? ⟨w.heap.size, 0, none⟩ = some (.int .i64 3) := by go_cell
    have a1_1 : (w.alloc (.cells #[.int .i64 3, .int .i64 a, .int .i64 b, .int .i64 n] 27)).cell? ⟨w.heap.size, 1, none⟩ = some (.int .i64 a) := by go_cell
    have a2_1 : (w.alloc (.cells #[.int .i64 3, .int .i64 a, .int .i64 b, .int .i64 n] 27)).cell? ⟨w.heap.size, 2, none⟩ = some (.int .i64 b) := by go_cell
    have a3_1 : (w.alloc (.cells #[.int .i64 3, .int .i64 a, .int .i64 b, .int .i64 n] 27)).cell? ⟨w.heap.size, 3, none⟩ = some (.int .i64 n) := by go_cell
    have al_1 : w.heap.size < (w.alloc (.cells #[.int .i64 3, .int .i64 a, .int .i64 b, .int .i64 n] 27)).heap.size := by first | (simp; done) | (simp; omega)
    have c1 : Below w.heap.size w (w.alloc (.cells #[.int .i64 3, .int .i64 a, .int .i64 b, .int .i64 n] 27)) := by go_grown
    have s1 : (w.alloc (.cells #[.int .i64 3, .int .i64 a, .int .i64 b, .int .i64 n] 27)).heap.size = w.heap.size + 1 := by simp
    generalize (w.alloc (.cells #[.int .i64 3, .int .i64 a, .int .i64 b, .int .i64 n] 27)) = w1 at a0_1 a1_1 a2_1 a3_1 al_1 c1 s1 ⊢
    have qa0_1 := cell_regrown a0_1
    have qa1_1 := cell_regrown a1_1
    have qa2_1 := cell_regrown a2_1
    have qa3_1 := cell_regrown a3_1
    refine (HS _).mono ?_
    rintro e w2 ⟨rfl, b2⟩
    have d2 : Below w1.heap.size w1 w2 := (Below.trans (by go_grown) (b2.mono (by first | omega | (simp; done) | (simp; omega))))
    have c2 : Below w.heap.size w w2 := c1.trans (d2.mono c1.size)
    have a0_2 : w2.cell? ⟨w.heap.size, 0, none⟩ = some (.int .i64 3) := (by rw [b2.cell (by first | omega | (simp; done) | (simp; omega))]; go_cell)
    have a1_2 : w2.cell? ⟨w.heap.size, 1, none⟩ = some (.int .i64 a) := (by rw [b2.cell (by first | omega | (simp; done) | (simp; omega))]; go_cell)
    have a2_2 : w2.cell? ⟨w.heap.size, 2, none⟩ = some (.int .i64 b) := (by rw [b2.cell (by first | omega | (simp; done) | (simp; omega))]; go_cell)
    have a3_2 : w2.cell? ⟨w.heap.size, 3, none⟩ = some (.int .i64 n) := (by rw [b2.cell (by first | omega | (simp; done) | (simp; omega))]; go_cell)
    have al_2 : w.heap.size < w2.heap.size := (by have := b2.size; first | omega | (revert this; simp; done) | (revert this; simp; omega))
    clear a0_1 a1_1 a2_1 a3_1 al_1
    clear b2 d2 HS
    go_wp2_with fail
    refine (specMake_any _ _ _).mono ?_
    rintro e w3 ⟨rfl, rfl⟩
    rw [hk]
    go_wp2
    go_ret
    exact ⟨by simp, by go_grown⟩
  · rw [e]; clear e
    rw [e0] at HS; clear e0
    go_enter Try.func26, Try.ntmps26
    go_wp2_with fail
    have a0_1 : (w.alloc (.cells #[.int .i64 k, .int .i64 a, .int .i64 b, .int .i64 n] 27)).cell? ⟨w.heap.size, 0, none⟩ = some (.int .i64 k) := by go_cell
    have a1_1 : (w.alloc (.cells #[.int .i64 k, .int .i64 a, .int .i64 b, .int .i64 n] 27)).cell? ⟨w.heap.size, 1, none⟩ = some (.int .i64 a) := by go_cell
    have a2_1 : (w.alloc (.cells #[.int .i64 k, .int .i64 a, .int .i64 b, .int .i64 n] 27)).cell? ⟨w.heap.size, 2, none⟩ = some (.int .i64 b) := by go_cell
    have a3_1 : (w.alloc (.cells #[.int .i64 k, .int .i64 a, .int .i64 b, .int .i64 n] 27)).cell? ⟨w.heap.size, 3, none⟩ = some (.int .i64 n) := by go_cell
    have al_1 : w.heap.size < (w.alloc (.cells #[.int .i64 k, .int .i64 a, .int .i64 b, .int .i64 n] 27)).heap.size := by first | (simp; done) | (simp; omega)
    have c1 : Below w.heap.size w (w.alloc (.cells #[.int .i64 k, .int .i64 a, .int .i64 b, .int .i64 n] 27)) := by go_grown
    have s1 : (w.alloc (.cells #[.int .i64 k, .int .i64 a, .int .i64 b, .int .i64 n] 27)).heap.size = w.heap.size + 1 := by simp
    generalize (w.alloc (.cells #[.int .i64 k, .int .i64 a, .int .i64 b, .int .i64 n] 27)) = w1 at a0_1 a1_1 a2_1 a3_1 al_1 c1 s1 ⊢
    have qa0_1 := cell_regrown a0_1
    have qa1_1 := cell_regrown a1_1
    have qa2_1 := cell_regrown a2_1
    have qa3_1 := cell_regrown a3_1
    refine (HS _).mono ?_
    rintro e w2 ⟨rfl, b2⟩
    have d2 : Below w1.heap.size w1 w2 := (Below.trans (by go_grown) (b2.mono (by first | omega | (simp; done) | (simp; omega))))
    have c2 : Below w.heap.size w w2 := c1.trans (d2.mono c1.size)
    have a0_2 : w2.cell? ⟨w.heap.size, 0, none⟩ = some (.int .i64 k) := (by rw [b2.cell (by first | omega | (simp; done) | (simp; omega))]; go_cell)
    have a1_2 : w2.cell? ⟨w.heap.size, 1, none⟩ = some (.int .i64 a) := (by rw [b2.cell (by first | omega | (simp; done) | (simp; omega))]; go_cell)
    have a2_2 : w2.cell? ⟨w.heap.size, 2, none⟩ = some (.int .i64 b) := (by rw [b2.cell (by first | omega | (simp; done) | (simp; omega))]; go_cell)
    have a3_2 : w2.cell? ⟨w.heap.size, 3, none⟩ = some (.int .i64 n) := (by rw [b2.cell (by first | omega | (simp; done) | (simp; omega))]; go_cell)
    have al_2 : w.heap.size < w2.heap.size := (by have := b2.size; first | omega | (revert this; simp; done) | (revert this; simp; omega))
    clear a0_1 a1_1 a2_1 a3_1 al_1
    clear b2 d2 HS
    go_wp2_with fail
    go_ret
    exact ⟨by simp, by go_grown⟩

end Go.Proofs.Ytkmhnjgncnoddaa

/- Part: spec.GraphDo: contract. -/
namespace Go.Proofs.Ytkmhnjgncnoddaa
open Go.RowKit
attribute [local go_sem ↓] Go.wp_at_zero Go.wp_at_succ

theorem row_put {w : World} {B : Nat} {v : Value} {n : Nat} {xs : List Value} {e : TypeId} {g : Nat} (h : w.ownsRow B e 2 v n xs) (hg : v.ownBlock = some g) (j : Nat) (x : Value) :
    (w.setCell ⟨g, j, none⟩ x).ownsRow B e 2 v n (xs.set j x) := by
  refine ⟨by rw [List.length_set]; exact h.1, ?_⟩
  rcases h.2 with ⟨rfl, _⟩ | ⟨g', cap, cur, rfl, hbg, hgg, hnc, hcm, hsz, htk⟩
  · cases hg
  · cases hg
    refine .inr ⟨g', cap, cur.setIfInBounds j x, rfl, hbg, heap_setCell_same w g' j cur _ x hgg, hnc, hcm, by simpa using hsz, ?_⟩
    rw [Array.toList_setIfInBounds, List.take_set, htk]
theorem DisX.put {xs : List Value} {n C : Nat} {x u : Value} (h : DisX xs n) (hx : xs.length = n * 2) (hC : BelX xs n C) (hu : ∀ b, u.ownBlock = some b → C ≤ b) {k : Nat} (hk : k < n) : DisX ((xs.set (k * 2) x).set (k * 2 + 1) u) n := by
  have old : ∀ i, i ≠ k → ((xs.set (k * 2) x).set (k * 2 + 1) u)[i * 2 + 1]? = xs[i * 2 + 1]? := fun i hi => by rw [List.getElem?_set_ne (by omega), List.getElem?_set_ne (by omega)]
  have new : ((xs.set (k * 2) x).set (k * 2 + 1) u)[k * 2 + 1]? = some u := List.getElem?_set_self (by rw [List.length_set]; omega)
  intro i j hi hj hij ui uj h1 h2 b hb hb'
  by_cases ei : i = k
  · have ej : j ≠ k := by omega
    rw [ei, new] at h1
    rw [old j ej] at h2
    cases h1
    have := hC j hj uj h2 b hb'
    have := hu b hb
    omega
  · rw [old i ei] at h1
    by_cases ej : j = k
    · rw [ej, new] at h2
      cases h2
      have := hC i hi ui h1 b hb
      have := hu b hb'
      omega
    · rw [old j ej] at h2
      exact h i j hi hj hij ui uj h1 h2 b hb hb'
/-- A row behind a store of one element. -/
theorem RowN.put {w : World} {B g : Nat} {v : Value} {L : List ValD} {xs : List Value} (h : RowN w B v L 24 xs) (hl : L.length = 24) (hg : v.ownBlock = some g) {k : Nat} (hk : k < 24) (n : Int) {u : Value} {l : List (Int × Int)} (hu : Own w B u l) {C : Nat} (hC : BelX xs 24 C) (hCu : ∀ b, u.ownBlock = some b → C ≤ b) :
    RowN ((w.setCell ⟨g, k * 2, none⟩ (.int .i64 n)).setCell ⟨g, k * 2 + 1, none⟩ u) B v (L.set k (n, l)) 24 ((xs.set (k * 2) (.int .i64 n)).set (k * 2 + 1) u) := by
  have hx : xs.length = 24 * 2 := h.1.1
  have hu1 : ∀ (y : Value) (m : List (Int × Int)), Own w B y m → Own ((w.setCell ⟨g, k * 2, none⟩ (.int .i64 n)).setCell ⟨g, k * 2 + 1, none⟩ u) B y m := fun y m hy => by
    have hne := own_off_row h.1 hy g hg
    exact (hy.setOther (p := ⟨g, k * 2, none⟩) hne _).setOther (p := ⟨g, k * 2 + 1, none⟩) hne _
  refine ⟨row_put (row_put h.1 hg (k * 2) _) hg (k * 2 + 1) u, fun i hi => ?_, h.3.put hx hC hCu hk⟩
  rw [getD_set (by rw [hl]; exact hk)]
  by_cases e : i = k
  · subst e
    rw [if_pos rfl, List.getElem?_set_ne (by omega), List.getElem?_set_self (by omega), List.getElem?_set_self (by rw [List.length_set]; omega)]
    exact ⟨rfl, u, rfl, hu1 _ _ hu⟩
  · rw [if_neg e, List.getElem?_set_ne (by omega), List.getElem?_set_ne (by omega), List.getElem?_set_ne (by omega), List.getElem?_set_ne (by omega)]
    obtain ⟨h0, y, h1, h2⟩ := h.2 i hi
    exact ⟨h0, y, h1, hu1 _ _ h2⟩
theorem RowN.c0 {w : World} {B g cap : Nat} {L : List ValD} {xs : List Value} (h : RowN w B (.slice (some ⟨g, 0, none⟩) 24 cap) L 24 xs) {k : Nat} (hk : k < 24) : w.cell? ⟨g, k * 2, none⟩ = some (.int .i64 (L.getD k valD0).1) :=
  (h.1.cellAt (k * 2) (by omega)).trans (h.2 k hk).1
theorem RowN.c1 {w : World} {B g cap : Nat} {L : List ValD} {xs : List Value} (h : RowN w B (.slice (some ⟨g, 0, none⟩) 24 cap) L 24 xs) {k : Nat} (hk : k < 24) : ∃ u, w.cell? ⟨g, k * 2 + 1, none⟩ = some u ∧ Own w B u (L.getD k valD0).2 := by
  obtain ⟨_, u, h1, h2⟩ := h.2 k hk
  exact ⟨u, (h.1.cellAt (k * 2 + 1) (by omega)).trans h1, h2⟩
theorem RowN.rdG {w : World} {B g cap : Nat} {L : List ValD} {xs : List Value} (h : RowN w B (.slice (some ⟨g, 0, none⟩) 24 cap) L 24 xs) (hl : L.length = 24) : RdG w (.slice (some ⟨g, 0, none⟩) 24 cap) L := by
  refine ⟨some ⟨g, 0, none⟩, cap, by rw [hl], by rw [hl]; decide, fun _ => ⟨g, 0, rfl, (h.1.lt g rfl).2, fun i hi => ?_⟩⟩
  have hi : i < 24 := by rw [← hl]; exact hi
  rw [Nat.zero_add]
  obtain ⟨u, h1, h2⟩ := h.c1 hi
  exact ⟨h.c0 hi, u, h1, h2.rd⟩
theorem specGOk_is {L : List ValD} {c : Bool} (h : okG L = c) (va : Value) (w : World) (hr : RdG w va L) :
    Calls Try.prog 21 #[.agg #[va]] w fun e w' => e = .returned (.bool c) ∧ Below w.heap.size w w' := h ▸ specGOk_any va L w hr
theorem RowN.frz {w : World} {B g cap : Nat} {L : List ValD} {xs : List Value} (h : RowN w B (.slice (some ⟨g, 0, none⟩) 24 cap) L 24 xs) (o : Nat) : w.frozen? ⟨g, o, none⟩ = false := h.1.frozenAt o

theorem RowN.mono {w : World} {B B' : Nat} {v : Value} {L : List ValD} {n : Nat} {xs : List Value} (h : RowN w B v L n xs) (hB : B' ≤ B) : RowN w B' v L n xs :=
  ⟨row_mono h.1 hB, fun i hi => by obtain ⟨h0, u, h1, h2⟩ := h.2 i hi; exact ⟨h0, u, h1, h2.mono hB⟩, h.3⟩
/-- Between two writes into the copy: its rows, and what the function still reads. -/
structure MidG (w w3 : World) (B g cp : Nat) (k a b n : Int) (M : List ValD) (wx : World) : Prop where
  row : ∃ xs, RowN wx B (.slice (some ⟨g, 0, none⟩) 24 cp) M 24 xs
  p0 : wx.cell? ⟨w3.heap.size, 0, none⟩ = some (.slice (some ⟨g, 0, none⟩) 24 cp)
  o0 : wx.cell? ⟨w.heap.size + 1, 0, none⟩ = some (.int .i64 k)
  o1 : wx.cell? ⟨w.heap.size + 1, 1, none⟩ = some (.int .i64 a)
  o2 : wx.cell? ⟨w.heap.size + 1, 2, none⟩ = some (.int .i64 b)
  o3 : wx.cell? ⟨w.heap.size + 1, 3, none⟩ = some (.int .i64 n)
  r0 : wx.cell? ⟨w.heap.size + 1 + 1, 0, none⟩ = some (.slice none 0 0)
  rf0 : wx.frozen? ⟨w.heap.size + 1 + 1, 0, none⟩ = false
  bel : Below w.heap.size w wx
  sz : w3.heap.size < wx.heap.size
theorem two_cells (w : World) (g i j : Nat) (x y : Value) (bk o : Nat) (h : bk ≠ g) :
    ((w.setCell ⟨g, i, none⟩ x).setCell ⟨g, j, none⟩ y).cell? ⟨bk, o, none⟩ = w.cell? ⟨bk, o, none⟩ ∧ ((w.setCell ⟨g, i, none⟩ x).setCell ⟨g, j, none⟩ y).frozen? ⟨bk, o, none⟩ = w.frozen? ⟨bk, o, none⟩ := by
  have hb : ((w.setCell ⟨g, i, none⟩ x).setCell ⟨g, j, none⟩ y).heap[bk]? = w.heap[bk]? := (heap_setCell_other _ ⟨g, j, none⟩ bk y h).trans (heap_setCell_other w ⟨g, i, none⟩ bk x h)
  exact ⟨World.cell?_of_block (w := w) (a := ⟨bk, o, none⟩) hb, World.frozen?_of_block (w := w) (a := ⟨bk, o, none⟩) hb⟩
theorem MidG.put {w w3 w7 : World} {B g cp J : Nat} {k a b n d : Int} {M : List ValD} {xs : List Value} {u : Value} {l : List (Int × Int)} (hK : RowN w7 B (.slice (some ⟨g, 0, none⟩) 24 cp) M 24 xs) (hl : M.length = 24) (hJ : J < 24) (hO : Own w7 B u l)
    (hp : w7.cell? ⟨w3.heap.size, 0, none⟩ = some (.slice (some ⟨g, 0, none⟩) 24 cp)) (ho0 : w7.cell? ⟨w.heap.size + 1, 0, none⟩ = some (.int .i64 k)) (ho1 : w7.cell? ⟨w.heap.size + 1, 1, none⟩ = some (.int .i64 a))
    (ho2 : w7.cell? ⟨w.heap.size + 1, 2, none⟩ = some (.int .i64 b)) (ho3 : w7.cell? ⟨w.heap.size + 1, 3, none⟩ = some (.int .i64 n)) (hr : w7.cell? ⟨w.heap.size + 1 + 1, 0, none⟩ = some (.slice none 0 0)) (hrf : w7.frozen? ⟨w.heap.size + 1 + 1, 0, none⟩ = false)
    (hc : Below w.heap.size w w7) (hg3 : g < w3.heap.size) (hB : w.heap.size + 1 + 1 < B) (hBg : B ≤ g) (hz : w3.heap.size < w7.heap.size) {C : Nat} (hC : BelX xs 24 C) (hCu : ∀ b, u.ownBlock = some b → C ≤ b) :
    MidG w w3 B g cp k a b n (M.set J (d, l)) ((w7.setCell ⟨g, J * 2, none⟩ (.int .i64 d)).setCell ⟨g, J * 2 + 1, none⟩ u) :=
  have q := fun (bk o : Nat) (hbk : bk ≠ g) => two_cells w7 g (J * 2) (J * 2 + 1) (.int .i64 d) u bk o hbk
  ⟨⟨_, hK.put hl rfl hJ d hO hC hCu⟩, (q _ 0 (by omega)).1.trans hp, (q _ 0 (by omega)).1.trans ho0, (q _ 1 (by omega)).1.trans ho1, (q _ 2 (by omega)).1.trans ho2, (q _ 3 (by omega)).1.trans ho3, (q _ 0 (by omega)).1.trans hr, (q _ 0 (by omega)).2.trans hrf,
    (hc.setCell (p := ⟨g, J * 2, none⟩) (by show w.heap.size ≤ g; omega) _).setCell (p := ⟨g, J * 2 + 1, none⟩) (by show w.heap.size ≤ g; omega) _, by simpa using hz⟩
set_option maxRecDepth 100000 in
set_option maxHeartbeats 1000000 in
theorem specGDo_not (va : Value) (L : List ValD) (k a b n : Int) (w : World) (h : RdG w va L) (hok : okG L = false) :
    Calls Try.prog 7 #[.agg #[va], .agg #[.int .i64 k, .int .i64 a, .int .i64 b, .int .i64 n]] w fun e w' => e = .returned (.tuple #[.agg #[.slice none 0 0], .bool false]) ∧ Below w.heap.size w w' := by
  have HR := hid h
  obtain ⟨ao, cap, hv, -⟩ := h
  subst hv
  go_enter Try.func7, Try.ntmps7
  go_wp2_with fail
  have x0_1 : (((w.alloc (.cells #[.slice ao L.length cap] 25)).alloc (.cells #[.int .i64 k, .int .i64 a, .int .i64 b, .int .i64 n] 27)).alloc (.cells #[.slice none 0 0] 25)).cell? ⟨w.heap.size, 0, none⟩ = some (.slice ao L.length cap) := by go_cell
  have xl_1 : w.heap.size < (((w.alloc (.cells #[.slice ao L.length cap] 25)).alloc (.cells #[.int .i64 k, .int .i64 a, .int .i64 b, .int .i64 n] 27)).alloc (.cells #[.slice none 0 0] 25)).heap.size := by first | (simp; done) | (simp; omega)
  have o0_1 : (((w.alloc (.cells #[.slice ao L.length cap] 25)).alloc (.cells #[.int .i64 k, .int .i64 a, .int .i64 b, .int .i64 n] 27)).alloc (.cells #[.slice none 0 0] 25)).cell? ⟨w.heap.size + 1, 0, none⟩ = some (.int .i64 k) := by go_cell
  have o1_1 : (((w.alloc (.cells #[.slice ao L.length cap] 25)).alloc (.cells #[.int .i64 k, .int .i64 a, .int .i64 b, .int .i64 n] 27)).alloc (.cells #[.slice none 0 0] 25)).cell? ⟨w.heap.size + 1, 1, none⟩ = some (.int .i64 a) := by go_cell
  have o2_1 : (((w.alloc (.cells #[.slice ao L.length cap] 25)).alloc (.cells #[.int .i64 k, .int .i64 a, .int .i64 b, .int .i64 n] 27)).alloc (.cells #[.slice none 0 0] 25)).cell? ⟨w.heap.size + 1, 2, none⟩ = some (.int .i64 b) := by go_cell
  have o3_1 : (((w.alloc (.cells #[.slice ao L.length cap] 25)).alloc (.cells #[.int .i64 k, .int .i64 a, .int .i64 b, .int .i64 n] 27)).alloc (.cells #[.slice none 0 0] 25)).cell? ⟨w.heap.size + 1, 3, none⟩ = some (.int .i64 n) := by go_cell
  have ol_1 : w.heap.size + 1 < (((w.alloc (.cells #[.slice ao L.length cap] 25)).alloc (.cells #[.int .i64 k, .int .i64 a, .int .i64 b, .int .i64 n] 27)).alloc (.cells #[.slice none 0 0] 25)).heap.size := by first | (simp; done) | (simp; omega)
  have r0_1 : (((w.alloc (.cells #[.slice ao L.length cap] 25)).alloc (.cells #[.int .i64 k, .int .i64 a, .int .i64 b, .int .i64 n] 27)).alloc (.cells #[.slice none 0 0] 25)).cell? ⟨w.heap.size + 1 + 1, 0, none⟩ = some (.slice none 0 0) := by go_cell
  have rf0_1 : (((w.alloc (.cells #[.slice ao L.length cap] 25)).alloc (.cells #[.int .i64 k, .int .i64 a, .int .i64 b, .int .i64 n] 27)).alloc (.cells #[.slice none 0 0] 25)).frozen? ⟨w.heap.size + 1 + 1, 0, none⟩ = false := by (first | go_cell | (simp [World.frozen?, World.alloc]; done) | rfl)
  have rl_1 : w.heap.size + 1 + 1 < (((w.alloc (.cells #[.slice ao L.length cap] 25)).alloc (.cells #[.int .i64 k, .int .i64 a, .int .i64 b, .int .i64 n] 27)).alloc (.cells #[.slice none 0 0] 25)).heap.size := by first | (simp; done) | (simp; omega)
  have c1 : Below w.heap.size w (((w.alloc (.cells #[.slice ao L.length cap] 25)).alloc (.cells #[.int .i64 k, .int .i64 a, .int .i64 b, .int .i64 n] 27)).alloc (.cells #[.slice none 0 0] 25)) := by go_grown
  have s1 : (((w.alloc (.cells #[.slice ao L.length cap] 25)).alloc (.cells #[.int .i64 k, .int .i64 a, .int .i64 b, .int .i64 n] 27)).alloc (.cells #[.slice none 0 0] 25)).heap.size = w.heap.size + 3 := by simp
  generalize (((w.alloc (.cells #[.slice ao L.length cap] 25)).alloc (.cells #[.int .i64 k, .int .i64 a, .int .i64 b, .int .i64 n] 27)).alloc (.cells #[.slice none 0 0] 25)) = w1 at x0_1 xl_1 o0_1 o1_1 o2_1 o3_1 ol_1 r0_1 rf0_1 rl_1 c1 s1 ⊢
  have qx0_1 := cell_regrown x0_1
  have qo0_1 := cell_regrown o0_1
  have qo1_1 := cell_regrown o1_1
  have qo2_1 := cell_regrown o2_1
  have qo3_1 := cell_regrown o3_1
  have qr0_1 := cell_regrown r0_1
  refine (specGOk_is hok _ _ (HR.out.later c1)).mono ?_
  rintro e w2 ⟨rfl, b2⟩
  have d2 : Below w1.heap.size w1 w2 := (Below.trans (by go_grown) (b2.mono (by first | omega | (simp; done) | (simp; omega))))
  have c2 : Below w.heap.size w w2 := c1.trans (d2.mono c1.size)
  have r0_2 : w2.cell? ⟨w.heap.size + 1 + 1, 0, none⟩ = some (.slice none 0 0) := (by rw [b2.cell (by first | omega | (simp; done) | (simp; omega))]; go_cell)
  have rf0_2 : w2.frozen? ⟨w.heap.size + 1 + 1, 0, none⟩ = false := (by rw [b2.frozen (by first | omega | (simp; done) | (simp; omega))]; (first | go_cell | (simp [World.frozen?, World.alloc]; done) | rfl))
  have rl_2 : w.heap.size + 1 + 1 < w2.heap.size := (by have := b2.size; first | omega | (revert this; simp; done) | (revert this; simp; omega))
  clear r0_1 rf0_1 rl_1
  clear b2 d2
  go_wp2
  have e0 : (w2.setCell ⟨w.heap.size + 1 + 1, 0, none⟩ (.slice none 0 0)).cell? ⟨w.heap.size + 1 + 1, 0, none⟩ = some (.slice none 0 0) := by go_cell
  refine bodyPost_ret (v := .tuple #[.agg #[.slice none 0 0], .bool false]) (by simp [results, Try.results7, go_sem, e0]) rfl ⟨rfl, c2.setCell (p := ⟨w.heap.size + 1 + 1, 0, none⟩) (by show w.heap.size ≤ w.heap.size + 1 + 1; omega) _⟩

set_option maxRecDepth 100000 in
set_option maxHeartbeats 2000000 in
theorem specGDo_no (va : Value) (L : List ValD) (k a b n : Int) (w : World) (h : RdG w va L) (hok : okG L = true) (hop : opOk k a b n = false) :
    Calls Try.prog 7 #[.agg #[va], .agg #[.int .i64 k, .int .i64 a, .int .i64 b, .int .i64 n]] w fun e w' => (∃ v xs, e = .returned (.tuple #[.agg #[v], .bool false]) ∧ RowN w' w.heap.size v L 24 xs) ∧ Below w.heap.size w w' := by
  have HS := hid (okG_true hok)
  have HG := fun (v : Value) (W : World) (hr : RdG W v L) => specGOk_is (c := true) hok v W hr
  have CO := fun W => specOpOk_any k a b n W
  rw [hop] at CO
  clear hok hop
  have HR := hid h
  obtain ⟨ao, cap, hv, -⟩ := h
  subst hv
  go_enter Try.func7, Try.ntmps7
  go_wp2_with fail
  have x0_1 : (((w.alloc (.cells #[.slice ao L.length cap] 25)).alloc (.cells #[.int .i64 k, .int .i64 a, .int .i64 b, .int .i64 n] 27)).alloc (.cells #[.slice none 0 0] 25)).cell? ⟨w.heap.size, 0, none⟩ = some (.slice ao L.length cap) := by go_cell
  have xl_1 : w.heap.size < (((w.alloc (.cells #[.slice ao L.length cap] 25)).alloc (.cells #[.int .i64 k, .int .i64 a, .int .i64 b, .int .i64 n] 27)).alloc (.cells #[.slice none 0 0] 25)).heap.size := by first | (simp; done) | (simp; omega)
  have o0_1 : (((w.alloc (.cells #[.slice ao L.length cap] 25)).alloc (.cells #[.int .i64 k, .int .i64 a, .int .i64 b, .int .i64 n] 27)).alloc (.cells #[.slice none 0 0] 25)).cell? ⟨w.heap.size + 1, 0, none⟩ = some (.int .i64 k) := by go_cell
  have o1_1 : (((w.alloc (.cells #[.slice ao L.length cap] 25)).alloc (.cells #[.int .i64 k, .int .i64 a, .int .i64 b, .int .i64 n] 27)).alloc (.cells #[.slice none 0 0] 25)).cell? ⟨w.heap.size + 1, 1, none⟩ = some (.int .i64 a) := by go_cell
  have o2_1 : (((w.alloc (.cells #[.slice ao L.length cap] 25)).alloc (.cells #[.int .i64 k, .int .i64 a, .int .i64 b, .int .i64 n] 27)).alloc (.cells #[.slice none 0 0] 25)).cell? ⟨w.heap.size + 1, 2, none⟩ = some (.int .i64 b) := by go_cell
  have o3_1 : (((w.alloc (.cells #[.slice ao L.length cap] 25)).alloc (.cells #[.int .i64 k, .int .i64 a, .int .i64 b, .int .i64 n] 27)).alloc (.cells #[.slice none 0 0] 25)).cell? ⟨w.heap.size + 1, 3, none⟩ = some (.int .i64 n) := by go_cell
  have ol_1 : w.heap.size + 1 < (((w.alloc (.cells #[.slice ao L.length cap] 25)).alloc (.cells #[.int .i64 k, .int .i64 a, .int .i64 b, .int .i64 n] 27)).alloc (.cells #[.slice none 0 0] 25)).heap.size := by first | (simp; done) | (simp; omega)
  have r0_1 : (((w.alloc (.cells #[.slice ao L.length cap] 25)).alloc (.cells #[.int .i64 k, .int .i64 a, .int .i64 b, .int .i64 n] 27)).alloc (.cells #[.slice none 0 0] 25)).cell? ⟨w.heap.size + 1 + 1, 0, none⟩ = some (.slice none 0 0) := by go_cell
  have rf0_1 : (((w.alloc (.cells #[.slice ao L.length cap] 25)).alloc (.cells #[.int .i64 k, .int .i64 a, .int .i64 b, .int .i64 n] 27)).alloc (.cells #[.slice none 0 0] 25)).frozen? ⟨w.heap.size + 1 + 1, 0, none⟩ = false := by (first | go_cell | (simp [World.frozen?, World.alloc]; done) | rfl)
  have rl_1 : w.heap.size + 1 + 1 < (((w.alloc (.cells #[.slice ao L.length cap] 25)).alloc (.cells #[.int .i64 k, .int .i64 a, .int .i64 b, .int .i64 n] 27)).alloc (.cells #[.slice none 0 0] 25)).heap.size := by first | (simp; done) | (simp; omega)
  have c1 : Below w.heap.size w (((w.alloc (.cells #[.slice ao L.length cap] 25)).alloc (.cells #[.int .i64 k, .int .i64 a, .int .i64 b, .int .i64 n] 27)).alloc (.cells #[.slice none 0 0] 25)) := by go_grown
  have s1 : (((w.alloc (.cells #[.slice ao L.length cap] 25)).alloc (.cells #[.int .i64 k, .int .i64 a, .int .i64 b, .int .i64 n] 27)).alloc (.cells #[.slice none 0 0] 25)).heap.size = w.heap.size + 3 := by simp
  generalize (((w.alloc (.cells #[.slice ao L.length cap] 25)).alloc (.cells #[.int .i64 k, .int .i64 a, .int .i64 b, .int .i64 n] 27)).alloc (.cells #[.slice none 0 0] 25)) = w1 at x0_1 xl_1 o0_1 o1_1 o2_1 o3_1 ol_1 r0_1 rf0_1 rl_1 c1 s1 ⊢
  have qx0_1 := cell_regrown x0_1
  have qo0_1 := cell_regrown o0_1
  have qo1_1 := cell_regrown o1_1
  have qo2_1 := cell_regrown o2_1
  have qo3_1 := cell_regrown o3_1
  have qr0_1 := cell_regrown r0_1
  refine (HG _ _ (HR.out.later c1)).mono ?_
  rintro e w2 ⟨rfl, b2⟩
  have d2 : Below w1.heap.size w1 w2 := (Below.trans (by go_grown) (b2.mono (by first | omega | (simp; done) | (simp; omega))))
  have c2 : Below w.heap.size w w2 := c1.trans (d2.mono c1.size)
  have x0_2 : w2.cell? ⟨w.heap.size, 0, none⟩ = some (.slice ao L.length cap) := (by rw [b2.cell (by first | omega | (simp; done) | (simp; omega))]; go_cell)
  have xl_2 : w.heap.size < w2.heap.size := (by have := b2.size; first | omega | (revert this; simp; done) | (revert this; simp; omega))
  have o0_2 : w2.cell? ⟨w.heap.size + 1, 0, none⟩ = some (.int .i64 k) := (by rw [b2.cell (by first | omega | (simp; done) | (simp; omega))]; go_cell)
  have o1_2 : w2.cell? ⟨w.heap.size + 1, 1, none⟩ = some (.int .i64 a) := (by rw [b2.cell (by first | omega | (simp; done) | (simp; omega))]; go_cell)
  have o2_2 : w2.cell? ⟨w.heap.size + 1, 2, none⟩ = some (.int .i64 b) := (by rw [b2.cell (by first | omega | (simp; done) | (simp; omega))]; go_cell)
  have o3_2 : w2.cell? ⟨w.heap.size + 1, 3, none⟩ = some (.int .i64 n) := (by rw [b2.cell (by first | omega | (simp; done) | (simp; omega))]; go_cell)
  have ol_2 : w.heap.size + 1 < w2.heap.size := (by have := b2.size; first | omega | (revert this; simp; done) | (revert this; simp; omega))
  have r0_2 : w2.cell? ⟨w.heap.size + 1 + 1, 0, none⟩ = some (.slice none 0 0) := (by rw [b2.cell (by first | omega | (simp; done) | (simp; omega))]; go_cell)
  have rf0_2 : w2.frozen? ⟨w.heap.size + 1 + 1, 0, none⟩ = false := (by rw [b2.frozen (by first | omega | (simp; done) | (simp; omega))]; (first | go_cell | (simp [World.frozen?, World.alloc]; done) | rfl))
  have rl_2 : w.heap.size + 1 + 1 < w2.heap.size := (by have := b2.size; first | omega | (revert this; simp; done) | (revert this; simp; omega))
  clear x0_1 xl_1 o0_1 o1_1 o2_1 o3_1 ol_1 r0_1 rf0_1 rl_1
  clear b2 d2
  go_wp2_with fail
  refine (l3Copy_any _ L _ (HR.out.later c2) HS.out.1 (fun k hk => by have := okL_le (HS.out.2.1.ok hk); omega)).mono ?_
  rintro e w3 ⟨⟨v, xs, rfl, hrow⟩, b3⟩
  have hB0 : w.heap.size + 1 + 1 < w2.heap.size := rl_2
  have d3 : Below w2.heap.size w2 w3 := (Below.trans (by go_grown) (b3.mono (by first | omega | (simp; done) | (simp; omega))))
  have c3 : Below w.heap.size w w3 := c2.trans (d3.mono c2.size)
  have o0_3 : w3.cell? ⟨w.heap.size + 1, 0, none⟩ = some (.int .i64 k) := (by rw [b3.cell (by first | omega | (simp; done) | (simp; omega))]; go_cell)
  have o1_3 : w3.cell? ⟨w.heap.size + 1, 1, none⟩ = some (.int .i64 a) := (by rw [b3.cell (by first | omega | (simp; done) | (simp; omega))]; go_cell)
  have o2_3 : w3.cell? ⟨w.heap.size + 1, 2, none⟩ = some (.int .i64 b) := (by rw [b3.cell (by first | omega | (simp; done) | (simp; omega))]; go_cell)
  have o3_3 : w3.cell? ⟨w.heap.size + 1, 3, none⟩ = some (.int .i64 n) := (by rw [b3.cell (by first | omega | (simp; done) | (simp; omega))]; go_cell)
  have ol_3 : w.heap.size + 1 < w3.heap.size := (by have := b3.size; first | omega | (revert this; simp; done) | (revert this; simp; omega))
  have r0_3 : w3.cell? ⟨w.heap.size + 1 + 1, 0, none⟩ = some (.slice none 0 0) := (by rw [b3.cell (by first | omega | (simp; done) | (simp; omega))]; go_cell)
  have rf0_3 : w3.frozen? ⟨w.heap.size + 1 + 1, 0, none⟩ = false := (by rw [b3.frozen (by first | omega | (simp; done) | (simp; omega))]; (first | go_cell | (simp [World.frozen?, World.alloc]; done) | rfl))
  have rl_3 : w.heap.size + 1 + 1 < w3.heap.size := (by have := b3.size; first | omega | (revert this; simp; done) | (revert this; simp; omega))
  clear o0_2 o1_2 o2_2 o3_2 ol_2 r0_2 rf0_2 rl_2
  have HK3 := hid hrow
  have hB1 := c2.size
  obtain ⟨g, cp, hv⟩ := ownsRow_succ hrow.1
  subst hv
  clear b3 hrow
  go_wp2_with fail
  have p0_4 : (w3.alloc (.cells #[.slice (some ⟨g, 0, none⟩) 24 cp] 25)).cell? ⟨w3.heap.size, 0, none⟩ = some (.slice (some ⟨g, 0, none⟩) 24 cp) := by go_cell
  have pl_4 : w3.heap.size < (w3.alloc (.cells #[.slice (some ⟨g, 0, none⟩) 24 cp] 25)).heap.size := by simp
  have d4 : Below w3.heap.size w3 (w3.alloc (.cells #[.slice (some ⟨g, 0, none⟩) 24 cp] 25)) := by go_grown
  generalize (w3.alloc (.cells #[.slice (some ⟨g, 0, none⟩) 24 cp] 25)) = w4 at p0_4 pl_4 d4 ⊢
  have c4 : Below w.heap.size w w4 := c3.trans (d4.mono c3.size)
  have r0_4 : w4.cell? ⟨w.heap.size + 1 + 1, 0, none⟩ = some (.slice none 0 0) := (by rw [d4.cell (by first | omega | (simp; done) | (simp; omega))]; go_cell)
  have rf0_4 : w4.frozen? ⟨w.heap.size + 1 + 1, 0, none⟩ = false := (by rw [d4.frozen (by first | omega | (simp; done) | (simp; omega))]; (first | go_cell | (simp [World.frozen?, World.alloc]; done) | rfl))
  have rl_4 : w.heap.size + 1 + 1 < w4.heap.size := (by have := d4.size; omega)
  clear r0_3 rf0_3 rl_3
  have HK4 := hid (HK3.out.later d4)
  clear d4 HK3
  refine (CO _).mono ?_
  rintro e w5 ⟨rfl, b5⟩
  have d5 : Below w4.heap.size w4 w5 := (Below.trans (by go_grown) (b5.mono (by first | omega | (simp; done) | (simp; omega))))
  have c5 : Below w.heap.size w w5 := c4.trans (d5.mono c4.size)
  have p0_5 : w5.cell? ⟨w3.heap.size, 0, none⟩ = some (.slice (some ⟨g, 0, none⟩) 24 cp) := (by rw [b5.cell (by first | omega | (simp; done) | (simp; omega))]; go_cell)
  have pl_5 : w3.heap.size < w5.heap.size := (by have := b5.size; first | omega | (revert this; simp; done) | (revert this; simp; omega))
  have r0_5 : w5.cell? ⟨w.heap.size + 1 + 1, 0, none⟩ = some (.slice none 0 0) := (by rw [b5.cell (by first | omega | (simp; done) | (simp; omega))]; go_cell)
  have rf0_5 : w5.frozen? ⟨w.heap.size + 1 + 1, 0, none⟩ = false := (by rw [b5.frozen (by first | omega | (simp; done) | (simp; omega))]; (first | go_cell | (simp [World.frozen?, World.alloc]; done) | rfl))
  have rl_5 : w.heap.size + 1 + 1 < w5.heap.size := (by have := b5.size; first | omega | (revert this; simp; done) | (revert this; simp; omega))
  clear p0_4 pl_4 r0_4 rf0_4 rl_4
  have HK5 := hid (HK4.out.later d5)
  clear b5 d5 HK4
  have hF := hid (HK5.out.set (p := ⟨w.heap.size + 1 + 1, 0, none⟩) (by show w.heap.size + 1 + 1 < w2.heap.size; omega) (.slice (some ⟨g, 0, none⟩) 24 cp))
  have c6 := hid (c5.setCell (p := ⟨w.heap.size + 1 + 1, 0, none⟩) (by show w.heap.size ≤ w.heap.size + 1 + 1; omega) (.slice (some ⟨g, 0, none⟩) 24 cp))
  have e0 : (w5.setCell ⟨w.heap.size + 1 + 1, 0, none⟩ (.slice (some ⟨g, 0, none⟩) 24 cp)).cell? ⟨w.heap.size + 1 + 1, 0, none⟩ = some (.slice (some ⟨g, 0, none⟩) 24 cp) := by go_cell
  go_wp2
  refine bodyPost_ret (v := .tuple #[.agg #[.slice (some ⟨g, 0, none⟩) 24 cp], .bool false]) (by simp [results, Try.results7, go_sem, e0]) rfl ⟨⟨_, _, rfl, hF.out.mono hB1⟩, c6.out⟩

set_option maxRecDepth 100000 in
set_option maxHeartbeats 4000000 in
theorem specGDo_yes (va : Value) (L : List ValD) (k a b n : Int) (w : World) (h : RdG w va L) (hok : okG L = true) (hop : opOk k a b n = true) :
    Calls Try.prog 7 #[.agg #[va], .agg #[.int .i64 k, .int .i64 a, .int .i64 b, .int .i64 n]] w fun e w' => (∃ v xs, e = .returned (.tuple #[.agg #[v], .bool true]) ∧ RowN w' w.heap.size v (doG L k a b n) 24 xs) ∧ Below w.heap.size w w' := by
  have HS := hid (okG_true hok)
  have HG := fun (v : Value) (W : World) (hr : RdG W v L) => specGOk_is (c := true) hok v W hr
  have CO := fun W => specOpOk_any k a b n W
  rw [hop] at CO
  obtain ⟨J, hJ, hJK, hW⟩ := doG_ways L hop
  have CK := fun W => specOpKey_any k a b n W
  rw [hJK] at CK
  have hW := hid hW
  clear hok hop hJK
  have HR := hid h
  obtain ⟨ao, cap, hv, -⟩ := h
  subst hv
  go_enter Try.func7, Try.ntmps7
  go_wp2_with fail
  have x0_1 : (((w.alloc (.cells #[.slice ao L.length cap] 25)).alloc (.cells #[.int .i64 k, .int .i64 a, .int .i64 b, .int .i64 n] 27)).alloc (.cells #[.slice none 0 0] 25)).cell? ⟨w.heap.size, 0, none⟩ = some (.slice ao L.length cap) := by go_cell
  have xl_1 : w.heap.size < (((w.alloc (.cells #[.slice ao L.length cap] 25)).alloc (.cells #[.int .i64 k, .int .i64 a, .int .i64 b, .int .i64 n] 27)).alloc (.cells #[.slice none 0 0] 25)).heap.size := by first | (simp; done) | (simp; omega)
  have o0_1 : (((w.alloc (.cells #[.slice ao L.length cap] 25)).alloc (.cells #[.int .i64 k, .int .i64 a, .int .i64 b, .int .i64 n] 27)).alloc (.cells #[.slice none 0 0] 25)).cell? ⟨w.heap.size + 1, 0, none⟩ = some (.int .i64 k) := by go_cell
  have o1_1 : (((w.alloc (.cells #[.slice ao L.length cap] 25)).alloc (.cells #[.int .i64 k, .int .i64 a, .int .i64 b, .int .i64 n] 27)).alloc (.cells #[.slice none 0 0] 25)).cell? ⟨w.heap.size + 1, 1, none⟩ = some (.int .i64 a) := by go_cell
  have o2_1 : (((w.alloc (.cells #[.slice ao L.length cap] 25)).alloc (.cells #[.int .i64 k, .int .i64 a, .int .i64 b, .int .i64 n] 27)).alloc (.cells #[.slice none 0 0] 25)).cell? ⟨w.heap.size + 1, 2, none⟩ = some (.int .i64 b) := by go_cell
  have o3_1 : (((w.alloc (.cells #[.slice ao L.length cap] 25)).alloc (.cells #[.int .i64 k, .int .i64 a, .int .i64 b, .int .i64 n] 27)).alloc (.cells #[.slice none 0 0] 25)).cell? ⟨w.heap.size + 1, 3, none⟩ = some (.int .i64 n) := by go_cell
  have ol_1 : w.heap.size + 1 < (((w.alloc (.cells #[.slice ao L.length cap] 25)).alloc (.cells #[.int .i64 k, .int .i64 a, .int .i64 b, .int .i64 n] 27)).alloc (.cells #[.slice none 0 0] 25)).heap.size := by first | (simp; done) | (simp; omega)
  have r0_1 : (((w.alloc (.cells #[.slice ao L.length cap] 25)).alloc (.cells #[.int .i64 k, .int .i64 a, .int .i64 b, .int .i64 n] 27)).alloc (.cells #[.slice none 0 0] 25)).cell? ⟨w.heap.size + 1 + 1, 0, none⟩ = some (.slice none 0 0) := by go_cell
  have rf0_1 : (((w.alloc (.cells #[.slice ao L.length cap] 25)).alloc (.cells #[.int .i64 k, .int .i64 a, .int .i64 b, .int .i64 n] 27)).alloc (.cells #[.slice none 0 0] 25)).frozen? ⟨w.heap.size + 1 + 1, 0, none⟩ = false := by (first | go_cell | (simp [World.frozen?, World.alloc]; done) | rfl)
  have rl_1 : w.heap.size + 1 + 1 < (((w.alloc (.cells #[.slice ao L.length cap] 25)).alloc (.cells #[.int .i64 k, .int .i64 a, .int .i64 b, .int .i64 n] 27)).alloc (.cells #[.slice none 0 0] 25)).heap.size := by first | (simp; done) | (simp; omega)
  have c1 : Below w.heap.size w (((w.alloc (.cells #[.slice ao L.length cap] 25)).alloc (.cells #[.int .i64 k, .int .i64 a, .int .i64 b, .int .i64 n] 27)).alloc (.cells #[.slice none 0 0] 25)) := by go_grown
  have s1 : (((w.alloc (.cells #[.slice ao L.length cap] 25)).alloc (.cells #[.int .i64 k, .int .i64 a, .int .i64 b, .int .i64 n] 27)).alloc (.cells #[.slice none 0 0] 25)).heap.size = w.heap.size + 3 := by simp
  generalize (((w.alloc (.cells #[.slice ao L.length cap] 25)).alloc (.cells #[.int .i64 k, .int .i64 a, .int .i64 b, .int .i64 n] 27)).alloc (.cells #[.slice none 0 0] 25)) = w1 at x0_1 xl_1 o0_1 o1_1 o2_1 o3_1 ol_1 r0_1 rf0_1 rl_1 c1 s1 ⊢
  have qx0_1 := cell_regrown x0_1
  have qo0_1 := cell_regrown o0_1
  have qo1_1 := cell_regrown o1_1
  have qo2_1 := cell_regrown o2_1
  have qo3_1 := cell_regrown o3_1
  have qr0_1 := cell_regrown r0_1
  refine (HG _ _ (HR.out.later c1)).mono ?_
  rintro e w2 ⟨rfl, b2⟩
  have d2 : Below w1.heap.size w1 w2 := (Below.trans (by go_grown) (b2.mono (by first | omega | (simp; done) | (simp; omega))))
  have c2 : Below w.heap.size w w2 := c1.trans (d2.mono c1.size)
  have x0_2 : w2.cell? ⟨w.heap.size, 0, none⟩ = some (.slice ao L.length cap) := (by rw [b2.cell (by first | omega | (simp; done) | (simp; omega))]; go_cell)
  have xl_2 : w.heap.size < w2.heap.size := (by have := b2.size; first | omega | (revert this; simp; done) | (revert this; simp; omega))
  have o0_2 : w2.cell? ⟨w.heap.size + 1, 0, none⟩ = some (.int .i64 k) := (by rw [b2.cell (by first | omega | (simp; done) | (simp; omega))]; go_cell)
  have o1_2 : w2.cell? ⟨w.heap.size + 1, 1, none⟩ = some (.int .i64 a) := (by rw [b2.cell (by first | omega | (simp; done) | (simp; omega))]; go_cell)
  have o2_2 : w2.cell? ⟨w.heap.size + 1, 2, none⟩ = some (.int .i64 b) := (by rw [b2.cell (by first | omega | (simp; done) | (simp; omega))]; go_cell)
  have o3_2 : w2.cell? ⟨w.heap.size + 1, 3, none⟩ = some (.int .i64 n) := (by rw [b2.cell (by first | omega | (simp; done) | (simp; omega))]; go_cell)
  have ol_2 : w.heap.size + 1 < w2.heap.size := (by have := b2.size; first | omega | (revert this; simp; done) | (revert this; simp; omega))
  have r0_2 : w2.cell? ⟨w.heap.size + 1 + 1, 0, none⟩ = some (.slice none 0 0) := (by rw [b2.cell (by first | omega | (simp; done) | (simp; omega))]; go_cell)
  have rf0_2 : w2.frozen? ⟨w.heap.size + 1 + 1, 0, none⟩ = false := (by rw [b2.frozen (by first | omega | (simp; done) | (simp; omega))]; (first | go_cell | (simp [World.frozen?, World.alloc]; done) | rfl))
  have rl_2 : w.heap.size + 1 + 1 < w2.heap.size := (by have := b2.size; first | omega | (revert this; simp; done) | (revert this; simp; omega))
  clear x0_1 xl_1 o0_1 o1_1 o2_1 o3_1 ol_1 r0_1 rf0_1 rl_1
  clear b2 d2
  go_wp2_with fail
  refine (l3Copy_any _ L _ (HR.out.later c2) HS.out.1 (fun k hk => by have := okL_le (HS.out.2.1.ok hk); omega)).mono ?_
  rintro e w3 ⟨⟨v, xs, rfl, hrow⟩, b3⟩
  have hB0 : w.heap.size + 1 + 1 < w2.heap.size := rl_2
  have d3 : Below w2.heap.size w2 w3 := (Below.trans (by go_grown) (b3.mono (by first | omega | (simp; done) | (simp; omega))))
  have c3 : Below w.heap.size w w3 := c2.trans (d3.mono c2.size)
  have o0_3 : w3.cell? ⟨w.heap.size + 1, 0, none⟩ = some (.int .i64 k) := (by rw [b3.cell (by first | omega | (simp; done) | (simp; omega))]; go_cell)
  have o1_3 : w3.cell? ⟨w.heap.size + 1, 1, none⟩ = some (.int .i64 a) := (by rw [b3.cell (by first | omega | (simp; done) | (simp; omega))]; go_cell)
  have o2_3 : w3.cell? ⟨w.heap.size + 1, 2, none⟩ = some (.int .i64 b) := (by rw [b3.cell (by first | omega | (simp; done) | (simp; omega))]; go_cell)
  have o3_3 : w3.cell? ⟨w.heap.size + 1, 3, none⟩ = some (.int .i64 n) := (by rw [b3.cell (by first | omega | (simp; done) | (simp; omega))]; go_cell)
  have ol_3 : w.heap.size + 1 < w3.heap.size := (by have := b3.size; first | omega | (revert this; simp; done) | (revert this; simp; omega))
  have r0_3 : w3.cell? ⟨w.heap.size + 1 + 1, 0, none⟩ = some (.slice none 0 0) := (by rw [b3.cell (by first | omega | (simp; done) | (simp; omega))]; go_cell)
  have rf0_3 : w3.frozen? ⟨w.heap.size + 1 + 1, 0, none⟩ = false := (by rw [b3.frozen (by first | omega | (simp; done) | (simp; omega))]; (first | go_cell | (simp [World.frozen?, World.alloc]; done) | rfl))
  have rl_3 : w.heap.size + 1 + 1 < w3.heap.size := (by have := b3.size; first | omega | (revert this; simp; done) | (revert this; simp; omega))
  clear o0_2 o1_2 o2_2 o3_2 ol_2 r0_2 rf0_2 rl_2
  have HK3 := hid hrow
  have hB1 := c2.size
  have hB2 := b3.size
  obtain ⟨g, cp, hv⟩ := ownsRow_succ hrow.1
  subst hv
  have hgw3 := (hrow.1.lt g rfl).2
  have hgw2 := (hrow.1.lt g rfl).1
  clear b3 hrow
  go_wp2_with fail
  have p0_4 : (w3.alloc (.cells #[.slice (some ⟨g, 0, none⟩) 24 cp] 25)).cell? ⟨w3.heap.size, 0, none⟩ = some (.slice (some ⟨g, 0, none⟩) 24 cp) := by go_cell
  have pl_4 : w3.heap.size < (w3.alloc (.cells #[.slice (some ⟨g, 0, none⟩) 24 cp] 25)).heap.size := by simp
  have d4 : Below w3.heap.size w3 (w3.alloc (.cells #[.slice (some ⟨g, 0, none⟩) 24 cp] 25)) := by go_grown
  generalize (w3.alloc (.cells #[.slice (some ⟨g, 0, none⟩) 24 cp] 25)) = w4 at p0_4 pl_4 d4 ⊢
  have c4 : Below w.heap.size w w4 := c3.trans (d4.mono c3.size)
  have o0_4 : w4.cell? ⟨w.heap.size + 1, 0, none⟩ = some (.int .i64 k) := (by rw [d4.cell (by first | omega | (simp; done) | (simp; omega))]; go_cell)
  have o1_4 : w4.cell? ⟨w.heap.size + 1, 1, none⟩ = some (.int .i64 a) := (by rw [d4.cell (by first | omega | (simp; done) | (simp; omega))]; go_cell)
  have o2_4 : w4.cell? ⟨w.heap.size + 1, 2, none⟩ = some (.int .i64 b) := (by rw [d4.cell (by first | omega | (simp; done) | (simp; omega))]; go_cell)
  have o3_4 : w4.cell? ⟨w.heap.size + 1, 3, none⟩ = some (.int .i64 n) := (by rw [d4.cell (by first | omega | (simp; done) | (simp; omega))]; go_cell)
  have ol_4 : w.heap.size + 1 < w4.heap.size := (by have := d4.size; omega)
  have r0_4 : w4.cell? ⟨w.heap.size + 1 + 1, 0, none⟩ = some (.slice none 0 0) := (by rw [d4.cell (by first | omega | (simp; done) | (simp; omega))]; go_cell)
  have rf0_4 : w4.frozen? ⟨w.heap.size + 1 + 1, 0, none⟩ = false := (by rw [d4.frozen (by first | omega | (simp; done) | (simp; omega))]; (first | go_cell | (simp [World.frozen?, World.alloc]; done) | rfl))
  have rl_4 : w.heap.size + 1 + 1 < w4.heap.size := (by have := d4.size; omega)
  clear o0_3 o1_3 o2_3 o3_3 ol_3 r0_3 rf0_3 rl_3
  have HK4 := hid (HK3.out.later d4)
  clear d4 HK3
  refine (CO _).mono ?_
  rintro e w5 ⟨rfl, b5⟩
  have d5 : Below w4.heap.size w4 w5 := (Below.trans (by go_grown) (b5.mono (by first | omega | (simp; done) | (simp; omega))))
  have c5 : Below w.heap.size w w5 := c4.trans (d5.mono c4.size)
  have p0_5 : w5.cell? ⟨w3.heap.size, 0, none⟩ = some (.slice (some ⟨g, 0, none⟩) 24 cp) := (by rw [b5.cell (by first | omega | (simp; done) | (simp; omega))]; go_cell)
  have pl_5 : w3.heap.size < w5.heap.size := (by have := b5.size; first | omega | (revert this; simp; done) | (revert this; simp; omega))
  have o0_5 : w5.cell? ⟨w.heap.size + 1, 0, none⟩ = some (.int .i64 k) := (by rw [b5.cell (by first | omega | (simp; done) | (simp; omega))]; go_cell)
  have o1_5 : w5.cell? ⟨w.heap.size + 1, 1, none⟩ = some (.int .i64 a) := (by rw [b5.cell (by first | omega | (simp; done) | (simp; omega))]; go_cell)
  have o2_5 : w5.cell? ⟨w.heap.size + 1, 2, none⟩ = some (.int .i64 b) := (by rw [b5.cell (by first | omega | (simp; done) | (simp; omega))]; go_cell)
  have o3_5 : w5.cell? ⟨w.heap.size + 1, 3, none⟩ = some (.int .i64 n) := (by rw [b5.cell (by first | omega | (simp; done) | (simp; omega))]; go_cell)
  have ol_5 : w.heap.size + 1 < w5.heap.size := (by have := b5.size; first | omega | (revert this; simp; done) | (revert this; simp; omega))
  have r0_5 : w5.cell? ⟨w.heap.size + 1 + 1, 0, none⟩ = some (.slice none 0 0) := (by rw [b5.cell (by first | omega | (simp; done) | (simp; omega))]; go_cell)
  have rf0_5 : w5.frozen? ⟨w.heap.size + 1 + 1, 0, none⟩ = false := (by rw [b5.frozen (by first | omega | (simp; done) | (simp; omega))]; (first | go_cell | (simp [World.frozen?, World.alloc]; done) | rfl))
  have rl_5 : w.heap.size + 1 + 1 < w5.heap.size := (by have := b5.size; first | omega | (revert this; simp; done) | (revert this; simp; omega))
  clear p0_4 pl_4 o0_4 o1_4 o2_4 o3_4 ol_4 r0_4 rf0_4 rl_4
  have HK5 := hid (HK4.out.later d5)
  clear b5 d5 HK4
  go_wp2_with fail
  refine (CK _).mono ?_
  rintro e w6 ⟨rfl, b6⟩
  have d6 : Below w5.heap.size w5 w6 := (Below.trans (by go_grown) (b6.mono (by first | omega | (simp; done) | (simp; omega))))
  have c6 : Below w.heap.size w w6 := c5.trans (d6.mono c5.size)
  have p0_6 : w6.cell? ⟨w3.heap.size, 0, none⟩ = some (.slice (some ⟨g, 0, none⟩) 24 cp) := (by rw [b6.cell (by first | omega | (simp; done) | (simp; omega))]; go_cell)
  have pl_6 : w3.heap.size < w6.heap.size := (by have := b6.size; first | omega | (revert this; simp; done) | (revert this; simp; omega))
  have o0_6 : w6.cell? ⟨w.heap.size + 1, 0, none⟩ = some (.int .i64 k) := (by rw [b6.cell (by first | omega | (simp; done) | (simp; omega))]; go_cell)
  have o1_6 : w6.cell? ⟨w.heap.size + 1, 1, none⟩ = some (.int .i64 a) := (by rw [b6.cell (by first | omega | (simp; done) | (simp; omega))]; go_cell)
  have o2_6 : w6.cell? ⟨w.heap.size + 1, 2, none⟩ = some (.int .i64 b) := (by rw [b6.cell (by first | omega | (simp; done) | (simp; omega))]; go_cell)
  have o3_6 : w6.cell? ⟨w.heap.size + 1, 3, none⟩ = some (.int .i64 n) := (by rw [b6.cell (by first | omega | (simp; done) | (simp; omega))]; go_cell)
  have ol_6 : w.heap.size + 1 < w6.heap.size := (by have := b6.size; first | omega | (revert this; simp; done) | (revert this; simp; omega))
  have r0_6 : w6.cell? ⟨w.heap.size + 1 + 1, 0, none⟩ = some (.slice none 0 0) := (by rw [b6.cell (by first | omega | (simp; done) | (simp; omega))]; go_cell)
  have rf0_6 : w6.frozen? ⟨w.heap.size + 1 + 1, 0, none⟩ = false := (by rw [b6.frozen (by first | omega | (simp; done) | (simp; omega))]; (first | go_cell | (simp [World.frozen?, World.alloc]; done) | rfl))
  have rl_6 : w.heap.size + 1 + 1 < w6.heap.size := (by have := b6.size; first | omega | (revert this; simp; done) | (revert this; simp; omega))
  clear p0_5 pl_5 o0_5 o1_5 o2_5 o3_5 ol_5 r0_5 rf0_5 rl_5
  have HK6 := hid (HK5.out.later d6)
  clear b6 d6 HK5
  obtain ⟨u, p1, hou⟩ := HK6.out.c1 hJ
  have p0 := HK6.out.c0 hJ
  obtain ⟨uo, uc, huv, _⟩ := hou.rd
  subst huv
  obtain ⟨m, hM⟩ : ∃ m, L.getD J valD0 = m := ⟨_, rfl⟩
  rw [hM] at p0 p1 hou
  have hml : m.2.length ≤ 1099511627776 := by have := okL_le (HS.out.2.1.ok hJ); rw [hM] at this; omega
  have HU6 := hid hou
  have hM := hid hM
  have hJI : (J : Int) < 24 := by omega
  have hg3' : g < w3.heap.size := hgw3
  clear hou
  have hB6 : w2.heap.size ≤ w6.drew.heap.size := by show w2.heap.size ≤ w6.heap.size; omega
  go_upto_region 7 with fail
  go_cut [] from 21 (fun wx => MidG w w3 w2.heap.size g cp k a b n (L.set J (doN k a b n, doL k a b n m.2)) wx)
  case first =>
    go_region_with (first
      | (go_at_call 25; go_loud (refine (specDo_any k a b n m.1 _ m.2 _ (HU6.out.rd.later (by go_grown)) hml).mono ?_; rintro e w7 ⟨⟨v7, rfl, o7⟩, b7⟩; have d7 : Below w6.heap.size w6 w7 := (Below.trans (by go_grown) (b7.mono (by first | omega | (simp; done) | (simp; omega)))); have c7 : Below w.heap.size w w7 := c6.trans (d7.mono c6.size); have p0_7 : w7.cell? ⟨w3.heap.size, 0, none⟩ = some (.slice (some ⟨g, 0, none⟩) 24 cp) := (by rw [b7.cell (by first | omega | (simp; done) | (simp; omega))]; go_cell); have pl_7 : w3.heap.size < w7.heap.size := (by have := b7.size; first | omega | (revert this; simp; done) | (revert this; simp; omega)); have o0_7 : w7.cell? ⟨w.heap.size + 1, 0, none⟩ = some (.int .i64 k) := (by rw [b7.cell (by first | omega | (simp; done) | (simp; omega))]; go_cell); have o1_7 : w7.cell? ⟨w.heap.size + 1, 1, none⟩ = some (.int .i64 a) := (by rw [b7.cell (by first | omega | (simp; done) | (simp; omega))]; go_cell); have o2_7 : w7.cell? ⟨w.heap.size + 1, 2, none⟩ = some (.int .i64 b) := (by rw [b7.cell (by first | omega | (simp; done) | (simp; omega))]; go_cell); have o3_7 : w7.cell? ⟨w.heap.size + 1, 3, none⟩ = some (.int .i64 n) := (by rw [b7.cell (by first | omega | (simp; done) | (simp; omega))]; go_cell); have ol_7 : w.heap.size + 1 < w7.heap.size := (by have := b7.size; first | omega | (revert this; simp; done) | (revert this; simp; omega)); have r0_7 : w7.cell? ⟨w.heap.size + 1 + 1, 0, none⟩ = some (.slice none 0 0) := (by rw [b7.cell (by first | omega | (simp; done) | (simp; omega))]; go_cell); have rf0_7 : w7.frozen? ⟨w.heap.size + 1 + 1, 0, none⟩ = false := (by rw [b7.frozen (by first | omega | (simp; done) | (simp; omega))]; (first | go_cell | (simp [World.frozen?, World.alloc]; done) | rfl)); have rl_7 : w.heap.size + 1 + 1 < w7.heap.size := (by have := b7.size; first | omega | (revert this; simp; done) | (revert this; simp; omega)); clear p0_6 pl_6 o0_6 o1_6 o2_6 o3_6 ol_6 r0_6 rf0_6 rl_6; have HK7 := hid (HK6.out.later d7); obtain ⟨uo7, uc7, hv7, _⟩ := o7.rd; subst hv7; have HCU := hid (show ∀ b, (Value.slice uo7 _ uc7).ownBlock = some b → w6.heap.size ≤ b from fun b hb => (o7.block b hb).1); have HO7 := hid (Own.mono o7 hB6); have y0 := HK7.out.c0 hJ; obtain ⟨y, y1, _⟩ := HK7.out.c1 hJ; have z0 := HK7.out.frz (J * 2); have z1 := HK7.out.frz (J * 2 + 1); clear o7)))
    all_goals
      have hmid := hid (MidG.put (w := w) (w3 := w3) (d := doN k a b n) HK7.out HS.out.1 hJ HO7.out p0_7 o0_7 o1_7 o2_7 o3_7 r0_7 rf0_7 c7 hg3' hB0 hgw2 (by omega) HK6.out.bel HCU.out)
      clear p0_7 o0_7 o1_7 o2_7 o3_7 r0_7 rf0_7 HK7 HO7 y0 y1 z0 z1 c7 p0 p1 HK6 HU6
      go_wp2_with fail
      go_meet
      exact hmid.out
  case rest =>
    obtain ⟨⟨xs8, HK8⟩, p0_8, o0_8, o1_8, o2_8, o3_8, r0_8, rf0_8, c8, pl_8⟩ := hcut
    have HK8 := hid HK8
    obtain ⟨w8, hw8⟩ : ∃ y, y = wc := ⟨_, rfl⟩
    subst hw8
    have ol_8 : w.heap.size + 1 < w8.heap.size := by omega
    have rl_8 : w.heap.size + 1 + 1 < w8.heap.size := by omega
    have CN := fun W => specOther_any k a b n W
    rw [← hM.out] at HK8
    rcases hW.out with ⟨hN, hD⟩ | ⟨I, hI, hne, hN, hD⟩
    case' inl =>
      rw [hN] at CN
      clear hN
      have hD := hid hD
      go_wp2_with fail
      refine (CN _).mono ?_
      rintro e w9 ⟨rfl, b9⟩
      have d9 : Below w8.heap.size w8 w9 := (Below.trans (by go_grown) (b9.mono (by first | omega | (simp; done) | (simp; omega))))
      have c9 : Below w.heap.size w w9 := c8.trans (d9.mono c8.size)
      have p0_9 : w9.cell? ⟨w3.heap.size, 0, none⟩ = some (.slice (some ⟨g, 0, none⟩) 24 cp) := (by rw [b9.cell (by first | omega | (simp; done) | (simp; omega))]; go_cell)
      have pl_9 : w3.heap.size < w9.heap.size := (by have := b9.size; first | omega | (revert this; simp; done) | (revert this; simp; omega))
      have r0_9 : w9.cell? ⟨w.heap.size + 1 + 1, 0, none⟩ = some (.slice none 0 0) := (by rw [b9.cell (by first | omega | (simp; done) | (simp; omega))]; go_cell)
      have rf0_9 : w9.frozen? ⟨w.heap.size + 1 + 1, 0, none⟩ = false := (by rw [b9.frozen (by first | omega | (simp; done) | (simp; omega))]; (first | go_cell | (simp [World.frozen?, World.alloc]; done) | rfl))
      have rl_9 : w.heap.size + 1 + 1 < w9.heap.size := (by have := b9.size; first | omega | (revert this; simp; done) | (revert this; simp; omega))
      clear p0_8 pl_8 r0_8 rf0_8 rl_8
      have HK9 := hid (HK8.out.later d9)
      clear b9 d9 HK8
      have hF := hid (HK9.out.set (p := ⟨w.heap.size + 1 + 1, 0, none⟩) (by show w.heap.size + 1 + 1 < w2.heap.size; omega) (.slice (some ⟨g, 0, none⟩) 24 cp))
      have cF := hid (c9.setCell (p := ⟨w.heap.size + 1 + 1, 0, none⟩) (by show w.heap.size ≤ w.heap.size + 1 + 1; omega) (.slice (some ⟨g, 0, none⟩) 24 cp))
      have e0 : (w9.setCell ⟨w.heap.size + 1 + 1, 0, none⟩ (.slice (some ⟨g, 0, none⟩) 24 cp)).cell? ⟨w.heap.size + 1 + 1, 0, none⟩ = some (.slice (some ⟨g, 0, none⟩) 24 cp) := by go_cell
      have hF2 := hid (hF.out.mono hB1)
      rw [← hD.out] at hF2
      go_wp2
      refine bodyPost_ret (v := .tuple #[.agg #[.slice (some ⟨g, 0, none⟩) 24 cp], .bool true]) (by simp [results, Try.results7, go_sem, e0]) rfl ⟨⟨_, _, rfl, hF2.out⟩, cF.out⟩
    case' inr =>
      rw [hN] at CN
      clear hN
      have hD := hid hD
      have hne := hid hne
      go_wp2_with fail
      refine (CN _).mono ?_
      rintro e w9 ⟨rfl, b9⟩
      have d9 : Below w8.heap.size w8 w9 := (Below.trans (by go_grown) (b9.mono (by first | omega | (simp; done) | (simp; omega))))
      have c9 : Below w.heap.size w w9 := c8.trans (d9.mono c8.size)
      have p0_9 : w9.cell? ⟨w3.heap.size, 0, none⟩ = some (.slice (some ⟨g, 0, none⟩) 24 cp) := (by rw [b9.cell (by first | omega | (simp; done) | (simp; omega))]; go_cell)
      have pl_9 : w3.heap.size < w9.heap.size := (by have := b9.size; first | omega | (revert this; simp; done) | (revert this; simp; omega))
      have o0_9 : w9.cell? ⟨w.heap.size + 1, 0, none⟩ = some (.int .i64 k) := (by rw [b9.cell (by first | omega | (simp; done) | (simp; omega))]; go_cell)
      have o1_9 : w9.cell? ⟨w.heap.size + 1, 1, none⟩ = some (.int .i64 a) := (by rw [b9.cell (by first | omega | (simp; done) | (simp; omega))]; go_cell)
      have o2_9 : w9.cell? ⟨w.heap.size + 1, 2, none⟩ = some (.int .i64 b) := (by rw [b9.cell (by first | omega | (simp; done) | (simp; omega))]; go_cell)
      have o3_9 : w9.cell? ⟨w.heap.size + 1, 3, none⟩ = some (.int .i64 n) := (by rw [b9.cell (by first | omega | (simp; done) | (simp; omega))]; go_cell)
      have ol_9 : w.heap.size + 1 < w9.heap.size := (by have := b9.size; first | omega | (revert this; simp; done) | (revert this; simp; omega))
      have r0_9 : w9.cell? ⟨w.heap.size + 1 + 1, 0, none⟩ = some (.slice none 0 0) := (by rw [b9.cell (by first | omega | (simp; done) | (simp; omega))]; go_cell)
      have rf0_9 : w9.frozen? ⟨w.heap.size + 1 + 1, 0, none⟩ = false := (by rw [b9.frozen (by first | omega | (simp; done) | (simp; omega))]; (first | go_cell | (simp [World.frozen?, World.alloc]; done) | rfl))
      have rl_9 : w.heap.size + 1 + 1 < w9.heap.size := (by have := b9.size; first | omega | (revert this; simp; done) | (revert this; simp; omega))
      clear p0_8 pl_8 o0_8 o1_8 o2_8 o3_8 ol_8 r0_8 rf0_8 rl_8
      have HK9 := hid (HK8.out.later d9)
      clear b9 d9 HK8
      obtain ⟨u2, p1, hou⟩ := HK9.out.c1 hI
      have p0 := HK9.out.c0 hI
      have hgI : (L.set J (doN k a b n, doL k a b n (L.getD J valD0).2)).getD I valD0 = L.getD I valD0 := by rw [getD_set (by rw [HS.out.1]; exact hJ), if_neg hne.out]
      rw [hgI] at p0 hou
      obtain ⟨uo2, uc2, huv, _⟩ := hou.rd
      subst huv
      have hml2 : (L.getD I valD0).2.length ≤ 1099511627776 := by have := okL_le (HS.out.2.1.ok hI); omega
      obtain ⟨q, hQ⟩ : ∃ q, L.getD I valD0 = q := ⟨_, rfl⟩
      rw [hQ] at p0 p1 hou hml2
      have hQ := hid hQ
      have HU9 := hid hou
      have hII : (I : Int) < 24 := by omega
      have hIz : (0 : Int) ≤ (I : Int) := by omega
      have hB9 : w2.heap.size ≤ w9.drew.heap.size := by show w2.heap.size ≤ w9.heap.size; omega
      have hMl : Hid ((L.set J (doN k a b n, doL k a b n (L.getD J valD0).2)).length = 24) := by show _ = _; rw [List.length_set]; exact HS.out.1
      clear hou hgI
      go_upto_region 10 with fail
      generalize L.set J (doN k a b n, doL k a b n (L.getD J valD0).2) = M8 at *
      go_cut [] from 36 (fun wx => MidG w w3 w2.heap.size g cp k a b n (M8.set I (0, backL k a b n q.2)) wx)
      case first =>
        go_region_with (first
          | (go_at_call 27; refine (specBack_any k a b n q.1 _ q.2 _ (HU9.out.rd.later (by go_grown)) hml2).mono ?_; rintro e w10 ⟨⟨v7, rfl, o7⟩, b10⟩; have d10 : Below w9.heap.size w9 w10 := (Below.trans (by go_grown) (b10.mono (by first | omega | (simp; done) | (simp; omega)))); have c10 : Below w.heap.size w w10 := c9.trans (d10.mono c9.size); have p0_10 : w10.cell? ⟨w3.heap.size, 0, none⟩ = some (.slice (some ⟨g, 0, none⟩) 24 cp) := (by rw [b10.cell (by first | omega | (simp; done) | (simp; omega))]; go_cell); have pl_10 : w3.heap.size < w10.heap.size := (by have := b10.size; first | omega | (revert this; simp; done) | (revert this; simp; omega)); have o0_10 : w10.cell? ⟨w.heap.size + 1, 0, none⟩ = some (.int .i64 k) := (by rw [b10.cell (by first | omega | (simp; done) | (simp; omega))]; go_cell); have o1_10 : w10.cell? ⟨w.heap.size + 1, 1, none⟩ = some (.int .i64 a) := (by rw [b10.cell (by first | omega | (simp; done) | (simp; omega))]; go_cell); have o2_10 : w10.cell? ⟨w.heap.size + 1, 2, none⟩ = some (.int .i64 b) := (by rw [b10.cell (by first | omega | (simp; done) | (simp; omega))]; go_cell); have o3_10 : w10.cell? ⟨w.heap.size + 1, 3, none⟩ = some (.int .i64 n) := (by rw [b10.cell (by first | omega | (simp; done) | (simp; omega))]; go_cell); have ol_10 : w.heap.size + 1 < w10.heap.size := (by have := b10.size; first | omega | (revert this; simp; done) | (revert this; simp; omega)); have r0_10 : w10.cell? ⟨w.heap.size + 1 + 1, 0, none⟩ = some (.slice none 0 0) := (by rw [b10.cell (by first | omega | (simp; done) | (simp; omega))]; go_cell); have rf0_10 : w10.frozen? ⟨w.heap.size + 1 + 1, 0, none⟩ = false := (by rw [b10.frozen (by first | omega | (simp; done) | (simp; omega))]; (first | go_cell | (simp [World.frozen?, World.alloc]; done) | rfl)); have rl_10 : w.heap.size + 1 + 1 < w10.heap.size := (by have := b10.size; first | omega | (revert this; simp; done) | (revert this; simp; omega)); clear p0_9 pl_9 o0_9 o1_9 o2_9 o3_9 ol_9 r0_9 rf0_9 rl_9; have HK10 := hid (HK9.out.later d10); obtain ⟨uo7, uc7, hv7, _⟩ := o7.rd; subst hv7; have HCU := hid (show ∀ b, (Value.slice uo7 _ uc7).ownBlock = some b → w9.heap.size ≤ b from fun b hb => (o7.block b hb).1); have HO7 := hid (Own.mono o7 hB9); have y0 := HK10.out.c0 hI; obtain ⟨y, y1, _⟩ := HK10.out.c1 hI; have z0 := HK10.out.frz (I * 2); have z1 := HK10.out.frz (I * 2 + 1); clear o7))
        all_goals
          have hmid := hid (MidG.put (w := w) (w3 := w3) (d := 0) HK10.out hMl.out hI HO7.out p0_10 o0_10 o1_10 o2_10 o3_10 r0_10 rf0_10 c10 hg3' hB0 hgw2 (by omega) HK9.out.bel HCU.out)
          clear p0_10 o0_10 o1_10 o2_10 o3_10 r0_10 rf0_10 HK10 HO7 y0 y1 z0 z1 c10 p0 p1 HK9 HU9
          go_wp2_with fail
          go_meet
          exact hmid.out
      case rest =>
        obtain ⟨⟨xs11, HK11⟩, p0_11, -, -, -, -, r0_11, rf0_11, c11, pl_11⟩ := hcut
        have HK11 := hid HK11
        obtain ⟨w11, hw11⟩ : ∃ y, y = wc := ⟨_, rfl⟩
        subst hw11
        have hF := hid (HK11.out.set (p := ⟨w.heap.size + 1 + 1, 0, none⟩) (by show w.heap.size + 1 + 1 < w2.heap.size; omega) (.slice (some ⟨g, 0, none⟩) 24 cp))
        have cF := hid (c11.setCell (p := ⟨w.heap.size + 1 + 1, 0, none⟩) (by show w.heap.size ≤ w.heap.size + 1 + 1; omega) (.slice (some ⟨g, 0, none⟩) 24 cp))
        have e0 : (w11.setCell ⟨w.heap.size + 1 + 1, 0, none⟩ (.slice (some ⟨g, 0, none⟩) 24 cp)).cell? ⟨w.heap.size + 1 + 1, 0, none⟩ = some (.slice (some ⟨g, 0, none⟩) 24 cp) := by go_cell
        have hF2 := hid (hF.out.mono hB1)
        rw [← hQ.out, ← hD.out] at hF2
        go_wp2
        refine bodyPost_ret (v := .tuple #[.agg #[.slice (some ⟨g, 0, none⟩) 24 cp], .bool true]) (by simp [results, Try.results7, go_sem, e0]) rfl ⟨⟨_, _, rfl, hF2.out⟩, cF.out⟩

/-- spec.GraphDo of a graph that is ok. -/
theorem specGDo_any (va : Value) (L : List ValD) (k a b n : Int) (w : World) (h : RdG w va L) (hok : okG L = true) :
    Calls Try.prog 7 #[.agg #[va], .agg #[.int .i64 k, .int .i64 a, .int .i64 b, .int .i64 n]] w fun e w' => (∃ v xs, e = .returned (.tuple #[.agg #[v], .bool (opOk k a b n)]) ∧ RowN w' w.heap.size v (doG L k a b n) 24 xs) ∧ Below w.heap.size w w' := by
  cases hop : opOk k a b n with
  | true => exact specGDo_yes va L k a b n w h hok hop
  | false =>
    have e : doG L k a b n = L := by
      rcases op_ways k a b n with ⟨_, e, _⟩ | ⟨_, e, _⟩ | ⟨_, e, _⟩ | ⟨h1, h2, h3, _⟩
      · rw [hop] at e; cases e
      · rw [hop] at e; cases e
      · rw [hop] at e; cases e
      · rw [doG, if_neg h1, if_neg h2, if_neg h3]
    rw [e]
    exact specGDo_no va L k a b n w h hok hop
end Go.Proofs.Ytkmhnjgncnoddaa

/- Part: What the draw of a graph wants: rows that survive the reader, and read from their own memory alone. -/
namespace Go.Proofs.Ytkmhnjgncnoddaa
open Go.RowKit

theorem row_grownOff {w w' : World} {B : Nat} {e : TypeId} {size n : Nat} {v : Value} {xs : List Value} {g : Nat} (h : w.ownsRow B e size v n xs) (hg : w.grownBy w' (some g)) (hB : g < B) : w'.ownsRow B e size v n xs := by
  refine ⟨h.1, ?_⟩
  rcases h.2 with hn | ⟨g', cap, cur, rfl, hbg, hgg, rest⟩
  · exact .inl hn
  · exact .inr ⟨g', cap, cur, rfl, hbg, (hg.block g' (Array.getElem?_eq_some_iff.1 hgg).1 (fun e => by have := Option.some.inj e; omega)).trans hgg, rest⟩
/-- A row survives what turns the reader's block alone. -/
theorem RowN.grown {w w' : World} {B g : Nat} {v : Value} {L : List ValD} {n : Nat} {xs : List Value} (h : RowN w B v L n xs) (hg : w.grownBy w' (some g)) (hB : g < B) : RowN w' B v L n xs :=
  ⟨row_grownOff h.1 hg hB, fun i hi => by
    obtain ⟨h0, u, h1, h2⟩ := h.2 i hi
    exact ⟨h0, u, h1, row_grownOff h2 hg hB⟩, h.3⟩
theorem FromG.grown {w w' : World} {B g : Nat} {v : Value} {L : List ValD} (h : FromG B w v L) (hg : w.grownBy w' (some g)) (hB : g < B) : FromG B w' v L := fun w'' hz hs =>
  h w'' (Nat.le_trans hg.size hz) (fun k hk hl => (hs k hk (Nat.lt_of_lt_of_le hl hg.size)).trans (hg.block k hl (fun e => by have := Option.some.inj e; omega)))
/-- A row of 24 reads from its own memory alone; so do its first rows. -/
theorem RowN.fromTake {w : World} {B g cap m : Nat} {L : List ValD} {xs : List Value} (h : RowN w B (.slice (some ⟨g, 0, none⟩) 24 cap) L 24 xs) (hl : L.length = 24) (hm : m ≤ 24) (cap' : Nat) :
    FromG B w (.slice (some ⟨g, 0, none⟩) m cap') (L.take m) := fun w' hz hs => by
  have hr : RowN w' B (.slice (some ⟨g, 0, none⟩) 24 cap) L 24 xs := ⟨row_same h.1 hs, fun i hi => by
    obtain ⟨h0, u, h1, h2⟩ := h.2 i hi
    exact ⟨h0, u, h1, row_same h2 hs⟩, h.3⟩
  have hlen : (L.take m).length = m := by rw [List.length_take, hl]; omega
  refine ⟨some ⟨g, 0, none⟩, cap', by rw [hlen], by rw [hlen]; unfold maxLen; omega, fun _ => ⟨g, 0, rfl, (hr.1.lt g rfl).2, fun i hi => ?_⟩⟩
  have hi : i < m := by rw [hlen] at hi; exact hi
  have hg : (L.take m).getD i valD0 = L.getD i valD0 := by rw [List.getD_eq_getElem?_getD, List.getD_eq_getElem?_getD, List.getElem?_take, if_pos hi]
  rw [hg, Nat.zero_add]
  obtain ⟨u, h1, h2⟩ := hr.c1 (k := i) (by omega)
  exact ⟨hr.c0 (by omega), u, h1, h2.rd⟩
theorem RowN.from {w : World} {B g cap : Nat} {L : List ValD} {xs : List Value} (h : RowN w B (.slice (some ⟨g, 0, none⟩) 24 cap) L 24 xs) (hl : L.length = 24) : FromG B w (.slice (some ⟨g, 0, none⟩) 24 cap) L := by
  have := h.fromTake hl (Nat.le_refl 24) cap
  rwa [List.take_of_length_le (by rw [hl]; exact Nat.le_refl _)] at this
end Go.Proofs.Ytkmhnjgncnoddaa

/- Part: The graphs' own: szGraph, toGraph, eqGraph; both GraphSame: contracts. -/
namespace Go.Proofs.Ytkmhnjgncnoddaa
open Go.RowKit
attribute [local go_sem ↓] Go.wp_at_zero Go.wp_at_succ

theorem same_two (x y : ValD) (u v : Value) (w : World) (hu : Rd w u x.2) (hv : Rd w v y.2) :
    Calls Try.prog 35 #[.agg #[.int .i64 x.1, u], .agg #[.int .i64 y.1, v]] w fun e w' => e = .returned (.bool (eqD x y)) ∧ Below w.heap.size w w' := specVSame_any _ _ _ _ _ _ _ hu hv
theorem isame_two (x y : ValD) (u v : Value) (w : World) (hu : Rd w u x.2) (hv : Rd w v y.2) :
    Calls Try.prog 29 #[.agg #[.int .i64 x.1, u], .agg #[.int .i64 y.1, v]] w fun e w' => e = .returned (.bool (eqD x y)) ∧ Below w.heap.size w w' := implVSame_any _ _ _ _ _ _ _ hu hv

set_option maxRecDepth 100000 in
set_option maxHeartbeats 1000000 in
theorem equalF_any (va vb : Value) (la lb : List ValD) (w : World) (ha : RdG w va la) (hb : RdG w vb lb) :
    Calls Try.prog 28 #[va, vb, .func (.func 29) #[] #[]] w fun e w' => e = .returned (.bool (eqG la lb)) ∧ Below w.heap.size w w' := by
  obtain ⟨aa, ca, rfl, hla, hca⟩ := ha
  obtain ⟨ab, cb, rfl, hlb, hcb⟩ := hb
  unfold maxLen at hla hlb
  by_cases hne : ((la.length : Int) != (lb.length : Int)) = true
  · have : la ≠ lb := fun h => by simp [h] at hne
    go_enter Try.func28, Try.ntmps28
    go_wp2
    go_ret
    exact ⟨by simp [eqG_no this], by go_grown⟩
  · have hlen : la.length = lb.length := by simp at hne; omega
    have HL : Hid (la.length = lb.length) := hlen
    clear hlen
    go_enter Try.func28, Try.ntmps28
    go_wp2
    go_loopw [17] (fun i wr => ∃ k : Nat, k ≤ la.length ∧ i = .int .i64 k ∧ Hid (la.take k = lb.take k) ∧ Below w.heap.size w wr) (fun i _ => la.length - (intOf i).toNat)
    case atStart => exact ⟨0, Nat.zero_le _, rfl, rfl, Below.refl _ _⟩
    case round =>
      obtain ⟨k, hk, rfl, hpre, hbel⟩ := hrel
      have hsz := hbel.size
      by_cases hlt : k < la.length
      · obtain ⟨ba, oa, rfl, hba, hcca⟩ := hca (by omega)
        obtain ⟨bb, ob, rfl, hbb, hccb⟩ := hcb (by have := HL.out; omega)
        obtain ⟨c0, ua, c1', hua⟩ := hcca k hlt
        obtain ⟨d0, ub, d1, hub⟩ := hccb k (by have := HL.out; omega)
        rw [← hbel.cell (p := ⟨ba, oa + k * 2, none⟩) hba] at c0
        rw [← hbel.cell (p := ⟨ba, oa + k * 2 + 1, none⟩) hba] at c1'
        rw [← hbel.cell (p := ⟨bb, ob + k * 2, none⟩) hbb] at d0
        rw [← hbel.cell (p := ⟨bb, ob + k * 2 + 1, none⟩) hbb] at d1
        have hkb : (k : Int) < (lb.length : Int) := by have := HL.out; omega
        have HUA := hid (hua.later hbel)
        have HUB := hid (hub.later hbel)
        have hba' : ba < wr.heap.size := by omega
        have hbb' : bb < wr.heap.size := by omega
        have hnext : Hid (la.getD k valD0 = lb.getD k valD0 → la.take (k + 1) = lb.take (k + 1)) := hid (fun h => take_more la lb valD0 k hlt (by have := HL.out; omega) hpre h)
        have hdiff : Hid (¬ la.getD k valD0 = lb.getD k valD0 → eqG la lb = false) := hid (fun h => eqG_no (fun e => h (by rw [e])))
        obtain ⟨uao, uac, huav, _⟩ := HUA.out
        obtain ⟨ubo, ubc, hubv, _⟩ := HUB.out
        subst huav
        subst hubv
        clear hcca hccb hca hcb hua hub
        generalize la.getD k valD0 = x at *
        generalize lb.getD k valD0 = y at *
        go_wp2_with fail
        refine (isame_two x y _ _ _ (HUA.out.later (by go_grown)) (HUB.out.later (by go_grown))).mono ?_
        rintro e w2 ⟨rfl, b2⟩
        have d2 : Below wr.heap.size wr w2 := (Below.trans (by go_grown) (b2.mono (by first | omega | (simp; done) | (simp; omega))))
        have c2 := hbel.trans (d2.mono hsz)
        clear b2 d2
        cases hxy : eqD x y with
        | true =>
          have hN := hid (hnext.out (eqD_iff.1 hxy))
          clear hnext hdiff
          go_wp2
          go_roundw
          case rel => exact ⟨k + 1, by omega, by go_num, hN, c2⟩
          case measure => simp [intOf]; omega
        | false =>
          have hN := hid (hdiff.out (fun e => by rw [eqD_iff.2 e] at hxy; cases hxy))
          clear hnext hdiff
          go_wp2
          go_ret
          exact ⟨by simp [hN.out], c2⟩
      · have hall : eqG la lb = true := eqG_yes (by have h1 := HL.out; have h2 := hpre.out; rwa [List.take_of_length_le (by omega), List.take_of_length_le (by omega)] at h2)
        go_wp2
        go_ret
        exact ⟨by simp [hall], hbel⟩

set_option maxHeartbeats 1000000 in
theorem implGSame_any (va vb : Value) (la lb : List ValD) (w : World) (ha : RdG w va la) (hb : RdG w vb lb) :
    Calls Try.prog 8 #[.agg #[va], .agg #[vb]] w fun e w' => e = .returned (.bool (eqG la lb)) ∧ Below w.heap.size w w' := by
  have HA := hid ha
  have HB := hid hb
  obtain ⟨ao, cap, hv, _⟩ := ha
  subst hv
  obtain ⟨bo, cbp, hv, _⟩ := hb
  subst hv
  go_enter Try.func8, Try.ntmps8
  go_wp2_with fail
  refine (equalF_any _ _ la lb _ (HA.out.later (by go_grown)) (HB.out.later (by go_grown))).mono ?_
  rintro e w1 ⟨rfl, b1⟩
  have c1 : Below w.heap.size w w1 := (Below.trans (by go_grown) (b1.mono (by first | omega | (simp; done) | (simp; omega))))
  go_wp2
  go_ret
  exact ⟨by simp, c1⟩
end Go.Proofs.Ytkmhnjgncnoddaa

/- Part: A graph of 24 rows without kin: both GraphOpen, markGraph, heldGraph of such: contracts. -/
namespace Go.Proofs.Ytkmhnjgncnoddaa
open Go.RowKit
attribute [local go_sem ↓] Go.wp_at_zero Go.wp_at_succ

/-- 24 values without kin lie in block g; their numbers are F's. -/
structure ZG (w : World) (g : Nat) (F : Nat → Int) : Prop where
  num : ∀ j, j < 24 → w.cell? ⟨g, j * 2, none⟩ = some (.int .i64 (F j))
  kin : ∀ j, j < 24 → w.cell? ⟨g, j * 2 + 1, none⟩ = some (.slice none 0 0)
  frz : ∀ o, w.frozen? ⟨g, o, none⟩ = false
  lt : g < w.heap.size
theorem ZG.later {w w' : World} {g : Nat} {F : Nat → Int} (h : ZG w g F) (hb : Below w.heap.size w w') : ZG w' g F :=
  ⟨fun j hj => (hb.cell (p := ⟨g, j * 2, none⟩) h.lt).trans (h.num j hj), fun j hj => (hb.cell (p := ⟨g, j * 2 + 1, none⟩) h.lt).trans (h.kin j hj), fun o => (hb.frozen (p := ⟨g, o, none⟩) h.lt).trans (h.frz o), Nat.lt_of_lt_of_le h.lt hb.size⟩
theorem ZG.kept {w w' : World} {g r : Nat} {F : Nat → Int} (h : ZG w g F) (hg : w.grownBy w' (some r)) (hne : g ≠ r) : ZG w' g F :=
  ⟨fun j hj => hg.cell (h.num j hj) (fun e => hne (Option.some.inj e)), fun j hj => hg.cell (h.kin j hj) (fun e => hne (Option.some.inj e)), fun o => (World.frozen?_of_block (w := w) (a := ⟨g, o, none⟩) (hg.block g h.lt (fun e => hne (Option.some.inj e)))).trans (h.frz o), Nat.lt_of_lt_of_le h.lt hg.size⟩
theorem grownZ {w w' w'' : World} {row : Option Nat} (h : w.grownBy w' row) (k : w'.grownBy w'' row) : w.grownBy w'' row :=
  ⟨k.os.trans h.os, k.tape.trans h.tape, k.output.trans h.output, Nat.le_trans h.size k.size, fun i hi hne => (k.block i (Nat.lt_of_lt_of_le hi h.size) hne).trans (h.block i hi hne)⟩
theorem grownN {w w' : World} {row : Option Nat} (h : w.grownBy w' none) : w.grownBy w' row := ⟨h.os, h.tape, h.output, h.size, fun k hk _ => h.block k hk (by simp)⟩
theorem grown_setZ (w : World) (a : Addr) (v : Value) : w.grownBy (w.setCell a v) (some a.block) :=
  ⟨rfl, rfl, rfl, by simp [World.setCell], fun k _ hne => Below.heap_setCell _ _ _ _ (fun e => hne (by rw [e]))⟩
def listZ (F : Nat → Int) : List ValD := (List.range 24).map fun j => (F j, [])
theorem ZG.rd {w : World} {g : Nat} {F : Nat → Int} (h : ZG w g F) (cap : Nat) : RdG w (.slice (some ⟨g, 0, none⟩) 24 cap) (listZ F) := by
  refine ⟨_, _, by simp [listZ]; rfl, by simp [listZ, maxLen], fun _ => ⟨g, 0, rfl, h.lt, fun i hi => ?_⟩⟩
  have hi' : i < 24 := by simpa [listZ] using hi
  have e : (listZ F).getD i valD0 = (F i, []) := by simp [listZ, List.getD_eq_getElem?_getD, hi']
  rw [e, Nat.zero_add]
  exact ⟨h.num i hi', _, h.kin i hi', Rd.nil _ _ _⟩
theorem listZ_eq {F G : Nat → Int} (h : ∀ j, j < 24 → F j = G j) : listZ F = listZ G := by
  unfold listZ
  exact List.map_congr_left fun j hj => by rw [h j (List.mem_range.1 hj)]
theorem ZG.set {w : World} {g : Nat} {F : Nat → Int} (h : ZG w g F) (i : Nat) (z : Int) : ZG (w.setCell ⟨g, i * 2, none⟩ (.int .i64 z)) g (fun j => if j = i then z else F j) := by
  refine ⟨fun j hj => ?_, fun j hj => ?_, fun o => by simpa using h.frz o, by simpa using h.lt⟩
  · by_cases e : j = i
    · subst e
      have h0 := h.num j hj
      simp only [if_true]
      go_cell
    · have h0 := h.num j hj
      rw [if_neg e]
      go_cell
  · have h0 := h.kin j hj
    go_cell

set_option maxRecDepth 100000 in
set_option maxHeartbeats 1000000 in
theorem specGOpen_any (w : World) : Calls Try.prog 53 #[] w fun e w' => (∃ g, e = .returned (.agg #[.slice (some ⟨g, 0, none⟩) 24 24]) ∧ w.heap.size ≤ g ∧ ZG w' g (fun _ => 0)) ∧ Below w.heap.size w w' := by
  obtain ⟨i0, hi, hz0, hz1, hz2⟩ := info_parts Try.info62
  have hby : i0.bytes * 24 ≤ 281474976710656 := by rw [hz2]; omega
  go_enter Try.func53, Try.ntmps53
  go_wp2_with (first | (at_make; refine wpList_make_full _ rfl (.const (.int .i64 24)) (.const (.int .i64 24)) 23 rfl (w.heap.size + 1) 62 i0 _ 2 Try.underlying23 hi hz0 hz1 .i64 .i64 _ _ 24 rfl rfl rfl rfl hby (by decide) (by simp) ?_; intro w1 hown hgrow; have r0 := hgrow.cell (show (w.alloc (.cells #[.slice none 0 0] 25)).cell? ⟨w.heap.size, 0, none⟩ = some (.slice none 0 0) by go_cell) (by simp); have r1 : w1.frozen? ⟨w.heap.size, 0, none⟩ = false := (World.frozen?_of_block (w := w.alloc (.cells #[.slice none 0 0] 25)) (a := ⟨w.heap.size, 0, none⟩) (hgrow.block w.heap.size (by simp) (by simp))).trans (by (first | go_cell | (simp [World.frozen?, World.alloc]; done) | rfl))))
  rw [World.size_alloc] at hown
  have hb1 : Below w.heap.size w w1 := ((Below.refl _ w).alloc (Nat.le_refl _) _).grown hgrow (by simp) (by simp)
  have z0 : (w1.setCell ⟨w.heap.size, 0, none⟩ (.slice (some ⟨w.heap.size + 1, 0, none⟩) 24 24)).cell? ⟨w.heap.size, 0, none⟩ = some (.slice (some ⟨w.heap.size + 1, 0, none⟩) 24 24) := by go_cell
  refine bodyPost_ret (v := .agg #[.slice (some ⟨w.heap.size + 1, 0, none⟩) 24 24]) (by simp [results, Try.results53, go_sem, z0]) rfl ⟨⟨w.heap.size + 1, rfl, by omega, ?_⟩, hb1.setCell (p := ⟨w.heap.size, 0, none⟩) (Nat.le_refl _) _⟩
  refine ⟨fun j hj => ?_, fun j hj => ?_, fun o => ?_, ?_⟩
  · rw [World.cell?_of_block (w := w1) (Below.heap_setCell _ _ _ _ (by show w.heap.size + 1 ≠ w.heap.size; omega)), hown.cellAt (j * 2) (by omega)]
    rcases j with _ | _ | _ | _ | _ | _ | _ | _ | _ | _ | _ | _ | _ | _ | _ | _ | _ | _ | _ | _ | _ | _ | _ | _ | j <;> first | omega | rfl | (simp [madeCells]; done) | (kernel_rfl)
  · rw [World.cell?_of_block (w := w1) (Below.heap_setCell _ _ _ _ (by show w.heap.size + 1 ≠ w.heap.size; omega)), hown.cellAt (j * 2 + 1) (by omega)]
    rcases j with _ | _ | _ | _ | _ | _ | _ | _ | _ | _ | _ | _ | _ | _ | _ | _ | _ | _ | _ | _ | _ | _ | _ | _ | j <;> first | omega | rfl | (simp [madeCells]; done) | (kernel_rfl)
  · rw [World.frozen?_of_block (w := w1) (Below.heap_setCell _ _ _ _ (by show w.heap.size + 1 ≠ w.heap.size; omega))]
    exact hown.frozenAt o
  · have := (hown.lt (w.heap.size + 1) rfl).2
    simpa using this
end Go.Proofs.Ytkmhnjgncnoddaa

/- Part: The graph in which nobody has anything, behind one write: plain facts. -/
namespace Go.Proofs.Ytkmhnjgncnoddaa
open Go.RowKit

theorem listZ_zero : listZ (fun _ => 0) = zeroG := by rfl
theorem okG_zero : okG zeroG = true := by decide
theorem zero_set (j : Nat) : zeroG.set j (0, []) = zeroG := by
  refine List.ext_getElem? fun i => ?_
  rw [List.getElem?_set]
  split
  · next h =>
    subst h
    split
    · next h => rw [zeroG, List.getElem?_replicate, if_pos (by simpa [zeroG] using h)]; rfl
    · next h => rw [zeroG, List.getElem?_replicate, if_neg (by simpa [zeroG] using h)]
  · rfl
theorem bulk_set (L : List ValD) (j : Nat) (hj : j < L.length) (x : ValD) : bulkG (L.set j x) + (L.getD j valD0).2.length = bulkG L + x.2.length := by
  unfold bulkG
  induction L generalizing j with
  | nil => simp at hj
  | cons y r ih =>
    cases j with
    | zero => simp; omega
    | succ j =>
      have := ih j (by simpa using hj)
      simp at this ⊢
      omega
theorem bulk_zero : bulkG zeroG = 0 := by rfl
theorem zeroG_len : zeroG.length = 24 := by rfl
theorem addL_empty {who at' : Int} (h : rightB (who, at') = true) : addL [] who at' = [(who, at')] := by
  rw [addL, if_pos (by rw [addB, h]; rfl)]
  rfl
theorem dropL_empty (who : Int) : dropL [] who = [] := by
  unfold dropL
  split <;> rfl
end Go.Proofs.Ytkmhnjgncnoddaa

/- Part: spec.GraphOpen as rows of its own: contract. -/
namespace Go.Proofs.Ytkmhnjgncnoddaa
open Go.RowKit
attribute [local go_sem ↓] Go.wp_at_zero Go.wp_at_succ

theorem made_get2 (z : Array Value) (n i : Nat) (h : i < n) : (madeCells z n).toList[i]? = some (z[i % z.size]!) := by simp [madeCells, h]
set_option maxRecDepth 100000 in
set_option maxHeartbeats 1000000 in
theorem specGOpenR_any (w : World) : Calls Try.prog 53 #[] w fun e w' => (∃ g xs, e = .returned (.agg #[.slice (some ⟨g, 0, none⟩) 24 24]) ∧ RowN w' w.heap.size (.slice (some ⟨g, 0, none⟩) 24 24) zeroG 24 xs) ∧ Below w.heap.size w w' := by
  obtain ⟨i0, hi, hz0, hz1, hz2⟩ := info_parts Try.info62
  have hby : i0.bytes * 24 ≤ 281474976710656 := by rw [hz2]; omega
  go_enter Try.func53, Try.ntmps53
  go_wp2_with (first | (at_make; refine wpList_make_full _ rfl (.const (.int .i64 24)) (.const (.int .i64 24)) 23 rfl (w.heap.size + 1) 62 i0 _ 2 Try.underlying23 hi hz0 hz1 .i64 .i64 _ _ 24 rfl rfl rfl rfl hby (by decide) (by simp) ?_; intro w1 hown hgrow; have r0 := hgrow.cell (show (w.alloc (.cells #[.slice none 0 0] 25)).cell? ⟨w.heap.size, 0, none⟩ = some (.slice none 0 0) by go_cell) (by simp); have r1 : w1.frozen? ⟨w.heap.size, 0, none⟩ = false := (World.frozen?_of_block (w := w.alloc (.cells #[.slice none 0 0] 25)) (a := ⟨w.heap.size, 0, none⟩) (hgrow.block w.heap.size (by simp) (by simp))).trans (by (first | go_cell | (simp [World.frozen?, World.alloc]; done) | rfl))))
  rw [World.size_alloc] at hown
  have hb1 : Below w.heap.size w w1 := ((Below.refl _ w).alloc (Nat.le_refl _) _).grown hgrow (by simp) (by simp)
  have z0 : (w1.setCell ⟨w.heap.size, 0, none⟩ (.slice (some ⟨w.heap.size + 1, 0, none⟩) 24 24)).cell? ⟨w.heap.size, 0, none⟩ = some (.slice (some ⟨w.heap.size + 1, 0, none⟩) 24 24) := by go_cell
  refine bodyPost_ret (v := .agg #[.slice (some ⟨w.heap.size + 1, 0, none⟩) 24 24]) (by simp [results, Try.results53, go_sem, z0]) rfl ⟨⟨w.heap.size + 1, _, rfl, RowN.mono (RowN.set (p := ⟨w.heap.size, 0, none⟩) ⟨hown, fun i hi => ?_, ?_⟩ (by show w.heap.size < w.heap.size + 1; omega) _) (by omega)⟩, hb1.setCell (p := ⟨w.heap.size, 0, none⟩) (Nat.le_refl _) _⟩
  rotate_left
  · intro i j hi hj _ ui uj h1 _ b hb
    rw [made_get2 _ _ _ (by omega)] at h1
    have h2 : some ((#[Value.int .i64 0, Value.slice none 0 0] : Array Value)[(i * 2 + 1) % 2]!) = some ui := h1
    rw [show (i * 2 + 1) % 2 = 1 from by omega] at h2
    have h3 : ui = .slice none 0 0 := (Option.some.inj h2).symm
    rw [h3] at hb
    cases hb
  rw [zeroG_get, made_get2 _ _ _ (by omega), made_get2 _ _ _ (by omega)]
  show some ((#[Value.int .i64 0, Value.slice none 0 0] : Array Value)[(i * 2) % 2]!) = _ ∧ ∃ u, some ((#[Value.int .i64 0, Value.slice none 0 0] : Array Value)[(i * 2 + 1) % 2]!) = some u ∧ _
  rw [show (i * 2) % 2 = 0 from by omega, show (i * 2 + 1) % 2 = 1 from by omega]
  exact ⟨rfl, _, rfl, World.ownsRow_nil _ _ _ _⟩
end Go.Proofs.Ytkmhnjgncnoddaa

/- Part: Rows of numbers, with kin behind them or without: what it means that a slice reads as a list of such, or owns it. No walk stands here. -/
namespace Go.Proofs.Ytkmhnjgncnoddaa
open Go.RowKit

/-! ### Blocks outside of F are as they were -/
structure Only (F : Nat → Prop) (w w' : World) : Prop where
  os : w'.os = w.os
  tape : w'.tape = w.tape
  output : w'.output = w.output
  size : w.heap.size ≤ w'.heap.size
  block : ∀ k, k < w.heap.size → ¬ F k → w'.heap[k]? = w.heap[k]?
theorem Only.refl (F : Nat → Prop) (w : World) : Only F w w := ⟨rfl, rfl, rfl, Nat.le_refl _, fun _ _ _ => rfl⟩
theorem Only.trans {F : Nat → Prop} {a b c : World} (h : Only F a b) (k : Only F b c) : Only F a c :=
  ⟨k.os.trans h.os, k.tape.trans h.tape, k.output.trans h.output, Nat.le_trans h.size k.size, fun i hi hn => (k.block i (Nat.lt_of_lt_of_le hi h.size) hn).trans (h.block i hi hn)⟩
theorem Only.mono {F G : Nat → Prop} {a b : World} (h : Only F a b) (hs : ∀ k, F k → G k) : Only G a b := ⟨h.os, h.tape, h.output, h.size, fun k hk hn => h.block k hk (fun hf => hn (hs k hf))⟩
theorem Only.of_below {F : Nat → Prop} {B : Nat} {w w' : World} (h : Below B w w') (hF : ∀ k, k < w.heap.size → B ≤ k → F k) : Only F w w' :=
  ⟨h.os, h.tape, h.output, h.size, fun k hk hn => h.block k (Nat.lt_of_not_le fun hle => hn (hF k hk hle))⟩
theorem Only.later {F : Nat → Prop} {w w' : World} (h : Below w.heap.size w w') : Only F w w' := Only.of_below h (fun _ hk hle => absurd hk (Nat.not_lt.2 hle))
theorem Only.of_grown {F : Nat → Prop} {w w' : World} {row : Option Nat} (h : w.grownBy w' row) (hF : ∀ k, row = some k → F k) : Only F w w' :=
  ⟨h.os, h.tape, h.output, h.size, fun k hk hn => h.block k hk (fun e => hn (hF k e.symm))⟩
theorem Only.set {F : Nat → Prop} (w : World) {p : Addr} (hp : F p.block) (u : Value) : Only F w (w.setCell p u) :=
  ⟨rfl, rfl, rfl, by simp [World.setCell], fun k _ hn => Below.heap_setCell _ _ _ _ (fun e => hn (by rw [e]; exact hp))⟩
theorem Only.below {F : Nat → Prop} {B : Nat} {w w' : World} (h : Only F w w') (hF : ∀ k, F k → B ≤ k) (hB : B ≤ w.heap.size) : Below B w w' :=
  ⟨h.os, h.tape, h.output, h.size, fun k hk => h.block k (Nat.lt_of_lt_of_le hk hB) (fun hf => Nat.lt_irrefl _ (Nat.lt_of_lt_of_le hk (hF k hf)))⟩
/-- Blocks from B on, below C. -/
def Span (B C : Nat) : Nat → Prop := fun b => B ≤ b ∧ b < C

theorem row_agree {w w' : World} {B : Nat} {e : TypeId} {size : Nat} {v : Value} {n : Nat} {xs : List Value} (h : w.ownsRow B e size v n xs) (hs : ∀ k, v.ownBlock = some k → w'.heap[k]? = w.heap[k]?) : w'.ownsRow B e size v n xs := by
  refine ⟨h.1, ?_⟩
  rcases h.2 with hn | ⟨g, cap, cur, rfl, hbg, hgg, rest⟩
  · exact .inl hn
  · exact .inr ⟨g, cap, cur, rfl, hbg, (hs g rfl).trans hgg, rest⟩
theorem Own.agree {w w' : World} {B : Nat} {v : Value} {l : List (Int × Int)} (h : Own w B v l) (hs : ∀ k, v.ownBlock = some k → w'.heap[k]? = w.heap[k]?) : Own w' B v l := row_agree h hs

/-! ### Elements -/
abbrev KD := List Int × List (Int × Int)
def kd0 : KD := ([], [])
/-- The m numbers of an element, and its kin, if such have any, lie from cell p of block b on. -/
structure AtK (m : Nat) (kn : Bool) (w : World) (b p : Nat) (x : KD) : Prop where
  len : x.1.length = m
  num : ∀ j, j < m → w.cell? ⟨b, p + j, none⟩ = some (.int .i64 (x.1.getD j 0))
  kin : kn = true → ∃ u, w.cell? ⟨b, p + m, none⟩ = some u ∧ Rd w u x.2
  non : kn = false → x.2 = []
theorem AtK.later {m : Nat} {kn : Bool} {w w' : World} {b p : Nat} {x : KD} (h : AtK m kn w b p x) (hb : b < w.heap.size) (hB : Below w.heap.size w w') : AtK m kn w' b p x :=
  ⟨h.len, fun j hj => (hB.cell (p := ⟨b, p + j, none⟩) hb).trans (h.num j hj), fun hk => by obtain ⟨u, h1, h2⟩ := h.kin hk; exact ⟨u, (hB.cell (p := ⟨b, p + m, none⟩) hb).trans h1, h2.later hB⟩, h.non⟩

/-- A slice value that reads as a list of such elements, each of sz cells. -/
def RdM (sz m : Nat) (kn : Bool) (w : World) (v : Value) (L : List KD) : Prop :=
  ∃ (ao : Option Addr) (cap : Nat), v = .slice ao L.length cap ∧ L.length ≤ maxLen ∧
    (0 < L.length → ∃ b off, ao = some ⟨b, off, none⟩ ∧ b < w.heap.size ∧ ∀ i, i < L.length → AtK m kn w b (off + i * sz) (L.getD i kd0))
theorem RdM.nil {sz m : Nat} {kn : Bool} (w : World) (ao : Option Addr) (cap : Nat) : RdM sz m kn w (.slice ao 0 cap) [] := ⟨ao, cap, rfl, Nat.zero_le _, fun h => absurd h (Nat.lt_irrefl 0)⟩
theorem RdM.later {sz m : Nat} {kn : Bool} {w w' : World} {v : Value} {L : List KD} (h : RdM sz m kn w v L) (hb : Below w.heap.size w w') : RdM sz m kn w' v L := by
  obtain ⟨ao, cap, hv, hl, hc⟩ := h
  refine ⟨ao, cap, hv, hl, fun h0 => ?_⟩
  obtain ⟨b, off, ha, hlt, hcc⟩ := hc h0
  exact ⟨b, off, ha, Nat.lt_of_lt_of_le hlt hb.size, fun i hi => (hcc i hi).later hlt hb⟩

/-- Are two elements one? Two lists? (Names that the walk does not take apart.) -/
def eqK (x y : KD) : Bool := decide (x = y)
def eqM (x y : List KD) : Bool := decide (x = y)
theorem eqK_iff {x y : KD} : eqK x y = true ↔ x = y := by simp [eqK]
theorem eqM_yes {x y : List KD} (h : x = y) : eqM x y = true := by simp [eqM, h]
theorem eqM_no {x y : List KD} (h : ¬ x = y) : eqM x y = false := by simp [eqM, h]
theorem eqM_refl (x : List KD) : eqM x x = true := eqM_yes rfl

/-! ### New memory -/
/-- The first k elements' cells are those of L; their kin lie in blocks of F, each in one of its own. -/
structure FilM (sz m : Nat) (kn : Bool) (w : World) (F : Nat → Prop) (gb : Option Nat) (xs : List Value) (us : Nat → Value) (L : List KD) (k : Nat) : Prop where
  len : ∀ i, i < k → (L.getD i kd0).1.length = m
  num : ∀ i, i < k → ∀ j, j < m → xs[i * sz + j]? = some (.int .i64 ((L.getD i kd0).1.getD j 0))
  kin : kn = true → ∀ i, i < k → xs[i * sz + m]? = some (us i) ∧ Own w 0 (us i) (L.getD i kd0).2 ∧ ∀ b, (us i).ownBlock = some b → F b ∧ gb ≠ some b
  non : kn = false → ∀ i, i < k → (L.getD i kd0).2 = []
  dis : kn = true → ∀ i j, i < k → j < k → i ≠ j → ∀ b, (us i).ownBlock = some b → (us j).ownBlock ≠ some b
theorem FilM.zero {sz m : Nat} {kn : Bool} (w : World) (F : Nat → Prop) (gb : Option Nat) (xs : List Value) (us : Nat → Value) (L : List KD) : FilM sz m kn w F gb xs us L 0 :=
  ⟨fun _ h => absurd h (Nat.not_lt_zero _), fun _ h => absurd h (Nat.not_lt_zero _), fun _ _ h => absurd h (Nat.not_lt_zero _), fun _ _ h => absurd h (Nat.not_lt_zero _), fun _ _ _ h => absurd h (Nat.not_lt_zero _)⟩
theorem FilM.agree {sz m : Nat} {kn : Bool} {w w' : World} {F G : Nat → Prop} {gb : Option Nat} {xs : List Value} {us : Nat → Value} {L : List KD} {k : Nat} (h : FilM sz m kn w F gb xs us L k)
    (hs : ∀ b, F b → gb ≠ some b → b < w.heap.size → w'.heap[b]? = w.heap[b]?) (hG : ∀ b, F b → b < w.heap.size → G b) : FilM sz m kn w' G gb xs us L k :=
  ⟨h.len, h.num, fun hk i hi => by
    obtain ⟨h1, h2, h3⟩ := h.kin hk i hi
    exact ⟨h1, h2.agree fun b hb => hs b (h3 b hb).1 (h3 b hb).2 (h2.block b hb).2, fun b hb => ⟨hG b (h3 b hb).1 (h2.block b hb).2, (h3 b hb).2⟩⟩, h.non, h.dis⟩
theorem flat_ne {sz i j s t : Nat} (hs : s < sz) (ht : t < sz) (h : i ≠ j) : i * sz + s ≠ j * sz + t := by
  rcases Nat.lt_or_gt_of_ne h with h | h
  · have := Nat.mul_le_mul_right sz (show i + 1 ≤ j from h)
    rw [Nat.add_mul] at this
    omega
  · have := Nat.mul_le_mul_right sz (show j + 1 ≤ i from h)
    rw [Nat.add_mul] at this
    omega
theorem flat_lt {sz i k s : Nat} (hs : s < sz) (h : i < k) : i * sz + s < k * sz := by
  have := Nat.mul_le_mul_right sz (show i + 1 ≤ k from h)
  rw [Nat.add_mul] at this
  omega
theorem FilM.step {sz m : Nat} {kn : Bool} {w w' : World} {F G : Nat → Prop} {gb : Option Nat} {xs xs' : List Value} {us : Nat → Value} {L : List KD} {k : Nat} (h : FilM sz m kn w F gb xs us L k) (u : Value)
    (hs : ∀ b, F b → gb ≠ some b → b < w.heap.size → w'.heap[b]? = w.heap[b]?) (hG : ∀ b, F b → b < w.heap.size → G b) (hm : m ≤ sz) (hm' : kn = true → m < sz)
    (hx : ∀ p, p < k * sz → xs'[p]? = xs[p]?) (hl : (L.getD k kd0).1.length = m) (hn : ∀ j, j < m → xs'[k * sz + j]? = some (.int .i64 ((L.getD k kd0).1.getD j 0)))
    (hk : kn = true → xs'[k * sz + m]? = some u ∧ Own w' 0 u (L.getD k kd0).2 ∧ ∀ b, u.ownBlock = some b → G b ∧ gb ≠ some b ∧ w.heap.size ≤ b)
    (hz : kn = false → (L.getD k kd0).2 = []) : FilM sz m kn w' G gb xs' (fun i => if i = k then u else us i) L (k + 1) := by
  have h' := h.agree hs hG
  refine ⟨fun i hi => ?_, fun i hi j hj => ?_, fun hkn i hi => ?_, fun hkn i hi => ?_, fun hkn i j hi hj hij b hb => ?_⟩
  · by_cases e : i = k
    · subst e; exact hl
    · exact h'.len i (by omega)
  · by_cases e : i = k
    · subst e; exact hn j hj
    · rw [hx _ (flat_lt (by omega) (by omega))]; exact h'.num i (by omega) j hj
  · by_cases e : i = k
    · subst e
      obtain ⟨h1, h2, h3⟩ := hk hkn
      simp only [if_true]
      exact ⟨h1, h2, fun b hb => ⟨(h3 b hb).1, (h3 b hb).2.1⟩⟩
    · simp only [e, if_false]
      rw [hx _ (flat_lt (hm' hkn) (by omega))]
      exact h'.kin hkn i (by omega)
  · by_cases e : i = k
    · subst e; exact hz hkn
    · exact h'.non hkn i (by omega)
  · have hold : ∀ t, t < k → ∀ b, (us t).ownBlock = some b → b < w.heap.size := fun t ht b hb => ((h.kin hkn t ht).2.1.block b hb).2
    obtain ⟨_, _, h3⟩ := hk hkn
    by_cases e : i = k
    · subst e
      simp only [if_true] at hb
      have hji : j ≠ i := fun q => hij q.symm
      simp only [hji, if_false]
      intro hc
      have := hold j (by omega) b hc
      have := (h3 b hb).2.2
      omega
    · simp only [e, if_false] at hb
      by_cases e' : j = k
      · simp only [e', if_true]
        intro hc
        have := hold i (by omega) b hb
        have := (h3 b hc).2.2
        omega
      · simp only [e', if_false]
        exact h'.dis hkn i j (by omega) (by omega) hij b hb

/-- A slice value that owns a list of such in blocks of F: nobody else's, may be written. -/
structure OwM (e : TypeId) (sz m : Nat) (kn : Bool) (w : World) (F : Nat → Prop) (v : Value) (L : List KD) (xs : List Value) (us : Nat → Value) : Prop where
  row : w.ownsRow 0 e sz v L.length xs
  inF : ∀ g, v.ownBlock = some g → F g
  fil : FilM sz m kn w F v.ownBlock xs us L L.length
def OwnM (e : TypeId) (sz m : Nat) (kn : Bool) (w : World) (F : Nat → Prop) (v : Value) (L : List KD) : Prop := ∃ xs us, OwM e sz m kn w F v L xs us
theorem OwnM.nil {e : TypeId} {sz m : Nat} {kn : Bool} (w : World) (F : Nat → Prop) : OwnM e sz m kn w F (.slice none 0 0) [] :=
  ⟨[], fun _ => .bool false, World.ownsRow_nil _ _ _ _, fun _ h => (by cases h), FilM.zero _ _ _ _ _ _⟩
theorem OwM.agree {e : TypeId} {sz m : Nat} {kn : Bool} {w w' : World} {F G : Nat → Prop} {v : Value} {L : List KD} {xs : List Value} {us : Nat → Value} (h : OwM e sz m kn w F v L xs us)
    (hs : ∀ b, F b → b < w.heap.size → w'.heap[b]? = w.heap[b]?) (hG : ∀ b, F b → b < w.heap.size → G b) : OwM e sz m kn w' G v L xs us :=
  ⟨row_agree h.row fun b hb => hs b (h.inF b hb) (World.ownsRow.lt h.row b hb).2, fun g hg => hG g (h.inF g hg) (World.ownsRow.lt h.row g hg).2, h.fil.agree (fun b hb _ hl => hs b hb hl) hG⟩
theorem OwnM.agree {e : TypeId} {sz m : Nat} {kn : Bool} {w w' : World} {F G : Nat → Prop} {v : Value} {L : List KD} (h : OwnM e sz m kn w F v L)
    (hs : ∀ b, F b → b < w.heap.size → w'.heap[b]? = w.heap[b]?) (hG : ∀ b, F b → b < w.heap.size → G b) : OwnM e sz m kn w' G v L := by
  obtain ⟨xs, us, h⟩ := h
  exact ⟨xs, us, h.agree hs hG⟩
theorem OwnM.later {e : TypeId} {sz m : Nat} {kn : Bool} {w w' : World} {F : Nat → Prop} {v : Value} {L : List KD} (h : OwnM e sz m kn w F v L) (hb : Below w.heap.size w w') : OwnM e sz m kn w' F v L :=
  h.agree (fun b _ hl => hb.block b hl) (fun _ hf _ => hf)
theorem OwnM.mono {e : TypeId} {sz m : Nat} {kn : Bool} {w : World} {F G : Nat → Prop} {v : Value} {L : List KD} (h : OwnM e sz m kn w F v L) (hG : ∀ b, F b → b < w.heap.size → G b) : OwnM e sz m kn w G v L :=
  h.agree (fun _ _ _ => rfl) hG
theorem OwnM.only {e : TypeId} {sz m : Nat} {kn : Bool} {w w' : World} {F G : Nat → Prop} {v : Value} {L : List KD} (h : OwnM e sz m kn w F v L) (ho : Only G w w') (hd : ∀ b, F b → b < w.heap.size → ¬ G b) : OwnM e sz m kn w' F v L :=
  h.agree (fun b hb hl => ho.block b hl (hd b hb hl)) (fun _ hb _ => hb)
theorem OwnM.set {e : TypeId} {sz m : Nat} {kn : Bool} {w : World} {F : Nat → Prop} {v : Value} {L : List KD} (h : OwnM e sz m kn w F v L) {p : Addr} (hp : ¬ F p.block) (u : Value) : OwnM e sz m kn (w.setCell p u) F v L :=
  h.agree (fun _ hb _ => Below.heap_setCell _ _ _ _ (fun q => hp (q ▸ hb))) (fun _ hb _ => hb)
theorem OwM.rd {e : TypeId} {sz m : Nat} {kn : Bool} {w : World} {F : Nat → Prop} {v : Value} {L : List KD} {xs : List Value} {us : Nat → Value} (h : OwM e sz m kn w F v L xs us) (hm : m ≤ sz) (hm' : kn = true → m < sz) : RdM sz m kn w v L := by
  have h0 := h.row
  rcases h.row.2 with ⟨rfl, hn⟩ | ⟨g, cap, cur, rfl, hb, hg, hnc, hcm, hcs, htake⟩
  · have : L = [] := List.eq_nil_of_length_eq_zero hn
    subst this
    exact RdM.nil w none 0
  · refine ⟨some ⟨g, 0, none⟩, cap, rfl, Nat.le_trans hnc hcm, fun _ => ⟨g, 0, rfl, (Array.getElem?_eq_some_iff.1 hg).1, fun i hi => ?_⟩⟩
    rw [Nat.zero_add]
    refine ⟨h.fil.len i hi, fun j hj => ?_, fun hk => ?_, fun hk => h.fil.non hk i hi⟩
    · rw [World.ownsRow.cellAt h0 _ (flat_lt (by omega) hi)]; exact h.fil.num i hi j hj
    · obtain ⟨h1, h2, _⟩ := h.fil.kin hk i hi
      exact ⟨us i, by rw [World.ownsRow.cellAt h0 _ (flat_lt (hm' hk) hi)]; exact h1, h2.rd⟩

/-- It is a slice of that length. -/
theorem OwnM.rd' {e : TypeId} {sz m : Nat} {kn : Bool} {w : World} {F : Nat → Prop} {v : Value} {L : List KD} (h : OwnM e sz m kn w F v L) : ∃ (ao : Option Addr) (cap : Nat), v = .slice ao L.length cap ∧ L.length ≤ maxLen := by
  obtain ⟨xs, us, h⟩ := h
  rcases h.row.2 with ⟨rfl, hn⟩ | ⟨g, cap, cur, rfl, hb, hg, hnc, hcm, hcs, htake⟩
  · exact ⟨none, 0, by rw [hn], by rw [hn]; exact Nat.zero_le _⟩
  · exact ⟨_, cap, rfl, Nat.le_trans hnc hcm⟩
theorem OwnM.rd {e : TypeId} {sz m : Nat} {kn : Bool} {w : World} {F : Nat → Prop} {v : Value} {L : List KD} (h : OwnM e sz m kn w F v L) (hm : m ≤ sz) (hm' : kn = true → m < sz) : RdM sz m kn w v L := by
  obtain ⟨xs, us, h⟩ := h
  exact h.rd hm hm'
theorem OwnM.len {e : TypeId} {sz m : Nat} {kn : Bool} {w : World} {F : Nat → Prop} {v : Value} {L : List KD} (h : OwnM e sz m kn w F v L) : ∀ i, i < L.length → (L.getD i kd0).1.length = m := by
  obtain ⟨xs, us, h⟩ := h
  exact h.fil.len
theorem OwnM.non {e : TypeId} {sz m : Nat} {w : World} {F : Nat → Prop} {v : Value} {L : List KD} (h : OwnM e sz m false w F v L) : ∀ i, i < L.length → (L.getD i kd0).1.length = m ∧ (L.getD i kd0).2 = [] := by
  obtain ⟨xs, us, h⟩ := h
  exact fun i hi => ⟨h.fil.len i hi, h.fil.non rfl i hi⟩

/-! ### Marks -/
def cntK (m : Nat) (x : KD) : Int := (m : Int) + 2 * (x.2.length : Int)
def cntM (m : Nat) (L : List KD) : Int := (L.map (cntK m)).sum
def relK (m : Nat) (k : Int) (x : KD) : KD := ((List.range m).map (fun (j : Nat) => k + (j : Int)), markL (k + (m : Int)) x.2.length)
def relM (m : Nat) : Int → List KD → List KD
  | _, [] => []
  | k, x :: r => relK m k x :: relM m (k + cntK m x) r
theorem relM_length (m : Nat) (L : List KD) : ∀ k, (relM m k L).length = L.length := by
  induction L with
  | nil => intro k; rfl
  | cons x r ih => intro k; simp [relM, ih]
theorem cntK_pos (m : Nat) (x : KD) : 0 ≤ cntK m x := by unfold cntK; omega
theorem cntM_pos (m : Nat) (L : List KD) : 0 ≤ cntM m L := by
  induction L with
  | nil => simp [cntM]
  | cons x r ih => have := cntK_pos m x; simp only [cntM, List.map_cons, List.sum_cons] at ih ⊢; omega
theorem cntM_cons (m : Nat) (x : KD) (r : List KD) : cntM m (x :: r) = cntK m x + cntM m r := by simp [cntM]
theorem cntM_step (m : Nat) (L : List KD) : ∀ i, i < L.length → cntM m (L.take (i + 1)) = cntM m (L.take i) + cntK m (L.getD i kd0) := by
  induction L with
  | nil => intro i h; exact absurd h (Nat.not_lt_zero _)
  | cons x r ih =>
    intro i h
    cases i with
    | zero => simp [cntM]
    | succ j =>
      have := ih j (by simpa using h)
      rw [List.take_succ_cons, List.take_succ_cons, cntM_cons, cntM_cons, this, List.getD_cons_succ]
      omega
theorem cntM_le (m : Nat) (L : List KD) (i : Nat) : cntM m (L.take i) ≤ cntM m L := by
  have h : cntM m L = cntM m (L.take i) + cntM m (L.drop i) := by
    rw [cntM, cntM, cntM, ← List.sum_append, ← List.map_append, List.take_append_drop]
  have := cntM_pos m (L.drop i)
  omega
theorem relM_get (m : Nat) (L : List KD) : ∀ k i, i < L.length → (relM m k L).getD i kd0 = relK m (k + cntM m (L.take i)) (L.getD i kd0) := by
  induction L with
  | nil => intro k i h; exact absurd h (Nat.not_lt_zero _)
  | cons x r ih =>
    intro k i h
    cases i with
    | zero => simp [relM, cntM]
    | succ j =>
      have := ih (k + cntK m x) j (by simpa using h)
      rw [relM, List.getD_cons_succ, this, List.take_succ_cons, cntM_cons, List.getD_cons_succ, Int.add_assoc]

/-- Between the marks of two elements: the first j are marked. -/
def MidM (m : Nat) (k : Int) (L M : List KD) (j : Nat) : Prop := M.length = L.length ∧ (∀ i, i < j → M.getD i kd0 = (relM m k L).getD i kd0) ∧ (∀ i, j ≤ i → i < L.length → M.getD i kd0 = L.getD i kd0)
theorem MidM.start (m : Nat) (k : Int) (L : List KD) : MidM m k L L 0 := ⟨rfl, fun _ h => absurd h (Nat.not_lt_zero _), fun _ _ _ => rfl⟩
theorem kd_getD_set {L : List KD} {j : Nat} (hj : j < L.length) (x : KD) (i : Nat) : (L.set j x).getD i kd0 = if i = j then x else L.getD i kd0 := by
  rw [List.getD_eq_getElem?_getD, List.getElem?_set]
  by_cases e : j = i
  · subst e; simp [hj]
  · rw [if_neg e, if_neg (fun q => e q.symm), List.getD_eq_getElem?_getD]
theorem MidM.step {m : Nat} {k : Int} {L M : List KD} {j : Nat} (h : MidM m k L M j) (hj : j < L.length) : MidM m k L (M.set j (relK m (k + cntM m (L.take j)) (L.getD j kd0))) (j + 1) := by
  obtain ⟨h0, h1, h2⟩ := h
  refine ⟨by simp [h0], fun i hi => ?_, fun i hi hl => ?_⟩
  · rw [kd_getD_set (by rw [h0]; exact hj)]
    by_cases e : i = j
    · subst e; rw [if_pos rfl, relM_get m L k i hj]
    · rw [if_neg e]; exact h1 i (by omega)
  · rw [kd_getD_set (by rw [h0]; exact hj), if_neg (by omega)]
    exact h2 i (by omega) hl
theorem MidM.all {m : Nat} {k : Int} {L M : List KD} (h : MidM m k L M L.length) : M = relM m k L := by
  obtain ⟨h0, h1, _⟩ := h
  apply List.ext_getElem?
  intro i
  by_cases hi : i < L.length
  · have := h1 i hi
    rw [List.getD_eq_getElem?_getD, List.getD_eq_getElem?_getD, List.getElem?_eq_getElem (by rw [h0]; exact hi), List.getElem?_eq_getElem (by rw [relM_length]; exact hi)] at this
    rw [List.getElem?_eq_getElem (by rw [h0]; exact hi), List.getElem?_eq_getElem (by rw [relM_length]; exact hi)]
    simpa using this
  · rw [List.getElem?_eq_none (by omega), List.getElem?_eq_none (by rw [relM_length]; omega)]

/-- A store of one number. -/
theorem OwM.setNum {e : TypeId} {sz m : Nat} {kn : Bool} {w : World} {F : Nat → Prop} {v : Value} {L : List KD} {xs : List Value} {us : Nat → Value} {g j t : Nat} (h : OwM e sz m kn w F v L xs us) (hm : m ≤ sz) (hm' : kn = true → m < sz)
    (hg : v.ownBlock = some g) (hj : j < L.length) (ht : t < m) (z : Int) :
    OwM e sz m kn (w.setCell ⟨g, j * sz + t, none⟩ (.int .i64 z)) F v (L.set j ((L.getD j kd0).1.set t z, (L.getD j kd0).2)) (xs.set (j * sz + t) (.int .i64 z)) us := by
  have hxl : xs.length = L.length * sz := h.row.1
  have hpos : j * sz + t < xs.length := by rw [hxl]; exact flat_lt (by omega) hj
  have hlen := h.fil.len j hj
  refine ⟨?_, h.inF, ?_⟩
  · rw [List.length_set]
    refine ⟨by rw [List.length_set]; exact hxl, ?_⟩
    rcases h.row.2 with ⟨rfl, _⟩ | ⟨g', cap, cur, rfl, hbg, hgg, hnc, hcm, hsz, htk⟩
    · cases hg
    · cases hg
      refine .inr ⟨g', cap, cur.setIfInBounds (j * sz + t) (.int .i64 z), rfl, hbg, ?_, hnc, hcm, by simpa using hsz, ?_⟩
      · simp only [World.setCell, Array.getElem?_modify, hgg]
        simp
      · rw [Array.toList_setIfInBounds, List.take_set, htk]
  · rw [List.length_set]
    refine ⟨fun i hi => ?_, fun i hi s hs => ?_, fun hk i hi => ?_, fun hk i hi => ?_, h.fil.dis⟩
    · rw [kd_getD_set hj]
      split
      · simp only [List.length_set]; exact hlen
      · exact h.fil.len i hi
    · rw [kd_getD_set hj]
      by_cases q : i = j
      · subst q
        rw [if_pos rfl]
        by_cases q' : s = t
        · subst q'
          rw [List.getElem?_set_self hpos]
          rw [List.getD_eq_getElem?_getD, List.getElem?_set_self (by rw [hlen]; exact ht)]; rfl
        · rw [List.getElem?_set_ne (by omega), h.fil.num i hi s hs]
          show _ = some (Value.int IntKind.i64 (((L.getD i kd0).1.set t z).getD s 0))
          rw [List.getD_eq_getElem?_getD (l := (L.getD i kd0).1.set t z), List.getElem?_set_ne (fun x => q' x.symm), ← List.getD_eq_getElem?_getD]
      · rw [if_neg q, List.getElem?_set_ne (flat_ne (by omega) (by omega) (fun x => q x.symm))]
        exact h.fil.num i hi s hs
    · obtain ⟨h1, h2, h3⟩ := h.fil.kin hk i hi
      have := hm' hk
      refine ⟨?_, ?_, h3⟩
      · by_cases q : i = j
        · subst q; rw [List.getElem?_set_ne (by omega)]; exact h1
        · rw [List.getElem?_set_ne (flat_ne (by omega) (by omega) (fun x => q x.symm))]; exact h1
      · rw [kd_getD_set hj]
        have h4 : Own (w.setCell ⟨g, j * sz + t, none⟩ (.int .i64 z)) 0 (us i) (L.getD i kd0).2 := h2.agree fun b hb => Below.heap_setCell _ _ _ _ (fun q => (h3 b hb).2 (by rw [hg, q]))
        split
        · next q => subst q; exact h4
        · exact h4
    · rw [kd_getD_set hj]
      split
      · next q => subst q; exact h.fil.non hk i hj
      · exact h.fil.non hk i hi
/-- A call that turns one element's kin in place. -/
theorem OwM.setKin {e : TypeId} {sz m : Nat} {w w' : World} {F : Nat → Prop} {v : Value} {L : List KD} {xs : List Value} {us : Nat → Value} {j : Nat} (h : OwM e sz m true w F v L xs us)
    (hj : j < L.length) {l : List (Int × Int)} (ho : Own w' 0 (us j) l) (hg : w.grownBy w' (us j).ownBlock) :
    OwM e sz m true w' F v (L.set j ((L.getD j kd0).1, l)) xs us := by
  have hne : ∀ b, v.ownBlock = some b → w'.heap[b]? = w.heap[b]? := fun b hb => hg.block b (World.ownsRow.lt h.row b hb).2 (fun q => ((h.fil.kin rfl j hj).2.2 b q.symm).2 hb)
  refine ⟨by rw [List.length_set]; exact row_agree h.row hne, h.inF, ?_⟩
  rw [List.length_set]
  refine ⟨fun i hi => ?_, fun i hi s hs => ?_, fun hk i hi => ?_, fun hk => (by cases hk), h.fil.dis⟩
  · rw [kd_getD_set hj]
    split
    · next q => subst q; exact h.fil.len i hi
    · exact h.fil.len i hi
  · rw [kd_getD_set hj]
    split
    · next q => subst q; exact h.fil.num i hi s hs
    · exact h.fil.num i hi s hs
  · obtain ⟨h1, h2, h3⟩ := h.fil.kin rfl i hi
    refine ⟨h1, ?_, h3⟩
    rw [kd_getD_set hj]
    split
    · next q => subst q; exact ho
    · next q => exact h2.agree fun b hb => hg.block b (h2.block b hb).2 (fun r => h.fil.dis rfl i j hi hj q b hb r.symm)
end Go.Proofs.Ytkmhnjgncnoddaa

/- Part: The draw of a graph: plain facts, l3Graph: contract. -/
namespace Go.Proofs.Ytkmhnjgncnoddaa
open Go.RowKit
attribute [local go_sem ↓] Go.wp_at_zero Go.wp_at_succ

/-- A row that is owned, filled: it reads from its own memory alone. -/
theorem rowFill_from {w : World} {B g cap : Nat} {L : List ValD} {xs : List Value} (hr : w.ownsRow B 62 2 (.slice (some ⟨g, 0, none⟩) 24 cap) 24 xs) (hf : FilledV w B xs L 24) (hl : L.length = 24) :
    FromG B w (.slice (some ⟨g, 0, none⟩) 24 cap) L := fun w' _ hs => by
  have hr' := row_same hr hs
  refine ⟨some ⟨g, 0, none⟩, cap, by rw [hl], by rw [hl]; decide, fun _ => ⟨g, 0, rfl, (hr'.lt g rfl).2, fun i hi => ?_⟩⟩
  have hi : i < 24 := by rw [hl] at hi; exact hi
  rw [Nat.zero_add]
  obtain ⟨h0, u, h1, h2⟩ := hf i hi
  exact ⟨(hr'.cellAt _ (by omega)).trans h0, u, (hr'.cellAt _ (by omega)).trans h1, (show Own w' B u _ from row_same h2 hs).rd⟩
/-- What turns one row's kin in place, or makes them anew, leaves the others. -/
theorem RowN.kin {w w' : World} {B g cap k : Nat} {L : List ValD} {xs : List Value} {u u' : Value} {l' : List (Int × Int)} (h : RowN w B (.slice (some ⟨g, 0, none⟩) 24 cap) L 24 xs) (hl : L.length = 24) (hk : k < 24)
    (hu : xs[k * 2 + 1]? = some u) (hg : w.grownBy w' u.ownBlock) (ho : Own w' B u' l') :
    FromG B (w'.setCell ⟨g, k * 2 + 1, none⟩ u') (.slice (some ⟨g, 0, none⟩) 24 cap) (L.set k ((L.getD k valD0).1, l')) := by
  have hx : xs.length = 24 * 2 := h.1.1
  obtain ⟨hn, u0, hu0, hou⟩ := h.2 k hk
  rw [hu] at hu0
  cases hu0
  have hng : some g ≠ u.ownBlock := fun e => own_off_row h.1 hou g rfl e.symm
  have hrow : w'.ownsRow B 62 2 (.slice (some ⟨g, 0, none⟩) 24 cap) 24 xs := row_agree h.1 fun b hb => hg.block b (h.1.lt b hb).2 (fun e => hng (by cases hb; exact e))
  have keep : ∀ (y : Value) (m : List (Int × Int)), Own w' B y m → Own (w'.setCell ⟨g, k * 2 + 1, none⟩ u') B y m := fun y m hy => hy.setOther (p := ⟨g, k * 2 + 1, none⟩) (own_off_row hrow hy g rfl) _
  refine rowFill_from (row_put hrow rfl (k * 2 + 1) u') (fun i hi => ?_) (by simp [hl])
  rw [getD_set (by rw [hl]; exact hk)]
  by_cases e : i = k
  · subst e
    rw [if_pos rfl, List.getElem?_set_ne (by omega), List.getElem?_set_self (by omega)]
    exact ⟨hn, u', rfl, keep _ _ ho⟩
  · rw [if_neg e, List.getElem?_set_ne (by omega), List.getElem?_set_ne (by omega)]
    obtain ⟨h0, y, h1, h2⟩ := h.2 i hi
    exact ⟨h0, y, h1, keep _ _ (h2.grownOff hg (fun b hb hc => h.3 i k hi hk e y u h1 hu b hc hb))⟩
theorem RowN.num {w : World} {B g cap k : Nat} {L : List ValD} {xs : List Value} (h : RowN w B (.slice (some ⟨g, 0, none⟩) 24 cap) L 24 xs) (hl : L.length = 24) (hk : k < 24) (z : Int) :
    FromG B (w.setCell ⟨g, k * 2, none⟩ (.int .i64 z)) (.slice (some ⟨g, 0, none⟩) 24 cap) (L.set k (z, (L.getD k valD0).2)) := by
  have hx : xs.length = 24 * 2 := h.1.1
  have keep : ∀ (y : Value) (m : List (Int × Int)), Own w B y m → Own (w.setCell ⟨g, k * 2, none⟩ (.int .i64 z)) B y m := fun y m hy => hy.setOther (p := ⟨g, k * 2, none⟩) (own_off_row h.1 hy g rfl) _
  refine rowFill_from (row_put h.1 rfl (k * 2) (.int .i64 z)) (fun i hi => ?_) (by simp [hl])
  rw [getD_set (by rw [hl]; exact hk)]
  obtain ⟨h0, y, h1, h2⟩ := h.2 i hi
  by_cases e : i = k
  · subst e
    rw [if_pos rfl, List.getElem?_set_self (by omega), List.getElem?_set_ne (by omega)]
    exact ⟨rfl, y, h1, keep _ _ h2⟩
  · rw [if_neg e, List.getElem?_set_ne (by omega), List.getElem?_set_ne (by omega)]
    exact ⟨h0, y, h1, keep _ _ h2⟩

/-- A variable that holds a graph, and the reader. -/
structure GrL (w wr : World) (B gr q bg : Nat) (v : Value) (L : List ValD) : Prop where
  rdr : Rdr wr B gr q
  grown : w.grownBy wr (some gr)
  grl : gr < w.heap.size
  res : wr.cell? ⟨w.heap.size, 0, none⟩ = some (.slice none 0 0)
  resf : wr.frozen? ⟨w.heap.size, 0, none⟩ = false
  var : wr.cell? ⟨bg, 0, none⟩ = some v
  varf : wr.frozen? ⟨bg, 0, none⟩ = false
  typ : ∃ cs, wr.heap[bg]? = some (.cells cs 25 (0, 0))
  hbg : w.heap.size < bg
  sz : bg < wr.heap.size
  row : ∃ xs, RowN wr (w.heap.size + 1) v L 24 xs
theorem GrL.kept {w wr w' : World} {B gr q q' bg : Nat} {v : Value} {L : List ValD} (h : GrL w wr B gr q bg v L) (hR : Rdr w' B gr q') (hg : wr.grownBy w' (some gr)) : GrL w w' B gr q' bg v L := by
  have hl := h.grl
  have hb := h.hbg
  have hs := h.sz
  have n0 : some w.heap.size ≠ some gr := fun e => by have := Option.some.inj e; omega
  have n1 : some bg ≠ some gr := fun e => by have := Option.some.inj e; omega
  obtain ⟨cs, ht⟩ := h.typ
  obtain ⟨xs, hr⟩ := h.row
  exact ⟨hR, grown_trans h.grown hg, hl, hg.cell h.res n0, (hg.frozen_far ⟨w.heap.size, 0, none⟩ (by show w.heap.size < _; omega) n0).trans h.resf, hg.cell h.var n1, (hg.frozen_far ⟨bg, 0, none⟩ hs n1).trans h.varf,
    ⟨cs, (hg.block bg hs n1).trans ht⟩, hb, Nat.lt_of_lt_of_le hs hg.size, ⟨xs, hr.grown hg (by omega)⟩⟩
theorem GrL.below {w wr w' : World} {B gr q bg : Nat} {v : Value} {L : List ValD} (h : GrL w wr B gr q bg v L) (hb : Below wr.heap.size wr w') : GrL w w' B gr q bg v L :=
  h.kept (h.rdr.later hb) (grown_wide (grownBelowR hb))
/-- The variable takes another graph, whose rows lie elsewhere. -/
theorem GrL.put {w wr : World} {B gr q bg B' : Nat} {v v' : Value} {L L' : List ValD} {xs : List Value} (h : GrL w wr B gr q bg v L) (hr : RowN wr B' v' L' 24 xs) (hB : bg < B') : GrL w (wr.setCell ⟨bg, 0, none⟩ v') B gr q bg v' L' := by
  have hl := h.grl
  have hb := h.hbg
  have hs := h.sz
  have hBr := h.rdr.1
  have r0 := h.res
  have v0 := h.var
  obtain ⟨cs, ht⟩ := h.typ
  exact ⟨h.rdr.setFar (a := ⟨bg, 0, none⟩) (by show B ≤ bg; omega) (by show ¬ bg = gr; omega) v', grown_set_new h.grown (a := ⟨bg, 0, none⟩) (by show w.heap.size ≤ bg; omega) v', hl, by go_cell, by simpa using h.resf, by go_cell, by simpa using h.varf,
    ⟨_, heap_setCell_same wr bg 0 cs _ v' ht⟩, hb, by simpa using hs, ⟨xs, (hr.set (p := ⟨bg, 0, none⟩) hB v').mono (by omega)⟩⟩
theorem row_off_typ {w : World} {B bg n : Nat} {v : Value} {xs : List Value} {cs : Array Value} (h : w.ownsRow B 62 2 v n xs) (ht : w.heap[bg]? = some (.cells cs 25 (0, 0))) : v.ownBlock ≠ some bg := by
  intro hv
  rcases h.2 with ⟨rfl, _⟩ | ⟨g1, cap1, cur1, rfl, _, h1, _⟩
  · cases hv
  · cases hv
    rw [h1] at ht
    have := Option.some.inj ht
    simp at this
theorem kin_off_typ {w : World} {B bg : Nat} {u : Value} {l : List (Int × Int)} {cs : Array Value} (h : Own w B u l) (ht : w.heap[bg]? = some (.cells cs 25 (0, 0))) : u.ownBlock ≠ some bg := by
  intro hv
  rcases h.2 with ⟨rfl, _⟩ | ⟨g1, cap1, cur1, rfl, _, h1, _⟩
  · cases hv
  · cases hv
    rw [h1] at ht
    have := Option.some.inj ht
    simp at this
/-- A store into the variable leaves the rows. -/
theorem RowN.offVar {w : World} {B bg n : Nat} {v x : Value} {L : List ValD} {xs : List Value} {cs : Array Value} (h : RowN w B v L n xs) (ht : w.heap[bg]? = some (.cells cs 25 (0, 0))) : RowN (w.setCell ⟨bg, 0, none⟩ x) B v L n xs :=
  ⟨row_agree h.1 fun b hb => Below.heap_setCell _ _ _ _ (fun e => row_off_typ h.1 ht (by rw [hb, e])), fun i hi => by
    obtain ⟨h0, u, h1, h2⟩ := h.2 i hi
    exact ⟨h0, u, h1, h2.setOther (p := ⟨bg, 0, none⟩) (kin_off_typ h2 ht) x⟩, h.3⟩

/-- A graph's variable, laid and not yet written. -/
structure VarG (w : World) (B : Nat) : Prop where
  c0 : w.cell? ⟨B, 0, none⟩ = some (.slice none 0 0)
  f0 : w.frozen? ⟨B, 0, none⟩ = false
  lt : B < w.heap.size
  typ : ∃ cs, w.heap[B]? = some (.cells cs 25 (0, 0))
theorem VarG.new (w : World) : VarG (w.alloc (.cells #[.slice none 0 0] 25)) w.heap.size := ⟨by go_cell, by (first | go_cell | (simp [World.frozen?, World.alloc]; done) | rfl), by simp, _, heap_alloc_new w _⟩
theorem VarG.later {w w' : World} {B : Nat} (h : VarG w B) (hb : Below w.heap.size w w') : VarG w' B := by
  obtain ⟨cs, ht⟩ := h.typ
  exact ⟨(hb.cell (p := ⟨B, 0, none⟩) h.lt).trans h.c0, (hb.frozen (p := ⟨B, 0, none⟩) h.lt).trans h.f0, Nat.lt_of_lt_of_le h.lt hb.size, cs, (hb.block B h.lt).trans ht⟩
theorem VarG.kept {w w' : World} {B gr : Nat} (h : VarG w B) (hg : w.grownBy w' (some gr)) (hne : B ≠ gr) : VarG w' B := by
  obtain ⟨cs, ht⟩ := h.typ
  exact ⟨hg.cell h.c0 (fun e => hne (Option.some.inj e)), (hg.frozen_far ⟨B, 0, none⟩ h.lt (fun e => hne (Option.some.inj e))).trans h.f0, Nat.lt_of_lt_of_le h.lt hg.size, cs, (hg.block B h.lt (fun e => hne (Option.some.inj e))).trans ht⟩
theorem VarG.drawn {w w' : World} {gr : Nat} (hg : ((w.alloc (.cells #[.slice none 0 0] 25)).drew).grownBy w' (some gr)) (hl : gr < w.heap.size) : VarG w' w.heap.size :=
  (VarG.new w).kept (show (w.alloc (.cells #[.slice none 0 0] 25)).grownBy w' (some gr) from ⟨hg.os, hg.tape, hg.output, hg.size, hg.block⟩) (by omega)
theorem VarG.past {w w' : World} (h : Below (w.alloc (.cells #[.slice none 0 0] 25)).heap.size (w.alloc (.cells #[.slice none 0 0] 25)) w') : VarG w' w.heap.size := (VarG.new w).later h

/-- Behind the statement that draws a write and does it: the new variable, and what it holds. -/
def GrX (w w0 : World) (B gr q bg : Nat) (v : Value) (L : List ValD) (s5 s6 : Value) (wx : World) : Prop :=
  ∃ (bx g' c' q' : Nat) (k a c n : Int) (xs' : List Value), s5 = .pointer (some ⟨bx, 0, none⟩) ∧ s6 = .bool (opOk k a c n) ∧ GrL w wx B gr q' bg v L ∧ q' ≤ q + 20 ∧
    wx.cell? ⟨bx, 0, none⟩ = some (.slice (some ⟨g', 0, none⟩) 24 c') ∧ bx < wx.heap.size ∧ RowN wx w0.heap.size (.slice (some ⟨g', 0, none⟩) 24 c') (doG L k a c n) 24 xs' ∧ OpB k a c n
theorem GrX.of_new {w w0 wx : World} {B gr q q' bg g' c' B' : Nat} {v : Value} {L : List ValD} {k a c n : Int} {xs' : List Value} (h : GrL w wx B gr q' bg v L) (hq : q' ≤ q + 20) (hB : OpB k a c n)
    (hr : RowN wx B' (.slice (some ⟨g', 0, none⟩) 24 c') (doG L k a c n) 24 xs') (h0 : w0.heap.size ≤ B') :
    GrX w w0 B gr q bg v L (.pointer (some ⟨wx.heap.size, 0, none⟩)) (.bool (opOk k a c n)) (wx.alloc (.cells #[.slice (some ⟨g', 0, none⟩) 24 c'] 25)) :=
  ⟨_, g', c', q', k, a, c, n, xs', rfl, rfl, h.below ((Below.refl _ wx).alloc (Nat.le_refl _) _), hq, by go_cell, by simp, (hr.later ((Below.refl _ wx).alloc (Nat.le_refl _) _)).mono h0, hB⟩
theorem GrX.of_set {w w0 wx : World} {B gr q q' bg g' c' B' bx : Nat} {v : Value} {L : List ValD} {k a c n : Int} {xs' : List Value} (z : VarG wx bx) (h : GrL w wx B gr q' bg v L) (hq : q' ≤ q + 20) (hB : OpB k a c n)
    (hr : RowN wx B' (.slice (some ⟨g', 0, none⟩) 24 c') (doG L k a c n) 24 xs') (h0 : w0.heap.size ≤ B') (hbx : bx < B') (hne : bg < bx) (hgr : gr < bx) :
    GrX w w0 B gr q bg v L (.pointer (some ⟨bx, 0, none⟩)) (.bool (opOk k a c n)) (wx.setCell ⟨bx, 0, none⟩ (.slice (some ⟨g', 0, none⟩) 24 c')) := by
  have z0 := z.c0
  have zl := z.lt
  have hl := h.grl
  have hb := h.hbg
  have hs := h.sz
  have hBr := h.rdr.1
  have r0 := h.res
  have v0 := h.var
  obtain ⟨cs, ht⟩ := h.typ
  obtain ⟨xs, hrw⟩ := h.row
  obtain ⟨csx, htx⟩ := z.typ
  refine ⟨_, g', c', q', k, a, c, n, xs', rfl, rfl, ?_, hq, by go_cell, by simpa using zl, (hr.set (p := ⟨bx, 0, none⟩) hbx _).mono h0, hB⟩
  exact ⟨h.rdr.setFar (a := ⟨bx, 0, none⟩) (by show B ≤ bx; omega) (by show ¬ bx = gr; omega) _, grown_set_new h.grown (a := ⟨bx, 0, none⟩) (by show w.heap.size ≤ bx; omega) _, hl, by go_cell, by simpa using h.resf, by go_cell, by simpa using h.varf,
    ⟨cs, (heap_setCell_other wx ⟨bx, 0, none⟩ bg _ (by show bg ≠ bx; omega)).trans ht⟩, hb, by simpa using hs, ⟨xs, hrw.offVar htx⟩⟩
end Go.Proofs.Ytkmhnjgncnoddaa

/- Part: The draw of a graph: l3Graph, its loop: contract. -/
namespace Go.Proofs.Ytkmhnjgncnoddaa
open Go.RowKit
attribute [local go_sem ↓] Go.wp_at_zero Go.wp_at_succ

theorem nums_four (w : World) (a b c d : Int) (P : Int → Prop) (ha : P a) (hb : P b) (hc : P c) (hd : P d) : Nums (w.alloc (.cells #[.int .i64 a, .int .i64 b, .int .i64 c, .int .i64 d] 3)) w.heap.size 4 P := by
  refine ⟨by simp, fun i hi => ?_⟩
  rcases i with _ | _ | _ | _ | i
  · exact ⟨a, by go_cell, ha⟩
  · exact ⟨b, by go_cell, hb⟩
  · exact ⟨c, by go_cell, hc⟩
  · exact ⟨d, by go_cell, hd⟩
  · omega
theorem many_four (w : World) : Nums (w.alloc (.cells #[.int .i64 0, .int .i64 3, .int .i64 8, .int .i64 15] 3)) w.heap.size 4 (fun z => 0 ≤ z ∧ z ≤ 15) :=
  nums_four w 0 3 8 15 (fun z => 0 ≤ z ∧ z ≤ 15) ⟨by omega, by omega⟩ ⟨by omega, by omega⟩ ⟨by omega, by omega⟩ ⟨by omega, by omega⟩

theorem grown_undrew {w w' : World} {row : Option Nat} (h : w.drew.grownBy w' row) : w.grownBy w' row := ⟨h.os, h.tape, h.output, h.size, h.block⟩
theorem grown_newrow {a b c : World} {row row' : Option Nat} (h : a.grownBy b row) (hg : b.grownBy c row') (hr : ∀ k, row' = some k → a.heap.size ≤ k) : a.grownBy c row :=
  ⟨hg.os.trans h.os, hg.tape.trans h.tape, hg.output.trans h.output, Nat.le_trans h.size hg.size, fun k hk hne => (hg.block k (Nat.lt_of_lt_of_le hk h.size) (fun e => by have := hr k e.symm; omega)).trans (h.block k hk hne)⟩

set_option maxRecDepth 100000 in
set_option maxHeartbeats 8000000 in
theorem l3Graph_any (gr p B : Nat) (w : World) (h : Rdr w B gr p) (hp : p ≤ 1000000) :
    Calls Try.prog 15 #[.pointer (some ⟨gr, 0, none⟩)] w fun e w' => (∃ (L : List ValD) (v : Value) (q : Nat), e = .returned (.agg #[v]) ∧ FromG w.heap.size w' v L ∧ q ≤ p + 1000 ∧ Rdr w' B gr q) ∧ w.grownBy w' (some gr) := by
  have hgr := h.2.1
  have HR := hid h
  clear h
  go_enter Try.func15, Try.ntmps15
  go_wp2_with fail
  have r0_1 : (w.alloc (.cells #[.slice none 0 0] 25)).cell? ⟨w.heap.size, 0, none⟩ = some (.slice none 0 0) := by go_cell
  have rf0_1 : (w.alloc (.cells #[.slice none 0 0] 25)).frozen? ⟨w.heap.size, 0, none⟩ = false := by (first | go_cell | (simp [World.frozen?, World.alloc]; done) | rfl)
  have rl_1 : w.heap.size < (w.alloc (.cells #[.slice none 0 0] 25)).heap.size := by first | (simp; done) | (simp; omega)
  have c1 : Below w.heap.size w (w.alloc (.cells #[.slice none 0 0] 25)) := by go_grown
  have s1 : (w.alloc (.cells #[.slice none 0 0] 25)).heap.size = w.heap.size + 1 := by simp
  generalize (w.alloc (.cells #[.slice none 0 0] 25)) = w1 at r0_1 rf0_1 rl_1 c1 s1 ⊢
  have qr0_1 := cell_regrown r0_1
  have g1 := hid (show w.grownBy w1 (some gr) from grown_wide (grownBelowR c1))
  refine (specGOpenR_any _).mono ?_
  rintro e w2 ⟨⟨g, xs, rfl, hrow⟩, b2⟩
  have d2 : Below w1.heap.size w1 w2 := (Below.trans (by go_grown) (b2.mono (by first | omega | (simp; done) | (simp; omega))))
  have c2 : Below w.heap.size w w2 := c1.trans (d2.mono c1.size)
  have r0_2 : w2.cell? ⟨w.heap.size, 0, none⟩ = some (.slice none 0 0) := (by rw [b2.cell (by first | omega | (simp; done) | (simp; omega))]; go_cell)
  have rf0_2 : w2.frozen? ⟨w.heap.size, 0, none⟩ = false := (by rw [b2.frozen (by first | omega | (simp; done) | (simp; omega))]; (first | go_cell | (simp [World.frozen?, World.alloc]; done) | rfl))
  have rl_2 : w.heap.size < w2.heap.size := (by have := b2.size; first | omega | (revert this; simp; done) | (revert this; simp; omega))
  clear r0_1 rf0_1 rl_1
  have HK2 := hid (hrow.mono (B' := w.heap.size + 1) (by omega))
  have hz2 : w.heap.size < w2.heap.size := rl_2
  clear b2 d2 hrow
  go_wp2_with fail
  have hG3 := hid (show GrL w (w2.alloc (.cells #[.slice (some ⟨g, 0, none⟩) 24 24] 25)) B gr p w2.heap.size (.slice (some ⟨g, 0, none⟩) 24 24) zeroG from by
    have hb : Below w2.heap.size w2 (w2.alloc (.cells #[.slice (some ⟨g, 0, none⟩) 24 24] 25)) := (Below.refl _ w2).alloc (Nat.le_refl _) _
    have ct := c2.trans (hb.mono c2.size)
    exact ⟨HR.out.later ct, grown_wide (grownBelowR ct), hgr, (hb.cell (p := ⟨w.heap.size, 0, none⟩) hz2).trans r0_2, (hb.frozen (p := ⟨w.heap.size, 0, none⟩) hz2).trans rf0_2, by go_cell, by (first | go_cell | (simp [World.frozen?, World.alloc]; done) | rfl),
      ⟨_, heap_alloc_new w2 _⟩, hz2, by simp, ⟨xs, HK2.out.later hb⟩⟩)
  have hs3 : (w2.alloc (.cells #[.slice (some ⟨g, 0, none⟩) 24 24] 25)).heap.size = w2.heap.size + 1 := by simp
  clear HK2 r0_2 rf0_2 rl_2 c2 g1 HR c1 s1
  generalize (w2.alloc (.cells #[.slice (some ⟨g, 0, none⟩) 24 24] 25)) = w3 at *
  generalize w2.heap.size = bg at *
  have hN4 := many_four w3
  rw [hs3] at hN4
  have hA := hid (hG3.out.below (w' := w3.alloc (.cells #[.int .i64 0, .int .i64 3, .int .i64 8, .int .i64 15] 3)) (by go_grown))
  have hg3 := Nat.lt_of_lt_of_le hgr hG3.out.grown.size
  refine (num_any gr p (bg + 1) 4 4 B _ _ hA.out.rdr (by omega) (by omega) (by omega) (by omega) hN4).mono ?_
  rintro e w4 ⟨z0, rfl, hz0, R4, g4⟩
  have hG4 := hid (hA.out.kept R4 g4)
  clear hA hG3 R4 g4 hg3 hN4 hs3
  go_wp2_with fail
  go_loopw [4] (fun i wr => ∃ (z : Int) (q : Nat) (v : Value) (L : List ValD), i = .int .i64 z ∧ 0 ≤ z ∧ z ≤ 15 ∧ q + 20 * z.toNat ≤ p + 400 ∧ Hid (GrL w wr B gr q bg v L) ∧ Hid (okG L = true)) (fun i _ => (intOf i).toNat)
  case atStart => exact ⟨z0, p + 1, _, zeroG, rfl, hz0.1, hz0.2, by omega, hG4, hid okG_zero⟩
  case round =>
    obtain ⟨z, q, v, L, rfl, hz1, hz2', hq, hG, hok⟩ := hrel
    have hlen := hid (okG_true hok.out).1
    obtain ⟨xs2, hrw⟩ := hG.out.row
    obtain ⟨g2, cp2, hv⟩ := ownsRow_succ hrw.1
    subst hv
    have hRG := hid (hrw.rdG hlen.out)
    clear hrw
    have v0 := hG.out.var
    have vf := hG.out.varf
    have hbz := hG.out.sz
    have hbw := hG.out.hbg
    have hBr := hG.out.rdr.1
    have hgrw := Nat.lt_of_lt_of_le hgr hG.out.grown.size
    have hbw' : bg < wr.heap.size := hbz
    by_cases hpos : 0 < z
    · go_upto_region 5 with fail
      go_cut [5, 6] from 15 to 23 (fun s5 s6 wx => GrX w wr B gr q bg (.slice (some ⟨g2, 0, none⟩) 24 cp2) L s5 s6 wx)
      case first =>
        go_region_with (first
          | (go_at_call 16; refine (l3Op_any gr q B _ (hG.out.rdr.later (by go_grown)) (by omega)).mono ?_; rintro e w5 ⟨k, a, c, n, q5, rfl, hB5, hq5, R5, g5⟩; (first | with_reducible have Z5 := VarG.drawn g5 hgrw | skip); have hG5 := hid ((hG.out.below (by go_grown)).kept R5 g5); have hRG5 := hid (show RdG w5 (.slice (some ⟨g2, 0, none⟩) 24 cp2) L from by obtain ⟨xs5, hx5⟩ := hG5.out.row; exact hx5.rdG hlen.out); have s5' := g5.size; have zz5 : wr.heap.size ≤ w5.heap.size := (by simp at s5'; omega); have v05 := hG5.out.var; have b05 := hG5.out.sz; clear R5 g5)
          | (go_at_call 7; refine (specGDo_any _ L k a c n _ (hRG5.out.later (by go_grown)) hok.out).mono ?_; rintro e w6 ⟨⟨v6, xs6, rfl, hr6⟩, b6⟩; obtain ⟨g6, cp6, hv6⟩ := ownsRow_succ hr6.1; subst hv6; have d6 : Below w5.heap.size w5 w6 := (Below.trans (by go_grown) (b6.mono (by first | omega | (simp; done) | (simp; omega)))); (first | (with_reducible have Z6 := VarG.later Z5 d6; have y0 := Z6.c0; have y1 := Z6.f0; have y2 := Z6.lt) | (with_reducible have Z6 := VarG.past b6; have y0 := Z6.c0; have y1 := Z6.f0; have y2 := Z6.lt) | skip); have hG6 := hid (hG5.out.below d6); have hr6 := hid hr6; have s6' := d6.size; clear b6))
        all_goals
          go_wp2_with fail
          go_meet
          first
            | (with_reducible refine GrX.of_new hG6.out (by omega) hB5 hr6.out ?_; first | omega | (simp; omega))
            | (with_reducible refine GrX.of_set Z6 hG6.out (by omega) hB5 hr6.out ?_ ?_ ?_ ?_ <;> first | omega | (simp; done) | (simp; omega) | (have s5q := s5'; simp at s5q; omega) | (have s5q := s5'; simp at s5q; simp; omega))
      case rest =>
        obtain ⟨bx, g', c', q', k, a, c, n, xs', rfl, rfl, hG6, hq6, x0, xl, hr6, hB6⟩ := hcut
        obtain ⟨w6, hw6⟩ : ∃ y, y = wc := ⟨_, rfl⟩
        subst hw6
        have hG6 := hid hG6
        have hr6 := hid hr6
        have hq7 : q' + 20 * (z - 1).toNat ≤ p + 400 := by omega
        have v6 := hG6.out.var
        have vf6 := hG6.out.varf
        have hbz6 := hG6.out.sz
        clear hG v0 vf hbz hRG
        have hokn := hid (okG_do hok.out k a c n)
        cases hO : opOk k a c n with
        | true =>
          have hG7 := hid (hG6.out.put hr6.out hbw')
          go_wp2
          go_roundw
          case rel => exact ⟨z - 1, q', _, _, by go_num, by omega, by omega, hq7, hG7, hokn⟩
          case measure => simp [intOf]; omega
        | false =>
          go_wp2
          go_roundw
          case rel => exact ⟨z - 1, q', _, _, by go_num, by omega, by omega, hq7, hG6, hok⟩
          case measure => simp [intOf]; omega
    · have hz0' : z = 0 := by omega
      subst hz0'
      go_wp2_with fail
      refine (pick_any gr q 30 B _ hG.out.rdr (by omega) (by omega)).mono ?_
      rintro e w7 ⟨r, rfl, hr0, hr1, R7, g7⟩
      have hG7 := hid (hG.out.kept R7 g7)
      clear R7 g7 hG v0 vf hbz hRG
      obtain ⟨xs7, hk⟩ := hG7.out.row
      have hk7 := hid hk
      have hcp : 24 ≤ cp2 := by
        rcases hk.1.2 with ⟨h, _⟩ | ⟨_, _, _, h, _, _, hle, _⟩
        · cases h
        · cases h; exact hle
      obtain ⟨cs7, ht7⟩ := hG7.out.typ
      have HT := hid ht7
      clear hk ht7
      have v7 := hG7.out.var
      have vf7 := hG7.out.varf
      have s7 := hG7.out.res
      have sf7 := hG7.out.resf
      have hbz7 := hG7.out.sz
      have hgl7 := (hk7.out.1.lt g2 rfl).2
      have hB1 := (hk7.out.1.lt g2 rfl).1
      have HQ := hid (show q ≤ p + 400 from by omega)
      have hwb : w.heap.size ≠ bg := by omega
      have hgg : w.heap.size ≠ g2 := by omega
      have hgb : bg ≠ g2 := fun e => row_off_typ hk7.out.1 HT.out (by show some g2 = some bg; rw [e])
      by_cases e0 : r = 0
      · subst e0
        have HF := hid (((hk7.out.offVar (x := .slice (some ⟨g2, 0, none⟩) 20 cp2) HT.out).fromTake hlen.out (show 20 ≤ 24 by omega) cp2).set (p := ⟨w.heap.size, 0, none⟩) (by show w.heap.size < w.heap.size + 1; omega) (.slice (some ⟨g2, 0, none⟩) 20 cp2))
        have HRR := hid ((hG7.out.rdr.setFar (a := ⟨bg, 0, none⟩) (by show B ≤ bg; omega) (by show ¬ bg = gr; omega) (.slice (some ⟨g2, 0, none⟩) 20 cp2)).setFar (a := ⟨w.heap.size, 0, none⟩) (by show B ≤ w.heap.size; omega) (by show ¬ w.heap.size = gr; omega) (.slice (some ⟨g2, 0, none⟩) 20 cp2))
        have HGG := hid (grown_set_new (grown_set_new hG7.out.grown (a := ⟨bg, 0, none⟩) (by show w.heap.size ≤ bg; omega) (.slice (some ⟨g2, 0, none⟩) 20 cp2)) (a := ⟨w.heap.size, 0, none⟩) (Nat.le_refl _) (.slice (some ⟨g2, 0, none⟩) 20 cp2))
        have x0 : ((w7.setCell ⟨bg, 0, none⟩ (.slice (some ⟨g2, 0, none⟩) 20 cp2)).setCell ⟨w.heap.size, 0, none⟩ (.slice (some ⟨g2, 0, none⟩) 20 cp2)).cell? ⟨w.heap.size, 0, none⟩ = some (.slice (some ⟨g2, 0, none⟩) 20 cp2) := by go_cell
        go_wp2
        refine bodyPost_ret (v := .agg #[.slice (some ⟨g2, 0, none⟩) 20 cp2]) (by simp [results, Try.results15, go_sem, x0]) rfl ⟨⟨_, _, _, rfl, HF.out.mono (by omega), ?_, HRR.out⟩, HGG.out⟩
        have := HQ.out
        omega
      by_cases e1 : r = 1
      · subst e1
        obtain ⟨h8, u8, hu8, ho8⟩ := hk7.out.2 8 (by omega)
        have hlk : (L.getD 8 valD0).2.length ≤ 8 := okL_le ((okG_true hok.out).2.1.ok (by omega))
        generalize L.getD 8 valD0 = l8 at h8 ho8 hlk
        obtain ⟨uo, uc, huv, _⟩ := ho8.rd
        have hu8c : w7.cell? ⟨g2, 17, none⟩ = some u8 := (hk7.out.1.cellAt 17 (by omega)).trans hu8
        subst huv
        obtain ⟨i0, hi, hz0, hz1, hz2⟩ := info_parts Try.info114
        have hal := hid ((Below.refl w7.heap.size w7).alloc (Nat.le_refl _) (.cells #[.int .i64 7, .int .i64 0] 114))
        have hk8 := hid (hk7.out.later hal.out)
        have ho8' := hid ((ho8.later hal.out) : Own _ _ _ _)
        have HU8 := hid hu8
        have hGa := hid (hG7.out.below hal.out)
        have HNW := hid (cells_two_new w7 (.int .i64 7) (.int .i64 0) 114)
        have f17 := hk7.out.frz 17
        have hkm : l8.2.length + 1 ≤ maxLen := by unfold maxLen; omega
        have hkb : (l8.2.length + 1) * 16 ≤ 140737488355328 := by omega
        have hzz : w.heap.size + 1 ≤ (w7.alloc (.cells #[.int .i64 7, .int .i64 0] 114)).heap.size := by simp; omega
        have hne17 : some (⟨g2, 17, none⟩ : Addr).block ≠ (Value.slice uo l8.2.length uc).ownBlock := fun e => own_off_row hk7.out.1 ho8 g2 rfl e.symm
        have c17 := hid ((hal.out.cell (p := ⟨g2, 17, none⟩) hgl7).trans hu8c)
        have f17a := hid ((hal.out.frozen (p := ⟨g2, 17, none⟩) hgl7).trans f17)
        have hgla := Nat.lt_of_lt_of_le hgl7 hal.out.size
        have hneb : some (⟨bg, 0, none⟩ : Addr).block ≠ (Value.slice uo l8.2.length uc).ownBlock := fun e => kin_off_typ ho8 HT.out e.symm
        have hner : some (⟨w.heap.size, 0, none⟩ : Addr).block ≠ (Value.slice uo l8.2.length uc).ownBlock := fun e => by have := (ho8.block _ e.symm).1; simp only at this; omega
        have vb0 := hid (hGa.out.var)
        have sb0 := hid (hGa.out.res)
        have sbf := hid (hGa.out.resf)
        have hszr : w.heap.size < (w7.alloc (.cells #[.int .i64 7, .int .i64 0] 114)).heap.size := by omega
        clear hu8 ho8 h8
        go_wp2_with fail
        go_region_law (first
          | (refine step_append_own rfl _ _ 60 rfl (w.heap.size + 1) 114 i0 (.agg #[.int .i64 0, .int .i64 0]) 2 16 Try.underlying60 hi hz0 hz1 hz2 rfl (by decide) (.slice uo l8.2.length uc) l8.2.length _ (by simp [Act.eval]) ho8'.out ⟨w7.heap.size, 0, none⟩ 1 1 [.int .i64 7, .int .i64 0] (by simp [Act.eval]) rfl HNW.out (by simp [Value.oneCell']) hkm hkb hzz ?_; intro v9 w9 hown9 hgrow9 _; obtain ⟨g9, c9, hv9⟩ := ownsRow_succ hown9; subst hv9; have HO9 := hid hown9; have HG9 := hid (grown_undrew hgrow9); have y17 := hgrow9.cell c17.out hne17; have yb := hgrow9.cell vb0.out hneb; have yr := hgrow9.cell sb0.out hner; have yf := (hgrow9.frozen_far ⟨w.heap.size, 0, none⟩ hszr hner).trans sbf.out; have z17 := (hgrow9.frozen_far ⟨g2, 17, none⟩ hgla hne17).trans f17a.out; clear hown9 hgrow9))
        all_goals
          have HOw := hid (show Own w9 (w.heap.size + 1) (.slice (some ⟨g9, 0, none⟩) (l8.2.length + 1) c9) (l8.2 ++ [(7, 0)]) from by
            have h := HO9.out
            show World.ownsRow _ _ _ _ _ _ _
            rw [ecells_append, List.length_append]
            exact h)
          have HF := hid ((RowN.kin hk8.out hlen.out (show 8 < 24 by omega) HU8.out HG9.out HOw.out).set (p := ⟨w.heap.size, 0, none⟩) (by show w.heap.size < w.heap.size + 1; omega) (.slice (some ⟨g2, 0, none⟩) 24 cp2))
          have hrow9 : ∀ j, (Value.slice uo l8.2.length uc).ownBlock = some j → w.heap.size + 1 ≤ j := fun j hj => (ho8'.out.block j hj).1
          have R9 := hid (hGa.out.rdr.kept HG9.out (fun j e => by have := hrow9 j e; have := hGa.out.rdr.1; omega) (fun e => by have := hrow9 gr e; omega))
          have HRR := hid ((R9.out.setFar (a := ⟨g2, 17, none⟩) (by show B ≤ g2; omega) (by show ¬ g2 = gr; omega) (.slice (some ⟨g9, 0, none⟩) (l8.2.length + 1) c9)).setFar (a := ⟨w.heap.size, 0, none⟩) (by show B ≤ w.heap.size; omega) (by show ¬ w.heap.size = gr; omega) (.slice (some ⟨g2, 0, none⟩) 24 cp2))
          have G9 := hid (grown_newrow hGa.out.grown HG9.out (fun j e => by have := hrow9 j e; omega))
          have HGG := hid (grown_set_new (grown_set_new G9.out (a := ⟨g2, 17, none⟩) (by show w.heap.size ≤ g2; omega) (.slice (some ⟨g9, 0, none⟩) (l8.2.length + 1) c9)) (a := ⟨w.heap.size, 0, none⟩) (Nat.le_refl _) (.slice (some ⟨g2, 0, none⟩) 24 cp2))
          have x0 : ((w9.setCell ⟨g2, 17, none⟩ (.slice (some ⟨g9, 0, none⟩) (l8.2.length + 1) c9)).setCell ⟨w.heap.size, 0, none⟩ (.slice (some ⟨g2, 0, none⟩) 24 cp2)).cell? ⟨w.heap.size, 0, none⟩ = some (.slice (some ⟨g2, 0, none⟩) 24 cp2) := by go_cell
          go_wp2
          refine bodyPost_ret (v := .agg #[.slice (some ⟨g2, 0, none⟩) 24 cp2]) (by simp [results, Try.results15, go_sem, x0]) rfl ⟨⟨_, _, _, rfl, HF.out.mono (by omega), ?_, HRR.out⟩, HGG.out⟩
          have := HQ.out
          omega
      by_cases e2 : r = 2
      · subst e2
        have HF := hid ((show FromG (w.heap.size + 1) (w7.setCell ⟨g2, 2, none⟩ (.int .i64 (-1))) (.slice (some ⟨g2, 0, none⟩) 24 cp2) _ from hk7.out.num hlen.out (show 1 < 24 by omega) (-1)).set (p := ⟨w.heap.size, 0, none⟩) (by show w.heap.size < w.heap.size + 1; omega) (.slice (some ⟨g2, 0, none⟩) 24 cp2))
        have hg2g : g2 ≠ gr := by omega
        have HRR := hid ((hG7.out.rdr.setFar (a := ⟨g2, 2, none⟩) (by show B ≤ g2; omega) (by show ¬ g2 = gr; omega) (.int .i64 (-1))).setFar (a := ⟨w.heap.size, 0, none⟩) (by show B ≤ w.heap.size; omega) (by show ¬ w.heap.size = gr; omega) (.slice (some ⟨g2, 0, none⟩) 24 cp2))
        have HGG := hid (grown_set_new (grown_set_new hG7.out.grown (a := ⟨g2, 2, none⟩) (by show w.heap.size ≤ g2; omega) (.int .i64 (-1))) (a := ⟨w.heap.size, 0, none⟩) (Nat.le_refl _) (.slice (some ⟨g2, 0, none⟩) 24 cp2))
        have y2 : ∃ y, w7.cell? ⟨g2, 2, none⟩ = some y := ⟨_, hk7.out.c0 (k := 1) (by omega)⟩
        obtain ⟨y, y2⟩ := y2
        have f2 := hk7.out.frz 2
        have x0 : ((w7.setCell ⟨g2, 2, none⟩ (.int .i64 (-1))).setCell ⟨w.heap.size, 0, none⟩ (.slice (some ⟨g2, 0, none⟩) 24 cp2)).cell? ⟨w.heap.size, 0, none⟩ = some (.slice (some ⟨g2, 0, none⟩) 24 cp2) := by go_cell
        go_wp2
        refine bodyPost_ret (v := .agg #[.slice (some ⟨g2, 0, none⟩) 24 cp2]) (by simp [results, Try.results15, go_sem, x0]) rfl ⟨⟨_, _, _, rfl, HF.out.mono (by omega), ?_, HRR.out⟩, HGG.out⟩
        have := HQ.out
        omega
      have e0' : (r == 0) = false := by simpa using e0
      have e1' : (r == 1) = false := by simpa using e1
      have e2' : (r == 2) = false := by simpa using e2
      have HF := hid ((hk7.out.from hlen.out).set (p := ⟨w.heap.size, 0, none⟩) (by show w.heap.size < w.heap.size + 1; omega) (.slice (some ⟨g2, 0, none⟩) 24 cp2))
      have HRR := hid (hG7.out.rdr.setFar (a := ⟨w.heap.size, 0, none⟩) (by show B ≤ w.heap.size; omega) (by show ¬ w.heap.size = gr; omega) (.slice (some ⟨g2, 0, none⟩) 24 cp2))
      have HGG := hid (grown_set_new hG7.out.grown (a := ⟨w.heap.size, 0, none⟩) (Nat.le_refl _) (.slice (some ⟨g2, 0, none⟩) 24 cp2))
      have x0 : (w7.setCell ⟨w.heap.size, 0, none⟩ (.slice (some ⟨g2, 0, none⟩) 24 cp2)).cell? ⟨w.heap.size, 0, none⟩ = some (.slice (some ⟨g2, 0, none⟩) 24 cp2) := by go_cell
      go_wp2
      refine bodyPost_ret (v := .agg #[.slice (some ⟨g2, 0, none⟩) 24 cp2]) (by simp [results, Try.results15, go_sem, x0]) rfl ⟨⟨_, _, _, rfl, HF.out.mono (by omega), ?_, HRR.out⟩, HGG.out⟩
      have := HQ.out
      omega
end Go.Proofs.Ytkmhnjgncnoddaa

/- Part: The draws of a write and of what a key has: contracts. -/
namespace Go.Proofs.Ytkmhnjgncnoddaa
open Go.RowKit
attribute [local go_sem ↓] Go.wp_at_zero Go.wp_at_succ

/-- A write's variable in block b. -/
structure V4 (wr : World) (b : Nat) (k a c n : Int) : Prop where
  c0 : wr.cell? ⟨b, 0, none⟩ = some (.int .i64 k)
  c1 : wr.cell? ⟨b, 1, none⟩ = some (.int .i64 a)
  c2 : wr.cell? ⟨b, 2, none⟩ = some (.int .i64 c)
  c3 : wr.cell? ⟨b, 3, none⟩ = some (.int .i64 n)
  fr : ∀ o, wr.frozen? ⟨b, o, none⟩ = false
  lt : b < wr.heap.size
theorem V4.kept {wr w' : World} {b g : Nat} {k a c n : Int} (h : V4 wr b k a c n) (hg : wr.grownBy w' (some g)) (hne : b ≠ g) : V4 w' b k a c n :=
  ⟨hg.cell h.c0 (fun e => hne (Option.some.inj e)), hg.cell h.c1 (fun e => hne (Option.some.inj e)), hg.cell h.c2 (fun e => hne (Option.some.inj e)), hg.cell h.c3 (fun e => hne (Option.some.inj e)),
    fun o => (hg.frozen_far ⟨b, o, none⟩ h.lt (fun e => hne (Option.some.inj e))).trans (h.fr o), Nat.lt_of_lt_of_le h.lt hg.size⟩
theorem V4.below {wr w' : World} {b : Nat} {k a c n : Int} (h : V4 wr b k a c n) (hb : Below wr.heap.size wr w') : V4 w' b k a c n :=
  ⟨(hb.cell (p := ⟨b, 0, none⟩) h.lt).trans h.c0, (hb.cell (p := ⟨b, 1, none⟩) h.lt).trans h.c1, (hb.cell (p := ⟨b, 2, none⟩) h.lt).trans h.c2, (hb.cell (p := ⟨b, 3, none⟩) h.lt).trans h.c3,
    fun o => (hb.frozen (p := ⟨b, o, none⟩) h.lt).trans (h.fr o), Nat.lt_of_lt_of_le h.lt hb.size⟩
theorem V4.new (w : World) (k a c n : Int) : V4 (w.alloc (.cells #[.int .i64 k, .int .i64 a, .int .i64 c, .int .i64 n] 27)) w.heap.size k a c n :=
  ⟨by go_cell, by go_cell, by go_cell, by go_cell, fun o => by (first | go_cell | (simp [World.frozen?, World.alloc]; done) | rfl), by simp⟩



end Go.Proofs.Ytkmhnjgncnoddaa

/- Part: DrawGraphDo: contract. -/
namespace Go.Proofs.Ytkmhnjgncnoddaa
open Go.RowKit
attribute [local go_sem ↓] Go.wp_at_zero Go.wp_at_succ

/-- A graph's variable of the call's own, not yet written: block b. -/
structure G1 (w : World) (b : Nat) : Prop where
  c0 : w.cell? ⟨b, 0, none⟩ = some (.slice none 0 0)
  f0 : w.frozen? ⟨b, 0, none⟩ = false
  lt : b < w.heap.size
theorem G1.kept {w w' : World} {b g : Nat} (h : G1 w b) (hg : w.grownBy w' (some g)) (hne : b ≠ g) : G1 w' b :=
  ⟨hg.cell h.c0 (fun e => hne (Option.some.inj e)), (hg.frozen_far ⟨b, 0, none⟩ h.lt (fun e => hne (Option.some.inj e))).trans h.f0, Nat.lt_of_lt_of_le h.lt hg.size⟩
theorem G1.below {w w' : World} {b : Nat} (h : G1 w b) (hb : Below w.heap.size w w') : G1 w' b :=
  ⟨(hb.cell (p := ⟨b, 0, none⟩) h.lt).trans h.c0, (hb.frozen (p := ⟨b, 0, none⟩) h.lt).trans h.f0, Nat.lt_of_lt_of_le h.lt hb.size⟩

set_option maxRecDepth 100000 in
set_option maxHeartbeats 4000000 in
theorem drawGraphDo_any (v : Value) (n : Nat) (w : World) (h : Bs w v n) :
    Calls Try.prog 5 #[v] w fun e w' => (∃ (L : List ValD) (uo : Option Addr) (uc : Nat) (k a c x : Int), e = .returned (.tuple #[.agg #[.slice uo L.length uc], .agg #[.int .i64 k, .int .i64 a, .int .i64 c, .int .i64 x]]) ∧ RdG w' (.slice uo L.length uc) L) ∧ Below w.heap.size w w' := by
  have hO1 := hid (show G1 ((w.alloc (.cells #[.slice none 0 0] 25)).alloc (.cells #[.int .i64 0, .int .i64 0, .int .i64 0, .int .i64 0] 27)) w.heap.size from ⟨by go_cell, by (first | go_cell | (simp [World.frozen?, World.alloc]; done) | rfl), by simp; omega⟩)
  have hA1 := hid (V4.new (w.alloc (.cells #[.slice none 0 0] 25)) 0 0 0 0)
  have hW0 := hid (show Below w.heap.size w ((w.alloc (.cells #[.slice none 0 0] 25)).alloc (.cells #[.int .i64 0, .int .i64 0, .int .i64 0, .int .i64 0] 27)) from by go_grown)
  have hWs : w.heap.size + 1 < ((w.alloc (.cells #[.slice none 0 0] 25)).alloc (.cells #[.int .i64 0, .int .i64 0, .int .i64 0, .int .i64 0] 27)).heap.size := by simp
  have hss : (w.alloc (.cells #[.slice none 0 0] 25)).heap.size = w.heap.size + 1 := by simp
  rw [hss] at hA1
  have hbs := hid (h.later hW0.out)
  obtain ⟨ao, cap, rfl, h0, h1, h2, h3⟩ := h
  go_enter Try.func5, Try.ntmps5
  go_wp2_with fail
  generalize (w.alloc (.cells #[.slice none 0 0] 25)).alloc (.cells #[.int .i64 0, .int .i64 0, .int .i64 0, .int .i64 0] 27) = W at hO1 hA1 hW0 hWs hbs ⊢
  obtain ⟨ao', cap', hv', _, _, _, h3'⟩ := hbs.out
  cases hv'
  refine (open_any ao n cap _ h0 h1 h2 h3').mono ?_
  rintro e w1 ⟨g, rfl, R1, b1⟩
  have hgW : W.heap.size ≤ g := R1.1
  have hne0 : w.heap.size ≠ g := by omega
  have hne1 : w.heap.size + 1 ≠ g := by omega
  have hg1 := R1.2.1
  have hO2 := hid (hO1.out.below b1)
  have hA2 := hid (hA1.out.below b1)
  have c1 := hid (hW0.out.trans (b1.mono hW0.out.size))
  have HR1 := hid R1
  have hW1 := b1.size
  clear b1 R1
  go_wp2_with fail
  refine (l3Graph_any g 0 _ _ HR1.out (by omega)).mono ?_
  rintro e w2 ⟨⟨L, u, q, rfl, hF, hq, R2⟩, g2⟩
  obtain ⟨uo, uc, hu, _⟩ := hF.rd
  subst hu
  have hF2 := hid hF
  have hO3 := hid (hO2.out.kept g2 hne0)
  have hA3 := hid (hA2.out.kept g2 hne1)
  have c2 := hid (show Below w.heap.size w w2 from c1.out.grown g2 c1.out.size (fun j e => by have : g = j := Option.some.inj e; omega))
  have HR2 := hid R2
  have hz2 := g2.size
  clear hA2 hO2 HR1 g2 R2 hF c1 hO1 hA1
  go_upto_region 3 with fail
  have hal := hid (show Below w2.heap.size w2 (w2.alloc (.cells #[.slice uo L.length uc] 25)) from (Below.refl _ w2).alloc (Nat.le_refl _) _)
  have k0 : (w2.alloc (.cells #[.slice uo L.length uc] 25)).cell? ⟨w2.heap.size, 0, none⟩ = some (.slice uo L.length uc) := by go_cell
  have hO4 := hid (hO3.out.below hal.out)
  have hA4 := hid (hA3.out.below hal.out)
  have HR4 := hid (HR2.out.later hal.out)
  have hF4 := hid (hF2.out.later hal.out)
  have c4 := hid (c2.out.trans (hal.out.mono c2.out.size))
  have hb4 : w2.heap.size < (w2.alloc (.cells #[.slice uo L.length uc] 25)).heap.size := by simp
  have hbg : w2.heap.size ≠ g := by omega
  clear hO3 hA3 HR2 hF2 c2 hal
  generalize (w2.alloc (.cells #[.slice uo L.length uc] 25)) = w3 at *
  generalize w2.heap.size = bx at *
  go_region_with (first
    | (go_at_call 16; refine (l3Op_any g q _ _ (HR4.out.later (by go_grown)) (by omega)).mono ?_; rintro e w4 ⟨k, a, c, x, q4, rfl, hB, hq4, R4, g4⟩; have g4' : w3.grownBy w4 (some g) := ⟨g4.os, g4.tape, g4.output, g4.size, g4.block⟩; have hO5 := hid (hO4.out.kept g4' hne0); have hA5 := hid (hA4.out.kept g4' hne1); have hF5 := hid (hF4.out.grown g4' hg1); have k5 := g4'.cell k0 (fun e => hbg (Option.some.inj e)); have b5 : bx < w4.heap.size := Nat.lt_of_lt_of_le hb4 g4'.size; have c5 := hid (show Below w.heap.size w w4 from c4.out.grown g4' c4.out.size (fun j e => (by have h9 : g = j := Option.some.inj e; omega))); have r0 := hO5.out.c0; have s0 := hO5.out.f0; have y0 := hA5.out.c0; have y1 := hA5.out.c1; have y2 := hA5.out.c2; have y3 := hA5.out.c3; have x0 := hA5.out.fr 0; have x1 := hA5.out.fr 1; have x2 := hA5.out.fr 2; have x3 := hA5.out.fr 3; clear g4 R4))
  all_goals
    have HF := hid (((((hF5.out.set (p := ⟨w.heap.size, 0, none⟩) (by show w.heap.size < _; omega) (.slice uo L.length uc)).set (p := ⟨w.heap.size + 1, 0, none⟩) (by show w.heap.size + 1 < _; omega) (.int .i64 k)).set (p := ⟨w.heap.size + 1, 1, none⟩) (by show w.heap.size + 1 < _; omega) (.int .i64 a)).set (p := ⟨w.heap.size + 1, 2, none⟩) (by show w.heap.size + 1 < _; omega) (.int .i64 c)).set (p := ⟨w.heap.size + 1, 3, none⟩) (by show w.heap.size + 1 < _; omega) (.int .i64 x)).rd
    have HL := hid (((((c5.out.setCell (p := ⟨w.heap.size, 0, none⟩) (by show w.heap.size ≤ w.heap.size; omega) (.slice uo L.length uc)).setCell (p := ⟨w.heap.size + 1, 0, none⟩) (by show w.heap.size ≤ w.heap.size + 1; omega) (.int .i64 k)).setCell (p := ⟨w.heap.size + 1, 1, none⟩) (by show w.heap.size ≤ w.heap.size + 1; omega) (.int .i64 a)).setCell (p := ⟨w.heap.size + 1, 2, none⟩) (by show w.heap.size ≤ w.heap.size + 1; omega) (.int .i64 c)).setCell (p := ⟨w.heap.size + 1, 3, none⟩) (by show w.heap.size ≤ w.heap.size + 1; omega) (.int .i64 x))
    have e0 : (((((w4.setCell ⟨w.heap.size, 0, none⟩ (.slice uo L.length uc)).setCell ⟨w.heap.size + 1, 0, none⟩ (.int .i64 k)).setCell ⟨w.heap.size + 1, 1, none⟩ (.int .i64 a)).setCell ⟨w.heap.size + 1, 2, none⟩ (.int .i64 c)).setCell ⟨w.heap.size + 1, 3, none⟩ (.int .i64 x)).cell? ⟨w.heap.size, 0, none⟩ = some (.slice uo L.length uc) := by go_cell
    have e1 : (((((w4.setCell ⟨w.heap.size, 0, none⟩ (.slice uo L.length uc)).setCell ⟨w.heap.size + 1, 0, none⟩ (.int .i64 k)).setCell ⟨w.heap.size + 1, 1, none⟩ (.int .i64 a)).setCell ⟨w.heap.size + 1, 2, none⟩ (.int .i64 c)).setCell ⟨w.heap.size + 1, 3, none⟩ (.int .i64 x)).cell? ⟨w.heap.size + 1, 0, none⟩ = some (.int .i64 k) := by go_cell
    have e2 : (((((w4.setCell ⟨w.heap.size, 0, none⟩ (.slice uo L.length uc)).setCell ⟨w.heap.size + 1, 0, none⟩ (.int .i64 k)).setCell ⟨w.heap.size + 1, 1, none⟩ (.int .i64 a)).setCell ⟨w.heap.size + 1, 2, none⟩ (.int .i64 c)).setCell ⟨w.heap.size + 1, 3, none⟩ (.int .i64 x)).cell? ⟨w.heap.size + 1, 1, none⟩ = some (.int .i64 a) := by go_cell
    have e3 : (((((w4.setCell ⟨w.heap.size, 0, none⟩ (.slice uo L.length uc)).setCell ⟨w.heap.size + 1, 0, none⟩ (.int .i64 k)).setCell ⟨w.heap.size + 1, 1, none⟩ (.int .i64 a)).setCell ⟨w.heap.size + 1, 2, none⟩ (.int .i64 c)).setCell ⟨w.heap.size + 1, 3, none⟩ (.int .i64 x)).cell? ⟨w.heap.size + 1, 2, none⟩ = some (.int .i64 c) := by go_cell
    have e4 : (((((w4.setCell ⟨w.heap.size, 0, none⟩ (.slice uo L.length uc)).setCell ⟨w.heap.size + 1, 0, none⟩ (.int .i64 k)).setCell ⟨w.heap.size + 1, 1, none⟩ (.int .i64 a)).setCell ⟨w.heap.size + 1, 2, none⟩ (.int .i64 c)).setCell ⟨w.heap.size + 1, 3, none⟩ (.int .i64 x)).cell? ⟨w.heap.size + 1, 3, none⟩ = some (.int .i64 x) := by go_cell
    go_wp2
    refine bodyPost_ret (v := .tuple #[.agg #[.slice uo L.length uc], .agg #[.int .i64 k, .int .i64 a, .int .i64 c, .int .i64 x]]) (by simp [results, Try.results5, go_sem, e0, e1, e2, e3, e4]) rfl ⟨⟨_, _, _, _, _, _, _, rfl, HF.out⟩, HL.out⟩
end Go.Proofs.Ytkmhnjgncnoddaa

/- Part: A write done twice, parted behind it, and beside another one: plain facts. -/
namespace Go.Proofs.Ytkmhnjgncnoddaa
open Go.RowKit

theorem rows_ext {L M : List ValD} (hl : L.length = 24) (hm : M.length = 24) (h : ∀ j, j < 24 → L.getD j valD0 = M.getD j valD0) : L = M := by
  refine List.ext_getElem (by rw [hl, hm]) fun j hj hj' => ?_
  have e1 : L[j] = L.getD j valD0 := by rw [List.getD_eq_getElem?_getD, List.getElem?_eq_getElem hj]; rfl
  have e2 : M[j] = M.getD j valD0 := by rw [List.getD_eq_getElem?_getD, List.getElem?_eq_getElem hj']; rfl
  rw [e1, e2]
  exact h j (by rw [hl] at hj; exact hj)
/-- Two rows are set: what each row is then. -/
theorem getD_set2 {M : List ValD} {i j k : Nat} {x y : ValD} (hm : M.length = 24) (hi : i < 24) (hj : j < 24) : ((M.set i x).set j y).getD k valD0 = if k = j then y else if k = i then x else M.getD k valD0 := by
  rw [getD_set (by rw [List.length_set, hm]; exact hj), getD_set (by rw [hm]; exact hi)]
theorem doG_len24 {L : List ValD} (h : L.length = 24) (k a b n : Int) : (doG L k a b n).length = 24 := by rw [doG_length, h]
/-- Keys that a write is not of have what they had. -/
theorem doG_other {L : List ValD} (hl : L.length = 24) (k a b n : Int) {j : Nat} (h1 : (j : Int) ≠ opKey k a b n) (h2 : (j : Int) ≠ opOther k a b n) : (doG L k a b n).getD j valD0 = L.getD j valD0 := by
  cases ho : opOk k a b n with
  | true =>
    obtain ⟨J, hJ, e, hW⟩ := doG_ways L ho
    rw [e] at h1
    rcases hW with ⟨-, hD⟩ | ⟨I, hI, -, eI, hD⟩
    · rw [hD, getD_set (by rw [hl]; exact hJ), if_neg (by omega)]
    · rw [eI] at h2
      rw [hD, getD_set2 hl hJ hI, if_neg (by omega), if_neg (by omega)]
  | false =>
    rcases op_ways k a b n with ⟨_, e, _⟩ | ⟨_, e, _⟩ | ⟨_, e, _⟩ | ⟨g1, g2, g3, _⟩
    · rw [ho] at e; cases e
    · rw [ho] at e; cases e
    · rw [ho] at e; cases e
    · rw [doG, if_neg g1, if_neg g2, if_neg g3]
/-- A write done twice is done once. -/
theorem doG_twice {L : List ValD} (h : okG L = true) (k a b n : Int) : doG (doG L k a b n) k a b n = doG L k a b n := by
  obtain ⟨hL, hR, -⟩ := okG_iff.1 h
  refine rows_ext (doG_len24 (doG_len24 hL _ _ _ _) _ _ _ _) (doG_len24 hL _ _ _ _) fun j hj => ?_
  rcases op_ways k a b n with ⟨hs, -⟩ | ⟨hs, -⟩ | ⟨hs, -⟩ | ⟨g1, g2, g3, -⟩
  · have ha := hs.2.1
    simp only [doG, if_pos hs]
    rw [getD_set (by rw [List.length_set, hL]; omega), getD_set (by rw [hL]; omega)]
    split <;> rfl
  · have g1 : ¬ setOk k a b n := fun h => by have := h.1; have := hs.1; omega
    obtain ⟨_, ha, hb, _, hn⟩ := id hs
    have o1 := hR.ok (k := 16 + a.toNat) (by omega)
    have o2 := hR.ok (k := 8 + b.toNat) (by omega)
    have r1 : rightB (b, n) = true := rightB_iff.2 ⟨hb.1, hb.2, hn.1, hn.2⟩
    have r2 : rightB (a, n) = true := rightB_iff.2 ⟨ha.1, ha.2, hn.1, hn.2⟩
    have i1 : 16 + a.toNat < 24 := by omega
    have i2 : 8 + b.toNat < 24 := by omega
    simp only [doG, if_neg g1, if_pos hs]
    rw [addL_yes (addB_iff.2 ⟨o1, r1⟩), addL_yes (addB_iff.2 ⟨o2, r2⟩)]
    have hM : ((L.set (16 + a.toNat) (0, putL (L.getD (16 + a.toNat) valD0).2 b n)).set (8 + b.toNat) (0, putL (L.getD (8 + b.toNat) valD0).2 a n)).length = 24 := by simp [hL]
    rw [getD_set2 hM i1 i2, getD_set2 hL i1 i2, getD_set2 hL i1 i2, getD_set2 hL i1 i2]
    rw [if_neg (show ¬ 16 + a.toNat = 8 + b.toNat by omega), if_pos rfl, if_pos rfl]
    split
    · show ((0 : Int), addL (putL _ a n) a n) = _
      rw [addL_yes (addB_iff.2 ⟨okL_put o2 r2, r2⟩), put_put_eq o2 r2 r2]
    · split
      · show ((0 : Int), addL (putL _ b n) b n) = _
        rw [addL_yes (addB_iff.2 ⟨okL_put o1 r1, r1⟩), put_put_eq o1 r1 r1]
      · rfl
  · have g1 : ¬ setOk k a b n := fun h => by have := h.1; have := hs.1; omega
    have g2 : ¬ bindOk k a b n := fun h => by have := h.1; have := hs.1; omega
    obtain ⟨_, ha, hb, _, hn⟩ := id hs
    have o1 := hR.ok (k := 16 + a.toNat) (by omega)
    have o2 := hR.ok (k := 8 + b.toNat) (by omega)
    have i1 : 16 + a.toNat < 24 := by omega
    have i2 : 8 + b.toNat < 24 := by omega
    simp only [doG, if_neg g1, if_neg g2, if_pos hs]
    rw [dropL_yes o1, dropL_yes o2]
    have hM : ((L.set (16 + a.toNat) (0, (L.getD (16 + a.toNat) valD0).2.filter (notWho b))).set (8 + b.toNat) (0, (L.getD (8 + b.toNat) valD0).2.filter (notWho a))).length = 24 := by simp [hL]
    rw [getD_set2 hM i1 i2, getD_set2 hL i1 i2, getD_set2 hL i1 i2, getD_set2 hL i1 i2]
    rw [if_neg (show ¬ 16 + a.toNat = 8 + b.toNat by omega), if_pos rfl, if_pos rfl]
    split
    · show ((0 : Int), dropL (List.filter _ _) a) = _
      rw [dropL_yes (okL_filter _ _ o2), List.filter_filter]
      simp
    · split
      · show ((0 : Int), dropL (List.filter _ _) b) = _
        rw [dropL_yes (okL_filter _ _ o1), List.filter_filter]
        simp
      · rfl
  · simp only [doG, if_neg g1, if_neg g2, if_neg g3]
/-- A bond that is parted is as if it had not been bound. -/
theorem doG_part {L : List ValD} (h : okG L = true) {k a b n : Int} (hs : bindOk k a b n) : doG (doG L k a b n) 3 a b 0 = doG L 3 a b 0 := by
  obtain ⟨hL, hR, -⟩ := okG_iff.1 h
  refine rows_ext (doG_len24 (doG_len24 hL _ _ _ _) _ _ _ _) (doG_len24 hL _ _ _ _) fun j hj => ?_
  have g1 : ¬ setOk k a b n := fun h => by have := h.1; have := hs.1; omega
  obtain ⟨_, ha, hb, hne, hn⟩ := id hs
  have p1 : ¬ setOk 3 a b 0 := fun h => by have := h.1; omega
  have p2 : ¬ bindOk 3 a b 0 := fun h => by have := h.1; omega
  have p3 : partOk 3 a b 0 := ⟨rfl, ha, hb, hne, rfl⟩
  have o1 := hR.ok (k := 16 + a.toNat) (by omega)
  have o2 := hR.ok (k := 8 + b.toNat) (by omega)
  have r1 : rightB (b, n) = true := rightB_iff.2 ⟨hb.1, hb.2, hn.1, hn.2⟩
  have r2 : rightB (a, n) = true := rightB_iff.2 ⟨ha.1, ha.2, hn.1, hn.2⟩
  have i1 : 16 + a.toNat < 24 := by omega
  have i2 : 8 + b.toNat < 24 := by omega
  simp only [doG, if_neg g1, if_pos hs, if_neg p1, if_neg p2, if_pos p3]
  rw [addL_yes (addB_iff.2 ⟨o1, r1⟩), addL_yes (addB_iff.2 ⟨o2, r2⟩), dropL_yes o1, dropL_yes o2]
  have hM : ((L.set (16 + a.toNat) (0, putL (L.getD (16 + a.toNat) valD0).2 b n)).set (8 + b.toNat) (0, putL (L.getD (8 + b.toNat) valD0).2 a n)).length = 24 := by simp [hL]
  rw [getD_set2 hM i1 i2, getD_set2 hL i1 i2, getD_set2 hL i1 i2, getD_set2 hL i1 i2, getD_set2 hL i1 i2]
  rw [if_neg (show ¬ 16 + a.toNat = 8 + b.toNat by omega), if_pos rfl, if_pos rfl]
  split
  · show ((0 : Int), dropL (putL _ a n) a) = _
    rw [dropL_yes (okL_put o2 r2), put_drop o2 r2]
  · split
    · show ((0 : Int), dropL (putL _ b n) b) = _
      rw [dropL_yes (okL_put o1 r1), put_drop o1 r1]
    · rfl
end Go.Proofs.Ytkmhnjgncnoddaa

/- Part: Two writes of one graph: plain facts. -/
namespace Go.Proofs.Ytkmhnjgncnoddaa
open Go.RowKit

/-- What a bond's write makes of one end's kin. -/
def kinF (k n who : Int) (l : List (Int × Int)) : List (Int × Int) := if k = 2 then addL l who n else dropL l who
theorem okL_kinF {k n who : Int} {l : List (Int × Int)} (hl : okL l = true) (hr : rightB (who, n) = true) : okL (kinF k n who l) = true := by
  unfold kinF
  split
  · rw [addL_yes (addB_iff.2 ⟨hl, hr⟩)]; exact okL_put hl hr
  · rw [dropL_yes hl]; exact okL_filter _ _ hl
theorem mem_kinF {k n who : Int} {l : List (Int × Int)} (hl : okL l = true) (hr : rightB (who, n) = true) (x : Int × Int) : x ∈ kinF k n who l ↔ (k = 2 ∧ x = (who, n)) ∨ (x ∈ l ∧ x.1 ≠ who) := by
  unfold kinF
  split
  · next h => rw [addL_yes (addB_iff.2 ⟨hl, hr⟩), mem_put]; simp [h]
  · next h => rw [dropL_yes hl, mem_filter_notWho]; simp [h]
theorem kinF_comm {k n who k' n' who' : Int} {l : List (Int × Int)} (hl : okL l = true) (hr : rightB (who, n) = true) (hr' : rightB (who', n') = true) (hne : who ≠ who') :
    kinF k n who (kinF k' n' who' l) = kinF k' n' who' (kinF k n who l) := by
  have o1 := okL_kinF (k := k) hl hr
  have o2 := okL_kinF (k := k') hl hr'
  refine okL_ext (okL_kinF o2 hr) (okL_kinF o1 hr') fun x => ?_
  rw [mem_kinF o2 hr, mem_kinF hl hr', mem_kinF o1 hr', mem_kinF hl hr]
  constructor
  · rintro (⟨h, rfl⟩ | ⟨⟨h, rfl⟩ | ⟨h, h1⟩, h2⟩)
    · exact .inr ⟨.inl ⟨h, rfl⟩, hne⟩
    · exact .inl ⟨h, rfl⟩
    · exact .inr ⟨.inr ⟨h, h2⟩, h1⟩
  · rintro (⟨h, rfl⟩ | ⟨⟨h, rfl⟩ | ⟨h, h1⟩, h2⟩)
    · exact .inr ⟨.inl ⟨h, rfl⟩, fun e => hne e.symm⟩
    · exact .inl ⟨h, rfl⟩
    · exact .inr ⟨.inr ⟨h, h2⟩, h1⟩
theorem kinF_last {k n who k' n' : Int} {l : List (Int × Int)} (hl : okL l = true) (hr : rightB (who, n) = true) (hr' : rightB (who, n') = true) :
    kinF k n who (kinF k' n' who l) = kinF k n who l := by
  have o2 := okL_kinF (k := k') hl hr'
  refine okL_ext (okL_kinF o2 hr) (okL_kinF hl hr) fun x => ?_
  rw [mem_kinF o2 hr, mem_kinF hl hr', mem_kinF hl hr]
  constructor
  · rintro (h | ⟨⟨h, rfl⟩ | ⟨h, h1⟩, h2⟩)
    · exact .inl h
    · exact absurd rfl h2
    · exact .inr ⟨h, h2⟩
  · rintro (h | ⟨h, h1⟩)
    · exact .inl h
    · exact .inr ⟨.inr ⟨h, h1⟩, h1⟩

/-- A write of a bond that is ok. -/
structure BondW (k a b n : Int) : Prop where
  ha : 0 ≤ a ∧ a < 8
  hb : 0 ≤ b ∧ b < 8
  ra : rightB (a, n) = true
  rb : rightB (b, n) = true
  row : ∀ (L : List ValD), doG L k a b n = (L.set (16 + a.toNat) (0, kinF k n b (L.getD (16 + a.toNat) valD0).2)).set (8 + b.toNat) (0, kinF k n a (L.getD (8 + b.toNat) valD0).2)
theorem bondW {k a b n : Int} (h : opOk k a b n = true) (hk : k ≠ 1) : BondW k a b n := by
  rcases op_ways k a b n with ⟨hs, -⟩ | ⟨hs, -⟩ | ⟨hs, -⟩ | ⟨-, -, -, e, -⟩
  · exact absurd hs.1 hk
  · have g1 : ¬ setOk k a b n := fun h => hk h.1
    obtain ⟨h2, ha, hb, _, hn⟩ := id hs
    exact ⟨ha, hb, rightB_iff.2 ⟨ha.1, ha.2, hn.1, hn.2⟩, rightB_iff.2 ⟨hb.1, hb.2, hn.1, hn.2⟩, fun L => by simp only [doG, if_neg g1, if_pos hs, kinF, if_pos h2]⟩
  · have g1 : ¬ setOk k a b n := fun h => hk h.1
    have g2 : ¬ bindOk k a b n := fun h => by have := h.1; have := hs.1; omega
    obtain ⟨h3, ha, hb, _, hn⟩ := id hs
    have h2 : ¬ k = 2 := by omega
    exact ⟨ha, hb, rightB_iff.2 ⟨ha.1, ha.2, by show 0 ≤ n; omega, by show n ≤ 1000; omega⟩, rightB_iff.2 ⟨hb.1, hb.2, by show 0 ≤ n; omega, by show n ≤ 1000; omega⟩, fun L => by simp only [doG, if_neg g1, if_neg g2, if_pos hs, kinF, if_neg h2]⟩
  · rw [h] at e; cases e
theorem BondW.at {k a b n : Int} (h : BondW k a b n) {L : List ValD} (hl : L.length = 24) (j : Nat) : (doG L k a b n).getD j valD0 = if j = 8 + b.toNat then (0, kinF k n a (L.getD j valD0).2) else if j = 16 + a.toNat then (0, kinF k n b (L.getD j valD0).2) else L.getD j valD0 := by
  have := h.ha
  have := h.hb
  rw [h.row L, getD_set2 hl (by omega) (by omega)]
  split
  · next e => rw [e]
  · split
    · next e => rw [e]
    · rfl
theorem set_at {k a b n : Int} (h : setOk k a b n) {L : List ValD} (hl : L.length = 24) (j : Nat) : (doG L k a b n).getD j valD0 = if j = a.toNat then (n, []) else L.getD j valD0 := by
  have := h.2.1
  rw [doG, if_pos h, getD_set (by rw [hl]; omega)]

/-- Of two writes of one bond the last one stays. -/
theorem doG_last {L : List ValD} (h : okG L = true) {k n k' n' a b : Int} (h1 : BondW k a b n) (h2 : BondW k' a b n') : doG (doG L k a b n) k' a b n' = doG L k' a b n' := by
  obtain ⟨hL, hR, -⟩ := okG_iff.1 h
  have hX := doG_len24 hL k a b n
  refine rows_ext (doG_len24 hX _ _ _ _) (doG_len24 hL _ _ _ _) fun j hj => ?_
  rw [h2.at hX, h2.at hL, h1.at hL]
  have := h1.ha
  have := h1.hb
  by_cases e1 : j = 8 + b.toNat
  · rw [if_pos e1, if_pos e1, if_pos e1, kinF_last (hR.ok hj) h2.ra h1.ra]
  · by_cases e2 : j = 16 + a.toNat
    · rw [if_neg e1, if_neg e1, if_neg e1, if_pos e2, if_pos e2, if_pos e2, kinF_last (hR.ok hj) h2.rb h1.rb]
    · rw [if_neg e1, if_neg e1, if_neg e1, if_neg e2, if_neg e2, if_neg e2]
/-- Two writes of two bonds can be done in either order. -/
theorem doG_comm {L : List ValD} (h : okG L = true) {k a b n k' a' b' n' : Int} (h1 : BondW k a b n) (h2 : BondW k' a' b' n') (hne : ¬ (a = a' ∧ b = b')) : doG (doG L k a b n) k' a' b' n' = doG (doG L k' a' b' n') k a b n := by
  obtain ⟨hL, hR, -⟩ := okG_iff.1 h
  have hX := doG_len24 hL k a b n
  have hY := doG_len24 hL k' a' b' n'
  refine rows_ext (doG_len24 hX _ _ _ _) (doG_len24 hY _ _ _ _) fun j hj => ?_
  rw [h2.at hX, h1.at hY, h1.at hL, h2.at hL]
  have ha := h1.ha
  have hb := h1.hb
  have ha' := h2.ha
  have hb' := h2.hb
  by_cases e1 : j = 8 + b.toNat
  · have f1 : ¬ j = 16 + a.toNat := by omega
    have f2 : ¬ j = 16 + a'.toNat := by omega
    by_cases e2 : j = 8 + b'.toNat
    · simp only [if_pos e1, if_pos e2]
      rw [kinF_comm (hR.ok hj) h2.ra h1.ra (fun e => hne ⟨e.symm, by omega⟩)]
    · simp only [if_pos e1, if_neg e2, if_neg f2]
  · by_cases e2 : j = 8 + b'.toNat
    · have f1 : ¬ j = 16 + a.toNat := by omega
      simp only [if_neg e1, if_pos e2, if_neg f1]
    · by_cases f1 : j = 16 + a.toNat <;> by_cases f2 : j = 16 + a'.toNat
      · simp only [if_neg e1, if_neg e2, if_pos f1, if_pos f2]
        rw [kinF_comm (hR.ok hj) h2.rb h1.rb (fun e => hne ⟨by omega, e.symm⟩)]
      · simp only [if_neg e1, if_neg e2, if_pos f1, if_neg f2]
      · simp only [if_neg e1, if_neg e2, if_neg f1, if_pos f2]
      · simp only [if_neg e1, if_neg e2, if_neg f1, if_neg f2]
/-- What is no bond's write touches no bond. -/
theorem doG_comm_set {L : List ValD} (hL : L.length = 24) {k a b n k' a' b' n' : Int} (h1 : BondW k a b n) (h2 : setOk k' a' b' n') : doG (doG L k a b n) k' a' b' n' = doG (doG L k' a' b' n') k a b n := by
  have hX := doG_len24 hL k a b n
  have hY := doG_len24 hL k' a' b' n'
  refine rows_ext (doG_len24 hX _ _ _ _) (doG_len24 hY _ _ _ _) fun j hj => ?_
  rw [set_at h2 hX, h1.at hY, h1.at hL, set_at h2 hL]
  have ha := h1.ha
  have hb := h1.hb
  have ha' := h2.2.1
  by_cases e : j = a'.toNat
  · rw [if_pos e, if_neg (by omega), if_neg (by omega), if_pos e]
  · simp only [if_neg e]
theorem doG_set_set {L : List ValD} (hL : L.length = 24) {k a b n k' a' b' n' : Int} (h1 : setOk k a b n) (h2 : setOk k' a' b' n') (hne : a ≠ a') : doG (doG L k a b n) k' a' b' n' = doG (doG L k' a' b' n') k a b n := by
  have hX := doG_len24 hL k a b n
  have hY := doG_len24 hL k' a' b' n'
  refine rows_ext (doG_len24 hX _ _ _ _) (doG_len24 hY _ _ _ _) fun j hj => ?_
  rw [set_at h2 hX, set_at h1 hY, set_at h1 hL, set_at h2 hL]
  have ha := h1.2.1
  have ha' := h2.2.1
  by_cases e : j = a'.toNat
  · rw [if_pos e, if_neg (by omega), if_pos e]
  · simp only [if_neg e]
theorem doG_set_last {L : List ValD} (hL : L.length = 24) {k a b n k' b' n' : Int} (h1 : setOk k a b n) (h2 : setOk k' a b' n') : doG (doG L k a b n) k' a b' n' = doG L k' a b' n' := by
  have hX := doG_len24 hL k a b n
  refine rows_ext (doG_len24 hX _ _ _ _) (doG_len24 hL _ _ _ _) fun j hj => ?_
  rw [set_at h2 hX, set_at h1 hL, set_at h2 hL]
  split <;> rfl
end Go.Proofs.Ytkmhnjgncnoddaa

/- Part: Both GraphDo's answers as readings: what the laws of graphs use. Written by a program (gfg.py). -/
namespace Go.Proofs.Ytkmhnjgncnoddaa
open Go.RowKit

theorem op_two {k a b n : Int} (h : opOk k a b n = true) : setOk k a b n ∨ (k ≠ 1 ∧ BondW k a b n) := by
  rcases op_ways k a b n with ⟨hs, _⟩ | ⟨hs, _⟩ | ⟨hs, _⟩ | ⟨_, _, _, e, _⟩
  · exact .inl hs
  · have hk : k ≠ 1 := by have := hs.1; omega
    exact .inr ⟨hk, bondW h hk⟩
  · have hk : k ≠ 1 := by have := hs.1; omega
    exact .inr ⟨hk, bondW h hk⟩
  · rw [h] at e; cases e
theorem implGDo_rd (va : Value) (L : List ValD) (k a b n : Int) (w : World) (h : RdG w va L) (hok : okG L = true) {c : Bool} (hc : opOk k a b n = c) :
    Calls Try.prog 6 #[.agg #[va], .agg #[.int .i64 k, .int .i64 a, .int .i64 b, .int .i64 n]] w fun e w' => (∃ g, e = .returned (.tuple #[.agg #[.slice (some ⟨g, 0, none⟩) 24 24], .bool c]) ∧ RdG w' (.slice (some ⟨g, 0, none⟩) 24 24) (doG L k a b n)) ∧ Below w.heap.size w w' :=
  hc ▸ (implGDo_any va L k a b n w h hok).mono fun _ _ ⟨⟨g, _, he, hB, _⟩, hb⟩ => ⟨⟨g, he, hB.rdG 24⟩, hb⟩
theorem specGDo_rd (va : Value) (L : List ValD) (k a b n : Int) (w : World) (h : RdG w va L) (hok : okG L = true) {c : Bool} (hc : opOk k a b n = c) :
    Calls Try.prog 7 #[.agg #[va], .agg #[.int .i64 k, .int .i64 a, .int .i64 b, .int .i64 n]] w fun e w' => (∃ g cp, e = .returned (.tuple #[.agg #[.slice (some ⟨g, 0, none⟩) 24 cp], .bool c]) ∧ RdG w' (.slice (some ⟨g, 0, none⟩) 24 cp) (doG L k a b n)) ∧ Below w.heap.size w w' :=
  hc ▸ (specGDo_any va L k a b n w h hok).mono fun _ _ ⟨⟨v, xs, he, hR⟩, hb⟩ => by
    obtain ⟨g, cp, hv⟩ := ownsRow_succ hR.1
    subst hv
    exact ⟨⟨g, cp, he, hR.rdG (by rw [doG_length]; exact (okG_true hok).1)⟩, hb⟩
theorem gsame_is {va vb : Value} {la lb : List ValD} {w : World} (ha : RdG w va la) (hb : RdG w vb lb) (he : la = lb) :
    Calls Try.prog 8 #[.agg #[va], .agg #[vb]] w fun e w' => e = .returned (.bool true) ∧ Below w.heap.size w w' := by
  have := implGSame_any va vb la lb w ha hb
  rw [he, eqG_refl] at this
  exact this

theorem doG_not {L : List ValD} {k a b n : Int} (h : opOk k a b n = false) : doG L k a b n = L := by
  rcases op_ways k a b n with ⟨_, e, _⟩ | ⟨_, e, _⟩ | ⟨_, e, _⟩ | ⟨h1, h2, h3, _⟩
  · rw [h] at e; cases e
  · rw [h] at e; cases e
  · rw [h] at e; cases e
  · rw [doG, if_neg h1, if_neg h2, if_neg h3]
theorem RdG.at24 {w : World} {g cap j : Nat} {M : List ValD} (h : RdG w (.slice (some ⟨g, 0, none⟩) 24 cap) M) (hj : j < 24) :
    ∃ u, w.cell? ⟨g, j * 2, none⟩ = some (.int .i64 (M.getD j valD0).1) ∧ w.cell? ⟨g, j * 2 + 1, none⟩ = some u ∧ Rd w u (M.getD j valD0).2 := by
  obtain ⟨ao, cp, hv, _, hc⟩ := h
  injection hv with h1 h2 h3
  subst h1
  obtain ⟨b, off, hb, _, hcc⟩ := hc (by omega)
  cases hb
  obtain ⟨c0, u, c1, hu⟩ := hcc j (by omega)
  rw [Nat.zero_add] at c0 c1
  exact ⟨u, c0, c1, hu⟩
theorem isame_is {x y : ValD} {u v : Value} {w : World} (hu : Rd w u x.2) (hv : Rd w v y.2) (e : x = y) :
    Calls Try.prog 29 #[.agg #[.int .i64 x.1, u], .agg #[.int .i64 y.1, v]] w fun e w' => e = .returned (.bool true) ∧ Below w.heap.size w w' := by
  have := isame_two x y u v w hu hv
  rw [eqD_iff.2 e] at this
  exact this
end Go.Proofs.Ytkmhnjgncnoddaa
