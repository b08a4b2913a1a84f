/- spec.OpDo, OpBack: contracts. -/
import Derived.Test.YtkmhnjgncnoddaaGreatOa
import Derived.Test.YtkmhnjgncnoddaaGreatAdS
namespace Go.Proofs.YtkmhnjgncnoddaaGreat
open Go.RowKit
attribute [local go_sem ↓] Go.wp_at_zero Go.wp_at_succ

set_option maxRecDepth 100000 in
set_option maxHeartbeats 1000000 in
theorem specKin_bad (k a b n m who : Int) (v : Value) (l : List (Int × Int)) (w : World) (h : Rd w v l) (hok : okL l = false) :
    Calls Tryz.prog 102 #[.agg #[.int .i64 m, v], .agg #[.int .i64 k, .int .i64 a, .int .i64 b, .int .i64 n], .int .i64 who] w fun e w' => ValA w.heap.size w' e 0 [] ∧ Below w.heap.size w w' := by
  have HR := hid h
  obtain ⟨ao, cap, hv, _⟩ := h
  subst hv
  go_enter Tryz.func102, Tryz.ntmps102
  go_wp2_with fail
  have x0_1 : (((w.alloc (.cells #[.int .i64 m, .slice ao l.length cap] 38)).alloc (.cells #[.int .i64 k, .int .i64 a, .int .i64 b, .int .i64 n] 27)).alloc (.cells #[.int .i64 0, .slice none 0 0] 38)).cell? ⟨w.heap.size, 0, none⟩ = some (.int .i64 m) := by go_cell
  have x1_1 : (((w.alloc (.cells #[.int .i64 m, .slice ao l.length cap] 38)).alloc (.cells #[.int .i64 k, .int .i64 a, .int .i64 b, .int .i64 n] 27)).alloc (.cells #[.int .i64 0, .slice none 0 0] 38)).cell? ⟨w.heap.size, 1, none⟩ = some (.slice ao l.length cap) := by go_cell
  have xl_1 : w.heap.size < (((w.alloc (.cells #[.int .i64 m, .slice ao l.length cap] 38)).alloc (.cells #[.int .i64 k, .int .i64 a, .int .i64 b, .int .i64 n] 27)).alloc (.cells #[.int .i64 0, .slice none 0 0] 38)).heap.size := by first | (simp; done) | (simp; omega)
  have o0_1 : (((w.alloc (.cells #[.int .i64 m, .slice ao l.length cap] 38)).alloc (.cells #[.int .i64 k, .int .i64 a, .int .i64 b, .int .i64 n] 27)).alloc (.cells #[.int .i64 0, .slice none 0 0] 38)).cell? ⟨w.heap.size + 1, 0, none⟩ = some (.int .i64 k) := by go_cell
  have o1_1 : (((w.alloc (.cells #[.int .i64 m, .slice ao l.length cap] 38)).alloc (.cells #[.int .i64 k, .int .i64 a, .int .i64 b, .int .i64 n] 27)).alloc (.cells #[.int .i64 0, .slice none 0 0] 38)).cell? ⟨w.heap.size + 1, 1, none⟩ = some (.int .i64 a) := by go_cell
  have o2_1 : (((w.alloc (.cells #[.int .i64 m, .slice ao l.length cap] 38)).alloc (.cells #[.int .i64 k, .int .i64 a, .int .i64 b, .int .i64 n] 27)).alloc (.cells #[.int .i64 0, .slice none 0 0] 38)).cell? ⟨w.heap.size + 1, 2, none⟩ = some (.int .i64 b) := by go_cell
  have o3_1 : (((w.alloc (.cells #[.int .i64 m, .slice ao l.length cap] 38)).alloc (.cells #[.int .i64 k, .int .i64 a, .int .i64 b, .int .i64 n] 27)).alloc (.cells #[.int .i64 0, .slice none 0 0] 38)).cell? ⟨w.heap.size + 1, 3, none⟩ = some (.int .i64 n) := by go_cell
  have ol_1 : w.heap.size + 1 < (((w.alloc (.cells #[.int .i64 m, .slice ao l.length cap] 38)).alloc (.cells #[.int .i64 k, .int .i64 a, .int .i64 b, .int .i64 n] 27)).alloc (.cells #[.int .i64 0, .slice none 0 0] 38)).heap.size := by first | (simp; done) | (simp; omega)
  have r0_1 : (((w.alloc (.cells #[.int .i64 m, .slice ao l.length cap] 38)).alloc (.cells #[.int .i64 k, .int .i64 a, .int .i64 b, .int .i64 n] 27)).alloc (.cells #[.int .i64 0, .slice none 0 0] 38)).cell? ⟨w.heap.size + 1 + 1, 0, none⟩ = some (.int .i64 0) := by go_cell
  have rf0_1 : (((w.alloc (.cells #[.int .i64 m, .slice ao l.length cap] 38)).alloc (.cells #[.int .i64 k, .int .i64 a, .int .i64 b, .int .i64 n] 27)).alloc (.cells #[.int .i64 0, .slice none 0 0] 38)).frozen? ⟨w.heap.size + 1 + 1, 0, none⟩ = false := by (first | go_cell | (simp [World.frozen?, World.alloc]; done) | rfl)
  have r1_1 : (((w.alloc (.cells #[.int .i64 m, .slice ao l.length cap] 38)).alloc (.cells #[.int .i64 k, .int .i64 a, .int .i64 b, .int .i64 n] 27)).alloc (.cells #[.int .i64 0, .slice none 0 0] 38)).cell? ⟨w.heap.size + 1 + 1, 1, none⟩ = some (.slice none 0 0) := by go_cell
  have rf1_1 : (((w.alloc (.cells #[.int .i64 m, .slice ao l.length cap] 38)).alloc (.cells #[.int .i64 k, .int .i64 a, .int .i64 b, .int .i64 n] 27)).alloc (.cells #[.int .i64 0, .slice none 0 0] 38)).frozen? ⟨w.heap.size + 1 + 1, 1, none⟩ = false := by (first | go_cell | (simp [World.frozen?, World.alloc]; done) | rfl)
  have rl_1 : w.heap.size + 1 + 1 < (((w.alloc (.cells #[.int .i64 m, .slice ao l.length cap] 38)).alloc (.cells #[.int .i64 k, .int .i64 a, .int .i64 b, .int .i64 n] 27)).alloc (.cells #[.int .i64 0, .slice none 0 0] 38)).heap.size := by first | (simp; done) | (simp; omega)
  have c1 : Below w.heap.size w (((w.alloc (.cells #[.int .i64 m, .slice ao l.length cap] 38)).alloc (.cells #[.int .i64 k, .int .i64 a, .int .i64 b, .int .i64 n] 27)).alloc (.cells #[.int .i64 0, .slice none 0 0] 38)) := by go_grown
  have s1 : (((w.alloc (.cells #[.int .i64 m, .slice ao l.length cap] 38)).alloc (.cells #[.int .i64 k, .int .i64 a, .int .i64 b, .int .i64 n] 27)).alloc (.cells #[.int .i64 0, .slice none 0 0] 38)).heap.size = w.heap.size + 3 := by simp
  generalize (((w.alloc (.cells #[.int .i64 m, .slice ao l.length cap] 38)).alloc (.cells #[.int .i64 k, .int .i64 a, .int .i64 b, .int .i64 n] 27)).alloc (.cells #[.int .i64 0, .slice none 0 0] 38)) = w1 at x0_1 x1_1 xl_1 o0_1 o1_1 o2_1 o3_1 ol_1 r0_1 rf0_1 r1_1 rf1_1 rl_1 c1 s1 ⊢
  have qx0_1 := cell_regrown x0_1
  have qx1_1 := cell_regrown x1_1
  have qo0_1 := cell_regrown o0_1
  have qo1_1 := cell_regrown o1_1
  have qo2_1 := cell_regrown o2_1
  have qo3_1 := cell_regrown o3_1
  have qr0_1 := cell_regrown r0_1
  have qr1_1 := cell_regrown r1_1
  refine (specOk_any _ l _ (HR.out.later c1)).mono ?_
  rintro e w2 ⟨rfl, b2⟩
  rw [hok]
  have d2 : Below w1.heap.size w1 w2 := (Below.trans (by go_grown) (b2.mono (by first | omega | (simp; done) | (simp; omega))))
  have c2 : Below w.heap.size w w2 := c1.trans (d2.mono c1.size)
  have r0_2 : w2.cell? ⟨w.heap.size + 1 + 1, 0, none⟩ = some (.int .i64 0) := (by rw [b2.cell (by first | omega | (simp; done) | (simp; omega))]; go_cell)
  have rf0_2 : w2.frozen? ⟨w.heap.size + 1 + 1, 0, none⟩ = false := (by rw [b2.frozen (by first | omega | (simp; done) | (simp; omega))]; (first | go_cell | (simp [World.frozen?, World.alloc]; done) | rfl))
  have r1_2 : w2.cell? ⟨w.heap.size + 1 + 1, 1, none⟩ = some (.slice none 0 0) := (by rw [b2.cell (by first | omega | (simp; done) | (simp; omega))]; go_cell)
  have rf1_2 : w2.frozen? ⟨w.heap.size + 1 + 1, 1, none⟩ = false := (by rw [b2.frozen (by first | omega | (simp; done) | (simp; omega))]; (first | go_cell | (simp [World.frozen?, World.alloc]; done) | rfl))
  have rl_2 : w.heap.size + 1 + 1 < w2.heap.size := (by have := b2.size; first | omega | (revert this; simp; done) | (revert this; simp; omega))
  clear r0_1 rf0_1 r1_1 rf1_1 rl_1
  clear b2 d2
  go_wp2
  have e0 : ((w2.setCell ⟨w.heap.size + 1 + 1, 0, none⟩ (.int .i64 0)).setCell ⟨w.heap.size + 1 + 1, 1, none⟩ (.slice none 0 0)).cell? ⟨w.heap.size + 1 + 1, 0, none⟩ = some (.int .i64 0) := by go_cell
  have e1 : ((w2.setCell ⟨w.heap.size + 1 + 1, 0, none⟩ (.int .i64 0)).setCell ⟨w.heap.size + 1 + 1, 1, none⟩ (.slice none 0 0)).cell? ⟨w.heap.size + 1 + 1, 1, none⟩ = some (.slice none 0 0) := by go_cell
  refine bodyPost_ret (v := .agg #[.int .i64 0, .slice none 0 0]) (by simp [results, Tryz.results102, go_sem, e0, e1]) rfl ⟨valA_nil _ _ _, (c2.setCell (p := ⟨w.heap.size + 1 + 1, 0, none⟩) (by show w.heap.size ≤ w.heap.size + 1 + 1; omega) _).setCell (p := ⟨w.heap.size + 1 + 1, 1, none⟩) (by show w.heap.size ≤ w.heap.size + 1 + 1; omega) _⟩

set_option maxRecDepth 100000 in
set_option maxHeartbeats 1000000 in
theorem specKin_bind (a b n m who : Int) (v : Value) (l : List (Int × Int)) (w : World) (h : Rd w v l) (hll : l.length ≤ 1099511627776) (hok : okL l = true) :
    Calls Tryz.prog 102 #[.agg #[.int .i64 m, v], .agg #[.int .i64 2, .int .i64 a, .int .i64 b, .int .i64 n], .int .i64 who] w fun e w' => ValA w.heap.size w' e 0 (insL (l.filter (notWho who)) (who, n)) ∧ Below w.heap.size w w' := by
  have HR := hid h
  obtain ⟨ao, cap, hv, _⟩ := h
  subst hv
  go_enter Tryz.func102, Tryz.ntmps102
  go_wp2_with fail
  have x0_1 : (((w.alloc (.cells #[.int .i64 m, .slice ao l.length cap] 38)).alloc (.cells #[.int .i64 2, .int .i64 a, .int .i64 b, .int .i64 n] 27)).alloc (.cells #[.int .i64 0, .slice none 0 0] 38)).cell? ⟨w.heap.size, 0, none⟩ = some (.int .i64 m) := by go_cell
  have x1_1 : (((w.alloc (.cells #[.int .i64 m, .slice ao l.length cap] 38)).alloc (.cells #[.int .i64 2, .int .i64 a, .int .i64 b, .int .i64 n] 27)).alloc (.cells #[.int .i64 0, .slice none 0 0] 38)).cell? ⟨w.heap.size, 1, none⟩ = some (.slice ao l.length cap) := by go_cell
  have xl_1 : w.heap.size < (((w.alloc (.cells #[.int .i64 m, .slice ao l.length cap] 38)).alloc (.cells #[.int .i64 2, .int .i64 a, .int .i64 b, .int .i64 n] 27)).alloc (.cells #[.int .i64 0, .slice none 0 0] 38)).heap.size := by first | (simp; done) | (simp; omega)
  have o0_1 : (((w.alloc (.cells #[.int .i64 m, .slice ao l.length cap] 38)).alloc (.cells #[.int .i64 2, .int .i64 a, .int .i64 b, .int .i64 n] 27)).alloc (.cells #[.int .i64 0, .slice none 0 0] 38)).cell? ⟨w.heap.size + 1, 0, none⟩ = some (.int .i64 2) := by go_cell
  have o1_1 : (((w.alloc (.cells #[.int .i64 m, .slice ao l.length cap] 38)).alloc (.cells #[.int .i64 2, .int .i64 a, .int .i64 b, .int .i64 n] 27)).alloc (.cells #[.int .i64 0, .slice none 0 0] 38)).cell? ⟨w.heap.size + 1, 1, none⟩ = some (.int .i64 a) := by go_cell
  have o2_1 : (((w.alloc (.cells #[.int .i64 m, .slice ao l.length cap] 38)).alloc (.cells #[.int .i64 2, .int .i64 a, .int .i64 b, .int .i64 n] 27)).alloc (.cells #[.int .i64 0, .slice none 0 0] 38)).cell? ⟨w.heap.size + 1, 2, none⟩ = some (.int .i64 b) := by go_cell
  have o3_1 : (((w.alloc (.cells #[.int .i64 m, .slice ao l.length cap] 38)).alloc (.cells #[.int .i64 2, .int .i64 a, .int .i64 b, .int .i64 n] 27)).alloc (.cells #[.int .i64 0, .slice none 0 0] 38)).cell? ⟨w.heap.size + 1, 3, none⟩ = some (.int .i64 n) := by go_cell
  have ol_1 : w.heap.size + 1 < (((w.alloc (.cells #[.int .i64 m, .slice ao l.length cap] 38)).alloc (.cells #[.int .i64 2, .int .i64 a, .int .i64 b, .int .i64 n] 27)).alloc (.cells #[.int .i64 0, .slice none 0 0] 38)).heap.size := by first | (simp; done) | (simp; omega)
  have r0_1 : (((w.alloc (.cells #[.int .i64 m, .slice ao l.length cap] 38)).alloc (.cells #[.int .i64 2, .int .i64 a, .int .i64 b, .int .i64 n] 27)).alloc (.cells #[.int .i64 0, .slice none 0 0] 38)).cell? ⟨w.heap.size + 1 + 1, 0, none⟩ = some (.int .i64 0) := by go_cell
  have rf0_1 : (((w.alloc (.cells #[.int .i64 m, .slice ao l.length cap] 38)).alloc (.cells #[.int .i64 2, .int .i64 a, .int .i64 b, .int .i64 n] 27)).alloc (.cells #[.int .i64 0, .slice none 0 0] 38)).frozen? ⟨w.heap.size + 1 + 1, 0, none⟩ = false := by (first | go_cell | (simp [World.frozen?, World.alloc]; done) | rfl)
  have r1_1 : (((w.alloc (.cells #[.int .i64 m, .slice ao l.length cap] 38)).alloc (.cells #[.int .i64 2, .int .i64 a, .int .i64 b, .int .i64 n] 27)).alloc (.cells #[.int .i64 0, .slice none 0 0] 38)).cell? ⟨w.heap.size + 1 + 1, 1, none⟩ = some (.slice none 0 0) := by go_cell
  have rf1_1 : (((w.alloc (.cells #[.int .i64 m, .slice ao l.length cap] 38)).alloc (.cells #[.int .i64 2, .int .i64 a, .int .i64 b, .int .i64 n] 27)).alloc (.cells #[.int .i64 0, .slice none 0 0] 38)).frozen? ⟨w.heap.size + 1 + 1, 1, none⟩ = false := by (first | go_cell | (simp [World.frozen?, World.alloc]; done) | rfl)
  have rl_1 : w.heap.size + 1 + 1 < (((w.alloc (.cells #[.int .i64 m, .slice ao l.length cap] 38)).alloc (.cells #[.int .i64 2, .int .i64 a, .int .i64 b, .int .i64 n] 27)).alloc (.cells #[.int .i64 0, .slice none 0 0] 38)).heap.size := by first | (simp; done) | (simp; omega)
  have c1 : Below w.heap.size w (((w.alloc (.cells #[.int .i64 m, .slice ao l.length cap] 38)).alloc (.cells #[.int .i64 2, .int .i64 a, .int .i64 b, .int .i64 n] 27)).alloc (.cells #[.int .i64 0, .slice none 0 0] 38)) := by go_grown
  have s1 : (((w.alloc (.cells #[.int .i64 m, .slice ao l.length cap] 38)).alloc (.cells #[.int .i64 2, .int .i64 a, .int .i64 b, .int .i64 n] 27)).alloc (.cells #[.int .i64 0, .slice none 0 0] 38)).heap.size = w.heap.size + 3 := by simp
  generalize (((w.alloc (.cells #[.int .i64 m, .slice ao l.length cap] 38)).alloc (.cells #[.int .i64 2, .int .i64 a, .int .i64 b, .int .i64 n] 27)).alloc (.cells #[.int .i64 0, .slice none 0 0] 38)) = w1 at x0_1 x1_1 xl_1 o0_1 o1_1 o2_1 o3_1 ol_1 r0_1 rf0_1 r1_1 rf1_1 rl_1 c1 s1 ⊢
  have qx0_1 := cell_regrown x0_1
  have qx1_1 := cell_regrown x1_1
  have qo0_1 := cell_regrown o0_1
  have qo1_1 := cell_regrown o1_1
  have qo2_1 := cell_regrown o2_1
  have qo3_1 := cell_regrown o3_1
  have qr0_1 := cell_regrown r0_1
  have qr1_1 := cell_regrown r1_1
  refine (specOk_any _ l _ (HR.out.later c1)).mono ?_
  rintro e w2 ⟨rfl, b2⟩
  rw [hok]
  have d2 : Below w1.heap.size w1 w2 := (Below.trans (by go_grown) (b2.mono (by first | omega | (simp; done) | (simp; omega))))
  have c2 : Below w.heap.size w w2 := c1.trans (d2.mono c1.size)
  have x0_2 : w2.cell? ⟨w.heap.size, 0, none⟩ = some (.int .i64 m) := (by rw [b2.cell (by first | omega | (simp; done) | (simp; omega))]; go_cell)
  have x1_2 : w2.cell? ⟨w.heap.size, 1, none⟩ = some (.slice ao l.length cap) := (by rw [b2.cell (by first | omega | (simp; done) | (simp; omega))]; go_cell)
  have xl_2 : w.heap.size < w2.heap.size := (by have := b2.size; first | omega | (revert this; simp; done) | (revert this; simp; omega))
  have o0_2 : w2.cell? ⟨w.heap.size + 1, 0, none⟩ = some (.int .i64 2) := (by rw [b2.cell (by first | omega | (simp; done) | (simp; omega))]; go_cell)
  have o1_2 : w2.cell? ⟨w.heap.size + 1, 1, none⟩ = some (.int .i64 a) := (by rw [b2.cell (by first | omega | (simp; done) | (simp; omega))]; go_cell)
  have o2_2 : w2.cell? ⟨w.heap.size + 1, 2, none⟩ = some (.int .i64 b) := (by rw [b2.cell (by first | omega | (simp; done) | (simp; omega))]; go_cell)
  have o3_2 : w2.cell? ⟨w.heap.size + 1, 3, none⟩ = some (.int .i64 n) := (by rw [b2.cell (by first | omega | (simp; done) | (simp; omega))]; go_cell)
  have ol_2 : w.heap.size + 1 < w2.heap.size := (by have := b2.size; first | omega | (revert this; simp; done) | (revert this; simp; omega))
  have r0_2 : w2.cell? ⟨w.heap.size + 1 + 1, 0, none⟩ = some (.int .i64 0) := (by rw [b2.cell (by first | omega | (simp; done) | (simp; omega))]; go_cell)
  have rf0_2 : w2.frozen? ⟨w.heap.size + 1 + 1, 0, none⟩ = false := (by rw [b2.frozen (by first | omega | (simp; done) | (simp; omega))]; (first | go_cell | (simp [World.frozen?, World.alloc]; done) | rfl))
  have r1_2 : w2.cell? ⟨w.heap.size + 1 + 1, 1, none⟩ = some (.slice none 0 0) := (by rw [b2.cell (by first | omega | (simp; done) | (simp; omega))]; go_cell)
  have rf1_2 : w2.frozen? ⟨w.heap.size + 1 + 1, 1, none⟩ = false := (by rw [b2.frozen (by first | omega | (simp; done) | (simp; omega))]; (first | go_cell | (simp [World.frozen?, World.alloc]; done) | rfl))
  have rl_2 : w.heap.size + 1 + 1 < w2.heap.size := (by have := b2.size; first | omega | (revert this; simp; done) | (revert this; simp; omega))
  clear x0_1 x1_1 xl_1 o0_1 o1_1 o2_1 o3_1 ol_1 r0_1 rf0_1 r1_1 rf1_1 rl_1
  clear b2 d2
  go_wp2_with fail
  refine (l1Add_any _ l who n _ (HR.out.later c2) hll hok).mono ?_
  rintro e w3 ⟨v', rfl, ho, b3⟩
  have HO := hid ho
  clear ho
  have hz2 : w.heap.size + 1 + 1 < w2.heap.size := rl_2
  have d3 : Below w2.heap.size w2 w3 := (Below.trans (by go_grown) (b3.mono (by first | omega | (simp; done) | (simp; omega))))
  have c3 : Below w.heap.size w w3 := c2.trans (d3.mono c2.size)
  have r0_3 : w3.cell? ⟨w.heap.size + 1 + 1, 0, none⟩ = some (.int .i64 0) := (by rw [b3.cell (by first | omega | (simp; done) | (simp; omega))]; go_cell)
  have rf0_3 : w3.frozen? ⟨w.heap.size + 1 + 1, 0, none⟩ = false := (by rw [b3.frozen (by first | omega | (simp; done) | (simp; omega))]; (first | go_cell | (simp [World.frozen?, World.alloc]; done) | rfl))
  have r1_3 : w3.cell? ⟨w.heap.size + 1 + 1, 1, none⟩ = some (.slice none 0 0) := (by rw [b3.cell (by first | omega | (simp; done) | (simp; omega))]; go_cell)
  have rf1_3 : w3.frozen? ⟨w.heap.size + 1 + 1, 1, none⟩ = false := (by rw [b3.frozen (by first | omega | (simp; done) | (simp; omega))]; (first | go_cell | (simp [World.frozen?, World.alloc]; done) | rfl))
  have rl_3 : w.heap.size + 1 + 1 < w3.heap.size := (by have := b3.size; first | omega | (revert this; simp; done) | (revert this; simp; omega))
  clear r0_2 rf0_2 r1_2 rf1_2 rl_2
  clear b3 d3
  obtain ⟨uo, uc, huv, _⟩ := HO.out.rd
  subst huv
  obtain ⟨q, hq⟩ : ∃ q, insL (l.filter (notWho who)) (who, n) = q := ⟨_, rfl⟩
  have HQ := hid hq
  rw [hq] at HO ⊢
  clear hq
  go_wp2
  have e0 : ((w3.setCell ⟨w.heap.size + 1 + 1, 0, none⟩ (.int .i64 (0))).setCell ⟨w.heap.size + 1 + 1, 1, none⟩ (.slice uo q.length uc)).cell? ⟨w.heap.size + 1 + 1, 0, none⟩ = some (.int .i64 (0)) := by go_cell
  have e1 : ((w3.setCell ⟨w.heap.size + 1 + 1, 0, none⟩ (.int .i64 (0))).setCell ⟨w.heap.size + 1 + 1, 1, none⟩ (.slice uo q.length uc)).cell? ⟨w.heap.size + 1 + 1, 1, none⟩ = some (.slice uo q.length uc) := by go_cell
  have HF := hid (((HO.out.setApart (p := ⟨w.heap.size + 1 + 1, 0, none⟩) (by show w.heap.size + 1 + 1 < _; omega) (.int .i64 (0))).setApart (p := ⟨w.heap.size + 1 + 1, 1, none⟩) (by show w.heap.size + 1 + 1 < _; omega) (.slice uo q.length uc)).mono (B' := w.heap.size) (by omega))
  refine bodyPost_ret (v := .agg #[.int .i64 (0), .slice uo q.length uc]) (by simp [results, Tryz.results102, go_sem, e0, e1]) rfl ⟨⟨_, rfl, by rw [HQ.out]; exact HF.out⟩, (c3.setCell (p := ⟨w.heap.size + 1 + 1, 0, none⟩) (by show w.heap.size ≤ w.heap.size + 1 + 1; omega) _).setCell (p := ⟨w.heap.size + 1 + 1, 1, none⟩) (by show w.heap.size ≤ w.heap.size + 1 + 1; omega) _⟩

set_option maxRecDepth 100000 in
set_option maxHeartbeats 1000000 in
theorem specKin_part (a b n m who : Int) (v : Value) (l : List (Int × Int)) (w : World) (h : Rd w v l) (hll : l.length ≤ 1099511627776) (hok : okL l = true) :
    Calls Tryz.prog 102 #[.agg #[.int .i64 m, v], .agg #[.int .i64 3, .int .i64 a, .int .i64 b, .int .i64 n], .int .i64 who] w fun e w' => ValA w.heap.size w' e 0 (l.filter (notWho who)) ∧ Below w.heap.size w w' := by
  have HR := hid h
  obtain ⟨ao, cap, hv, _⟩ := h
  subst hv
  go_enter Tryz.func102, Tryz.ntmps102
  go_wp2_with fail
  have x0_1 : (((w.alloc (.cells #[.int .i64 m, .slice ao l.length cap] 38)).alloc (.cells #[.int .i64 3, .int .i64 a, .int .i64 b, .int .i64 n] 27)).alloc (.cells #[.int .i64 0, .slice none 0 0] 38)).cell? ⟨w.heap.size, 0, none⟩ = some (.int .i64 m) := by go_cell
  have x1_1 : (((w.alloc (.cells #[.int .i64 m, .slice ao l.length cap] 38)).alloc (.cells #[.int .i64 3, .int .i64 a, .int .i64 b, .int .i64 n] 27)).alloc (.cells #[.int .i64 0, .slice none 0 0] 38)).cell? ⟨w.heap.size, 1, none⟩ = some (.slice ao l.length cap) := by go_cell
  have xl_1 : w.heap.size < (((w.alloc (.cells #[.int .i64 m, .slice ao l.length cap] 38)).alloc (.cells #[.int .i64 3, .int .i64 a, .int .i64 b, .int .i64 n] 27)).alloc (.cells #[.int .i64 0, .slice none 0 0] 38)).heap.size := by first | (simp; done) | (simp; omega)
  have o0_1 : (((w.alloc (.cells #[.int .i64 m, .slice ao l.length cap] 38)).alloc (.cells #[.int .i64 3, .int .i64 a, .int .i64 b, .int .i64 n] 27)).alloc (.cells #[.int .i64 0, .slice none 0 0] 38)).cell? ⟨w.heap.size + 1, 0, none⟩ = some (.int .i64 3) := by go_cell
  have o1_1 : (((w.alloc (.cells #[.int .i64 m, .slice ao l.length cap] 38)).alloc (.cells #[.int .i64 3, .int .i64 a, .int .i64 b, .int .i64 n] 27)).alloc (.cells #[.int .i64 0, .slice none 0 0] 38)).cell? ⟨w.heap.size + 1, 1, none⟩ = some (.int .i64 a) := by go_cell
  have o2_1 : (((w.alloc (.cells #[.int .i64 m, .slice ao l.length cap] 38)).alloc (.cells #[.int .i64 3, .int .i64 a, .int .i64 b, .int .i64 n] 27)).alloc (.cells #[.int .i64 0, .slice none 0 0] 38)).cell? ⟨w.heap.size + 1, 2, none⟩ = some (.int .i64 b) := by go_cell
  have o3_1 : (((w.alloc (.cells #[.int .i64 m, .slice ao l.length cap] 38)).alloc (.cells #[.int .i64 3, .int .i64 a, .int .i64 b, .int .i64 n] 27)).alloc (.cells #[.int .i64 0, .slice none 0 0] 38)).cell? ⟨w.heap.size + 1, 3, none⟩ = some (.int .i64 n) := by go_cell
  have ol_1 : w.heap.size + 1 < (((w.alloc (.cells #[.int .i64 m, .slice ao l.length cap] 38)).alloc (.cells #[.int .i64 3, .int .i64 a, .int .i64 b, .int .i64 n] 27)).alloc (.cells #[.int .i64 0, .slice none 0 0] 38)).heap.size := by first | (simp; done) | (simp; omega)
  have r0_1 : (((w.alloc (.cells #[.int .i64 m, .slice ao l.length cap] 38)).alloc (.cells #[.int .i64 3, .int .i64 a, .int .i64 b, .int .i64 n] 27)).alloc (.cells #[.int .i64 0, .slice none 0 0] 38)).cell? ⟨w.heap.size + 1 + 1, 0, none⟩ = some (.int .i64 0) := by go_cell
  have rf0_1 : (((w.alloc (.cells #[.int .i64 m, .slice ao l.length cap] 38)).alloc (.cells #[.int .i64 3, .int .i64 a, .int .i64 b, .int .i64 n] 27)).alloc (.cells #[.int .i64 0, .slice none 0 0] 38)).frozen? ⟨w.heap.size + 1 + 1, 0, none⟩ = false := by (first | go_cell | (simp [World.frozen?, World.alloc]; done) | rfl)
  have r1_1 : (((w.alloc (.cells #[.int .i64 m, .slice ao l.length cap] 38)).alloc (.cells #[.int .i64 3, .int .i64 a, .int .i64 b, .int .i64 n] 27)).alloc (.cells #[.int .i64 0, .slice none 0 0] 38)).cell? ⟨w.heap.size + 1 + 1, 1, none⟩ = some (.slice none 0 0) := by go_cell
  have rf1_1 : (((w.alloc (.cells #[.int .i64 m, .slice ao l.length cap] 38)).alloc (.cells #[.int .i64 3, .int .i64 a, .int .i64 b, .int .i64 n] 27)).alloc (.cells #[.int .i64 0, .slice none 0 0] 38)).frozen? ⟨w.heap.size + 1 + 1, 1, none⟩ = false := by (first | go_cell | (simp [World.frozen?, World.alloc]; done) | rfl)
  have rl_1 : w.heap.size + 1 + 1 < (((w.alloc (.cells #[.int .i64 m, .slice ao l.length cap] 38)).alloc (.cells #[.int .i64 3, .int .i64 a, .int .i64 b, .int .i64 n] 27)).alloc (.cells #[.int .i64 0, .slice none 0 0] 38)).heap.size := by first | (simp; done) | (simp; omega)
  have c1 : Below w.heap.size w (((w.alloc (.cells #[.int .i64 m, .slice ao l.length cap] 38)).alloc (.cells #[.int .i64 3, .int .i64 a, .int .i64 b, .int .i64 n] 27)).alloc (.cells #[.int .i64 0, .slice none 0 0] 38)) := by go_grown
  have s1 : (((w.alloc (.cells #[.int .i64 m, .slice ao l.length cap] 38)).alloc (.cells #[.int .i64 3, .int .i64 a, .int .i64 b, .int .i64 n] 27)).alloc (.cells #[.int .i64 0, .slice none 0 0] 38)).heap.size = w.heap.size + 3 := by simp
  generalize (((w.alloc (.cells #[.int .i64 m, .slice ao l.length cap] 38)).alloc (.cells #[.int .i64 3, .int .i64 a, .int .i64 b, .int .i64 n] 27)).alloc (.cells #[.int .i64 0, .slice none 0 0] 38)) = w1 at x0_1 x1_1 xl_1 o0_1 o1_1 o2_1 o3_1 ol_1 r0_1 rf0_1 r1_1 rf1_1 rl_1 c1 s1 ⊢
  have qx0_1 := cell_regrown x0_1
  have qx1_1 := cell_regrown x1_1
  have qo0_1 := cell_regrown o0_1
  have qo1_1 := cell_regrown o1_1
  have qo2_1 := cell_regrown o2_1
  have qo3_1 := cell_regrown o3_1
  have qr0_1 := cell_regrown r0_1
  have qr1_1 := cell_regrown r1_1
  refine (specOk_any _ l _ (HR.out.later c1)).mono ?_
  rintro e w2 ⟨rfl, b2⟩
  rw [hok]
  have d2 : Below w1.heap.size w1 w2 := (Below.trans (by go_grown) (b2.mono (by first | omega | (simp; done) | (simp; omega))))
  have c2 : Below w.heap.size w w2 := c1.trans (d2.mono c1.size)
  have x0_2 : w2.cell? ⟨w.heap.size, 0, none⟩ = some (.int .i64 m) := (by rw [b2.cell (by first | omega | (simp; done) | (simp; omega))]; go_cell)
  have x1_2 : w2.cell? ⟨w.heap.size, 1, none⟩ = some (.slice ao l.length cap) := (by rw [b2.cell (by first | omega | (simp; done) | (simp; omega))]; go_cell)
  have xl_2 : w.heap.size < w2.heap.size := (by have := b2.size; first | omega | (revert this; simp; done) | (revert this; simp; omega))
  have o0_2 : w2.cell? ⟨w.heap.size + 1, 0, none⟩ = some (.int .i64 3) := (by rw [b2.cell (by first | omega | (simp; done) | (simp; omega))]; go_cell)
  have o1_2 : w2.cell? ⟨w.heap.size + 1, 1, none⟩ = some (.int .i64 a) := (by rw [b2.cell (by first | omega | (simp; done) | (simp; omega))]; go_cell)
  have o2_2 : w2.cell? ⟨w.heap.size + 1, 2, none⟩ = some (.int .i64 b) := (by rw [b2.cell (by first | omega | (simp; done) | (simp; omega))]; go_cell)
  have o3_2 : w2.cell? ⟨w.heap.size + 1, 3, none⟩ = some (.int .i64 n) := (by rw [b2.cell (by first | omega | (simp; done) | (simp; omega))]; go_cell)
  have ol_2 : w.heap.size + 1 < w2.heap.size := (by have := b2.size; first | omega | (revert this; simp; done) | (revert this; simp; omega))
  have r0_2 : w2.cell? ⟨w.heap.size + 1 + 1, 0, none⟩ = some (.int .i64 0) := (by rw [b2.cell (by first | omega | (simp; done) | (simp; omega))]; go_cell)
  have rf0_2 : w2.frozen? ⟨w.heap.size + 1 + 1, 0, none⟩ = false := (by rw [b2.frozen (by first | omega | (simp; done) | (simp; omega))]; (first | go_cell | (simp [World.frozen?, World.alloc]; done) | rfl))
  have r1_2 : w2.cell? ⟨w.heap.size + 1 + 1, 1, none⟩ = some (.slice none 0 0) := (by rw [b2.cell (by first | omega | (simp; done) | (simp; omega))]; go_cell)
  have rf1_2 : w2.frozen? ⟨w.heap.size + 1 + 1, 1, none⟩ = false := (by rw [b2.frozen (by first | omega | (simp; done) | (simp; omega))]; (first | go_cell | (simp [World.frozen?, World.alloc]; done) | rfl))
  have rl_2 : w.heap.size + 1 + 1 < w2.heap.size := (by have := b2.size; first | omega | (revert this; simp; done) | (revert this; simp; omega))
  clear x0_1 x1_1 xl_1 o0_1 o1_1 o2_1 o3_1 ol_1 r0_1 rf0_1 r1_1 rf1_1 rl_1
  clear b2 d2
  go_wp2_with fail
  refine (l1Drop_any _ l who _ (HR.out.later c2) hll).mono ?_
  rintro e w3 ⟨v', rfl, ho, _, b3⟩
  have HO := hid ho
  clear ho
  have hz2 : w.heap.size + 1 + 1 < w2.heap.size := rl_2
  have d3 : Below w2.heap.size w2 w3 := (Below.trans (by go_grown) (b3.mono (by first | omega | (simp; done) | (simp; omega))))
  have c3 : Below w.heap.size w w3 := c2.trans (d3.mono c2.size)
  have r0_3 : w3.cell? ⟨w.heap.size + 1 + 1, 0, none⟩ = some (.int .i64 0) := (by rw [b3.cell (by first | omega | (simp; done) | (simp; omega))]; go_cell)
  have rf0_3 : w3.frozen? ⟨w.heap.size + 1 + 1, 0, none⟩ = false := (by rw [b3.frozen (by first | omega | (simp; done) | (simp; omega))]; (first | go_cell | (simp [World.frozen?, World.alloc]; done) | rfl))
  have r1_3 : w3.cell? ⟨w.heap.size + 1 + 1, 1, none⟩ = some (.slice none 0 0) := (by rw [b3.cell (by first | omega | (simp; done) | (simp; omega))]; go_cell)
  have rf1_3 : w3.frozen? ⟨w.heap.size + 1 + 1, 1, none⟩ = false := (by rw [b3.frozen (by first | omega | (simp; done) | (simp; omega))]; (first | go_cell | (simp [World.frozen?, World.alloc]; done) | rfl))
  have rl_3 : w.heap.size + 1 + 1 < w3.heap.size := (by have := b3.size; first | omega | (revert this; simp; done) | (revert this; simp; omega))
  clear r0_2 rf0_2 r1_2 rf1_2 rl_2
  clear b3 d3
  obtain ⟨uo, uc, huv, _⟩ := HO.out.rd
  subst huv
  obtain ⟨q, hq⟩ : ∃ q, l.filter (notWho who) = q := ⟨_, rfl⟩
  have HQ := hid hq
  rw [hq] at HO ⊢
  clear hq
  go_wp2
  have e0 : ((w3.setCell ⟨w.heap.size + 1 + 1, 0, none⟩ (.int .i64 (0))).setCell ⟨w.heap.size + 1 + 1, 1, none⟩ (.slice uo q.length uc)).cell? ⟨w.heap.size + 1 + 1, 0, none⟩ = some (.int .i64 (0)) := by go_cell
  have e1 : ((w3.setCell ⟨w.heap.size + 1 + 1, 0, none⟩ (.int .i64 (0))).setCell ⟨w.heap.size + 1 + 1, 1, none⟩ (.slice uo q.length uc)).cell? ⟨w.heap.size + 1 + 1, 1, none⟩ = some (.slice uo q.length uc) := by go_cell
  have HF := hid (((HO.out.setApart (p := ⟨w.heap.size + 1 + 1, 0, none⟩) (by show w.heap.size + 1 + 1 < _; omega) (.int .i64 (0))).setApart (p := ⟨w.heap.size + 1 + 1, 1, none⟩) (by show w.heap.size + 1 + 1 < _; omega) (.slice uo q.length uc)).mono (B' := w.heap.size) (by omega))
  refine bodyPost_ret (v := .agg #[.int .i64 (0), .slice uo q.length uc]) (by simp [results, Tryz.results102, go_sem, e0, e1]) rfl ⟨⟨_, rfl, by rw [HQ.out]; exact HF.out⟩, (c3.setCell (p := ⟨w.heap.size + 1 + 1, 0, none⟩) (by show w.heap.size ≤ w.heap.size + 1 + 1; omega) _).setCell (p := ⟨w.heap.size + 1 + 1, 1, none⟩) (by show w.heap.size ≤ w.heap.size + 1 + 1; omega) _⟩

theorem rightB_bind {k a b n : Int} (h : bindOk k a b n) : rightB (a, n) = true ∧ rightB (b, n) = true := by
  obtain ⟨_, h1, h2, _, h3, h4⟩ := h
  exact ⟨rightB_iff.2 ⟨h1.1, h1.2, h3, h4⟩, rightB_iff.2 ⟨h2.1, h2.2, h3, h4⟩⟩
/-- l3Kin of an ok bond. -/
theorem specKin_any (k a b n m who : Int) (v : Value) (l : List (Int × Int)) (w : World) (h : Rd w v l) (hll : l.length ≤ 1099511627776) (hw : who = a ∨ who = b) (hk : bindOk k a b n ∨ partOk k a b n) :
    Calls Tryz.prog 102 #[.agg #[.int .i64 m, v], .agg #[.int .i64 k, .int .i64 a, .int .i64 b, .int .i64 n], .int .i64 who] w fun e w' => ValA w.heap.size w' e 0 (if bindOk k a b n then addL l who n else dropL l who) ∧ Below w.heap.size w w' := by
  rcases hk with hk | hk
  · rw [if_pos hk]
    cases hok : okL l with
    | false =>
      have e : addL l who n = [] := by simp [addL, addB, hok]
      rw [e]
      exact specKin_bad k a b n m who v l w h hok
    | true =>
      have hr : rightB (who, n) = true := by
        rcases hw with rfl | rfl
        · exact (rightB_bind hk).1
        · exact (rightB_bind hk).2
      have e : addL l who n = insL (l.filter (notWho who)) (who, n) := by simp [addL, addB, hok, hr]
      rw [e]
      obtain ⟨rfl, _⟩ := hk
      exact specKin_bind a b n m who v l w h hll hok
  · have hnb : ¬ bindOk k a b n := fun h2 => by have := hk.1; have := h2.1; omega
    rw [if_neg hnb]
    cases hok : okL l with
    | false =>
      have e : dropL l who = [] := by simp [dropL, hok]
      rw [e]
      exact specKin_bad k a b n m who v l w h hok
    | true =>
      have e : dropL l who = l.filter (notWho who) := by simp [dropL, hok]
      rw [e]
      obtain ⟨rfl, _⟩ := hk
      exact specKin_part a b n m who v l w h hll hok

end Go.Proofs.YtkmhnjgncnoddaaGreat
