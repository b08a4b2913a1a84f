/- impl.OpDo, OpBack: contracts. -/
import Derived.Test.YthmbhcgecnkgeaaOa
namespace Go.Proofs.Ythmbhcgecnkgeaa
open Go.RowKit
attribute [local go_sem ↓] Go.wp_at_zero Go.wp_at_succ

theorem method_setDo (k a b n : Int) (w : World) : (method 239 94 (.agg #[.int .i64 k, .int .i64 a, .int .i64 b, .int .i64 n]) "loop.example/kith/impl.do").run Try.prog w = .ok (108, .agg #[.int .i64 k, .int .i64 a, .int .i64 b, .int .i64 n]) w := by kernel_rfl
theorem method_setBack (k a b n : Int) (w : World) : (method 239 94 (.agg #[.int .i64 k, .int .i64 a, .int .i64 b, .int .i64 n]) "loop.example/kith/impl.back").run Try.prog w = .ok (107, .agg #[.int .i64 k, .int .i64 a, .int .i64 b, .int .i64 n]) w := by kernel_rfl
theorem method_bindDo (k a b n : Int) (w : World) : (method 239 97 (.agg #[.int .i64 k, .int .i64 a, .int .i64 b, .int .i64 n]) "loop.example/kith/impl.do").run Try.prog w = .ok (116, .agg #[.int .i64 k, .int .i64 a, .int .i64 b, .int .i64 n]) w := by kernel_rfl
theorem method_bindBack (k a b n : Int) (w : World) : (method 239 97 (.agg #[.int .i64 k, .int .i64 a, .int .i64 b, .int .i64 n]) "loop.example/kith/impl.back").run Try.prog w = .ok (115, .agg #[.int .i64 k, .int .i64 a, .int .i64 b, .int .i64 n]) w := by kernel_rfl
theorem method_partDo (k a b n : Int) (w : World) : (method 239 98 (.agg #[.int .i64 k, .int .i64 a, .int .i64 b, .int .i64 n]) "loop.example/kith/impl.do").run Try.prog w = .ok (119, .agg #[.int .i64 k, .int .i64 a, .int .i64 b, .int .i64 n]) w := by kernel_rfl
theorem method_partBack (k a b n : Int) (w : World) : (method 239 98 (.agg #[.int .i64 k, .int .i64 a, .int .i64 b, .int .i64 n]) "loop.example/kith/impl.back").run Try.prog w = .ok (118, .agg #[.int .i64 k, .int .i64 a, .int .i64 b, .int .i64 n]) w := by kernel_rfl
theorem method_noDo (w : World) : (method 239 79 (.agg #[]) "loop.example/kith/impl.do").run Try.prog w = .ok (101, .agg #[]) w := by kernel_rfl
theorem method_noBack (w : World) : (method 239 79 (.agg #[]) "loop.example/kith/impl.back").run Try.prog w = .ok (100, .agg #[]) w := by kernel_rfl
theorem setBack_any (k a b n m : Int) (v : Value) (w : World) : Calls Try.prog 107 #[.agg #[.int .i64 k, .int .i64 a, .int .i64 b, .int .i64 n], .agg #[.int .i64 m, v]] w fun e w' => e = .returned (.agg #[.int .i64 0, .slice none 0 0]) ∧ Below w.heap.size w w' := by
  go_enter Try.func107, Try.ntmps107
  go_wp2
  refine bodyPost_ret (v := .agg #[.int .i64 0, .slice none 0 0]) (by simp [results, Try.results107, go_sem]) rfl ⟨rfl, ?_⟩
  go_grown
theorem noDo_any (m : Int) (v : Value) (w : World) : Calls Try.prog 101 #[.agg #[], .agg #[.int .i64 m, v]] w fun e w' => e = .returned (.agg #[.int .i64 0, .slice none 0 0]) ∧ Below w.heap.size w w' := by
  go_enter Try.func101, Try.ntmps101
  go_wp2
  refine bodyPost_ret (v := .agg #[.int .i64 0, .slice none 0 0]) (by simp [results, Try.results101, go_sem]) rfl ⟨rfl, ?_⟩
  go_grown
theorem noBack_any (m : Int) (v : Value) (w : World) : Calls Try.prog 100 #[.agg #[], .agg #[.int .i64 m, v]] w fun e w' => e = .returned (.agg #[.int .i64 0, .slice none 0 0]) ∧ Below w.heap.size w w' := by
  go_enter Try.func100, Try.ntmps100
  go_wp2
  refine bodyPost_ret (v := .agg #[.int .i64 0, .slice none 0 0]) (by simp [results, Try.results100, go_sem]) rfl ⟨rfl, ?_⟩
  go_grown
set_option maxHeartbeats 2000000 in
theorem implDo_set (k a b n m : Int) (v : Value) (l : List (Int × Int)) (w : World) (h : Rd w v l) (_ : l.length ≤ 1099511627776) (hs : setOk k a b n) :
    Calls Try.prog 13 #[.agg #[.int .i64 m, v], .agg #[.int .i64 k, .int .i64 a, .int .i64 b, .int .i64 n]] w fun e w' => ValA w.heap.size w' e (n) ([]) ∧ Below w.heap.size w w' := by
  have HW := fun w => writeOf_set hs w
  have hm := method_setDo k a b n
  have HR := hid h
  obtain ⟨ao, cap, hv, _⟩ := h
  subst hv
  clear hs
  go_enter Try.func13, Try.ntmps13
  go_wp2_with fail
  have x0_1 : (((w.alloc (.cells #[.int .i64 m, .slice ao l.length cap] 30)).alloc (.cells #[.int .i64 k, .int .i64 a, .int .i64 b, .int .i64 n] 24)).alloc (.cells #[.int .i64 0, .slice none 0 0] 30)).cell? ⟨w.heap.size, 0, none⟩ = some (.int .i64 m) := by go_cell
  have x1_1 : (((w.alloc (.cells #[.int .i64 m, .slice ao l.length cap] 30)).alloc (.cells #[.int .i64 k, .int .i64 a, .int .i64 b, .int .i64 n] 24)).alloc (.cells #[.int .i64 0, .slice none 0 0] 30)).cell? ⟨w.heap.size, 1, none⟩ = some (.slice ao l.length cap) := by go_cell
  have xl_1 : w.heap.size < (((w.alloc (.cells #[.int .i64 m, .slice ao l.length cap] 30)).alloc (.cells #[.int .i64 k, .int .i64 a, .int .i64 b, .int .i64 n] 24)).alloc (.cells #[.int .i64 0, .slice none 0 0] 30)).heap.size := by first | (simp; done) | (simp; omega)
  have o0_1 : (((w.alloc (.cells #[.int .i64 m, .slice ao l.length cap] 30)).alloc (.cells #[.int .i64 k, .int .i64 a, .int .i64 b, .int .i64 n] 24)).alloc (.cells #[.int .i64 0, .slice none 0 0] 30)).cell? ⟨w.heap.size + 1, 0, none⟩ = some (.int .i64 k) := by go_cell
  have o1_1 : (((w.alloc (.cells #[.int .i64 m, .slice ao l.length cap] 30)).alloc (.cells #[.int .i64 k, .int .i64 a, .int .i64 b, .int .i64 n] 24)).alloc (.cells #[.int .i64 0, .slice none 0 0] 30)).cell? ⟨w.heap.size + 1, 1, none⟩ = some (.int .i64 a) := by go_cell
  have o2_1 : (((w.alloc (.cells #[.int .i64 m, .slice ao l.length cap] 30)).alloc (.cells #[.int .i64 k, .int .i64 a, .int .i64 b, .int .i64 n] 24)).alloc (.cells #[.int .i64 0, .slice none 0 0] 30)).cell? ⟨w.heap.size + 1, 2, none⟩ = some (.int .i64 b) := by go_cell
  have o3_1 : (((w.alloc (.cells #[.int .i64 m, .slice ao l.length cap] 30)).alloc (.cells #[.int .i64 k, .int .i64 a, .int .i64 b, .int .i64 n] 24)).alloc (.cells #[.int .i64 0, .slice none 0 0] 30)).cell? ⟨w.heap.size + 1, 3, none⟩ = some (.int .i64 n) := by go_cell
  have ol_1 : w.heap.size + 1 < (((w.alloc (.cells #[.int .i64 m, .slice ao l.length cap] 30)).alloc (.cells #[.int .i64 k, .int .i64 a, .int .i64 b, .int .i64 n] 24)).alloc (.cells #[.int .i64 0, .slice none 0 0] 30)).heap.size := by first | (simp; done) | (simp; omega)
  have r0_1 : (((w.alloc (.cells #[.int .i64 m, .slice ao l.length cap] 30)).alloc (.cells #[.int .i64 k, .int .i64 a, .int .i64 b, .int .i64 n] 24)).alloc (.cells #[.int .i64 0, .slice none 0 0] 30)).cell? ⟨w.heap.size + 1 + 1, 0, none⟩ = some (.int .i64 0) := by go_cell
  have rf0_1 : (((w.alloc (.cells #[.int .i64 m, .slice ao l.length cap] 30)).alloc (.cells #[.int .i64 k, .int .i64 a, .int .i64 b, .int .i64 n] 24)).alloc (.cells #[.int .i64 0, .slice none 0 0] 30)).frozen? ⟨w.heap.size + 1 + 1, 0, none⟩ = false := by (first | go_cell | (simp [World.frozen?, World.alloc]; done) | rfl)
  have r1_1 : (((w.alloc (.cells #[.int .i64 m, .slice ao l.length cap] 30)).alloc (.cells #[.int .i64 k, .int .i64 a, .int .i64 b, .int .i64 n] 24)).alloc (.cells #[.int .i64 0, .slice none 0 0] 30)).cell? ⟨w.heap.size + 1 + 1, 1, none⟩ = some (.slice none 0 0) := by go_cell
  have rf1_1 : (((w.alloc (.cells #[.int .i64 m, .slice ao l.length cap] 30)).alloc (.cells #[.int .i64 k, .int .i64 a, .int .i64 b, .int .i64 n] 24)).alloc (.cells #[.int .i64 0, .slice none 0 0] 30)).frozen? ⟨w.heap.size + 1 + 1, 1, none⟩ = false := by (first | go_cell | (simp [World.frozen?, World.alloc]; done) | rfl)
  have rl_1 : w.heap.size + 1 + 1 < (((w.alloc (.cells #[.int .i64 m, .slice ao l.length cap] 30)).alloc (.cells #[.int .i64 k, .int .i64 a, .int .i64 b, .int .i64 n] 24)).alloc (.cells #[.int .i64 0, .slice none 0 0] 30)).heap.size := by first | (simp; done) | (simp; omega)
  have c1 : Below w.heap.size w (((w.alloc (.cells #[.int .i64 m, .slice ao l.length cap] 30)).alloc (.cells #[.int .i64 k, .int .i64 a, .int .i64 b, .int .i64 n] 24)).alloc (.cells #[.int .i64 0, .slice none 0 0] 30)) := by go_grown
  have s1 : (((w.alloc (.cells #[.int .i64 m, .slice ao l.length cap] 30)).alloc (.cells #[.int .i64 k, .int .i64 a, .int .i64 b, .int .i64 n] 24)).alloc (.cells #[.int .i64 0, .slice none 0 0] 30)).heap.size = w.heap.size + 3 := by simp
  generalize (((w.alloc (.cells #[.int .i64 m, .slice ao l.length cap] 30)).alloc (.cells #[.int .i64 k, .int .i64 a, .int .i64 b, .int .i64 n] 24)).alloc (.cells #[.int .i64 0, .slice none 0 0] 30)) = w1 at x0_1 x1_1 xl_1 o0_1 o1_1 o2_1 o3_1 ol_1 r0_1 rf0_1 r1_1 rf1_1 rl_1 c1 s1 ⊢
  have qx0_1 := cell_regrown x0_1
  have qx1_1 := cell_regrown x1_1
  have qo0_1 := cell_regrown o0_1
  have qo1_1 := cell_regrown o1_1
  have qo2_1 := cell_regrown o2_1
  have qo3_1 := cell_regrown o3_1
  have qr0_1 := cell_regrown r0_1
  have qr1_1 := cell_regrown r1_1
  go_region_with (first
    | (go_at_call 28; refine (HW _).mono ?_; rintro e w2 ⟨rfl, b2⟩; have d2 : Below w1.heap.size w1 w2 := (Below.trans (by go_grown) (b2.mono (by first | omega | (simp; done) | (simp; omega)))); have c2 : Below w.heap.size w w2 := c1.trans (d2.mono c1.size); have x0_2 : w2.cell? ⟨w.heap.size, 0, none⟩ = some (.int .i64 m) := (by rw [b2.cell (by first | omega | (simp; done) | (simp; omega))]; go_cell); have x1_2 : w2.cell? ⟨w.heap.size, 1, none⟩ = some (.slice ao l.length cap) := (by rw [b2.cell (by first | omega | (simp; done) | (simp; omega))]; go_cell); have xl_2 : w.heap.size < w2.heap.size := (by have := b2.size; first | omega | (revert this; simp; done) | (revert this; simp; omega)); have o0_2 : w2.cell? ⟨w.heap.size + 1, 0, none⟩ = some (.int .i64 k) := (by rw [b2.cell (by first | omega | (simp; done) | (simp; omega))]; go_cell); have o1_2 : w2.cell? ⟨w.heap.size + 1, 1, none⟩ = some (.int .i64 a) := (by rw [b2.cell (by first | omega | (simp; done) | (simp; omega))]; go_cell); have o2_2 : w2.cell? ⟨w.heap.size + 1, 2, none⟩ = some (.int .i64 b) := (by rw [b2.cell (by first | omega | (simp; done) | (simp; omega))]; go_cell); have o3_2 : w2.cell? ⟨w.heap.size + 1, 3, none⟩ = some (.int .i64 n) := (by rw [b2.cell (by first | omega | (simp; done) | (simp; omega))]; go_cell); have ol_2 : w.heap.size + 1 < w2.heap.size := (by have := b2.size; first | omega | (revert this; simp; done) | (revert this; simp; omega)); have r0_2 : w2.cell? ⟨w.heap.size + 1 + 1, 0, none⟩ = some (.int .i64 0) := (by rw [b2.cell (by first | omega | (simp; done) | (simp; omega))]; go_cell); have rf0_2 : w2.frozen? ⟨w.heap.size + 1 + 1, 0, none⟩ = false := (by rw [b2.frozen (by first | omega | (simp; done) | (simp; omega))]; (first | go_cell | (simp [World.frozen?, World.alloc]; done) | rfl)); have r1_2 : w2.cell? ⟨w.heap.size + 1 + 1, 1, none⟩ = some (.slice none 0 0) := (by rw [b2.cell (by first | omega | (simp; done) | (simp; omega))]; go_cell); have rf1_2 : w2.frozen? ⟨w.heap.size + 1 + 1, 1, none⟩ = false := (by rw [b2.frozen (by first | omega | (simp; done) | (simp; omega))]; (first | go_cell | (simp [World.frozen?, World.alloc]; done) | rfl)); have rl_2 : w.heap.size + 1 + 1 < w2.heap.size := (by have := b2.size; first | omega | (revert this; simp; done) | (revert this; simp; omega)); clear x0_1 x1_1 xl_1 o0_1 o1_1 o2_1 o3_1 ol_1 r0_1 rf0_1 r1_1 rf1_1 rl_1)
    | (go_at_call 108; refine (setDo_any k a b n m _ _).mono ?_; rintro e w3 ⟨rfl, b3⟩; have d3 : Below w2.heap.size w2 w3 := (Below.trans (by go_grown) (b3.mono (by first | omega | (simp; done) | (simp; omega)))); have c3 : Below w.heap.size w w3 := c2.trans (d3.mono c2.size); have r0_3 : w3.cell? ⟨w.heap.size + 1 + 1, 0, none⟩ = some (.int .i64 0) := (by rw [b3.cell (by first | omega | (simp; done) | (simp; omega))]; go_cell); have rf0_3 : w3.frozen? ⟨w.heap.size + 1 + 1, 0, none⟩ = false := (by rw [b3.frozen (by first | omega | (simp; done) | (simp; omega))]; (first | go_cell | (simp [World.frozen?, World.alloc]; done) | rfl)); have r1_3 : w3.cell? ⟨w.heap.size + 1 + 1, 1, none⟩ = some (.slice none 0 0) := (by rw [b3.cell (by first | omega | (simp; done) | (simp; omega))]; go_cell); have rf1_3 : w3.frozen? ⟨w.heap.size + 1 + 1, 1, none⟩ = false := (by rw [b3.frozen (by first | omega | (simp; done) | (simp; omega))]; (first | go_cell | (simp [World.frozen?, World.alloc]; done) | rfl)); have rl_3 : w.heap.size + 1 + 1 < w3.heap.size := (by have := b3.size; first | omega | (revert this; simp; done) | (revert this; simp; omega)); clear r0_2 rf0_2 r1_2 rf1_2 rl_2))
  all_goals
    go_wp2
    have e0 : ((w3.setCell ⟨w.heap.size + 1 + 1, 0, none⟩ (.int .i64 (n))).setCell ⟨w.heap.size + 1 + 1, 1, none⟩ (.slice none 0 0)).cell? ⟨w.heap.size + 1 + 1, 0, none⟩ = some (.int .i64 (n)) := by go_cell
    have e1 : ((w3.setCell ⟨w.heap.size + 1 + 1, 0, none⟩ (.int .i64 (n))).setCell ⟨w.heap.size + 1 + 1, 1, none⟩ (.slice none 0 0)).cell? ⟨w.heap.size + 1 + 1, 1, none⟩ = some (.slice none 0 0) := by go_cell
    refine bodyPost_ret (v := .agg #[.int .i64 (n), .slice none 0 0]) (by simp [results, Try.results13, go_sem, e0, e1]) rfl ⟨valA_nil _ _ _, (c3.setCell (p := ⟨w.heap.size + 1 + 1, 0, none⟩) (by show w.heap.size ≤ w.heap.size + 1 + 1; omega) _).setCell (p := ⟨w.heap.size + 1 + 1, 1, none⟩) (by show w.heap.size ≤ w.heap.size + 1 + 1; omega) _⟩

set_option maxHeartbeats 2000000 in
theorem implDo_bind (k a b n m : Int) (v : Value) (l : List (Int × Int)) (w : World) (h : Rd w v l) (hll : l.length ≤ 1099511627776) (hs : bindOk k a b n) :
    Calls Try.prog 13 #[.agg #[.int .i64 m, v], .agg #[.int .i64 k, .int .i64 a, .int .i64 b, .int .i64 n]] w fun e w' => ValA w.heap.size w' e (0) (addL l b n) ∧ Below w.heap.size w w' := by
  have HW := fun w => writeOf_bind hs w
  have hm := method_bindDo k a b n
  have HR := hid h
  obtain ⟨ao, cap, hv, _⟩ := h
  subst hv
  clear hs
  obtain ⟨q, hq⟩ : ∃ q, addL l b n = q := ⟨_, rfl⟩
  go_enter Try.func13, Try.ntmps13
  go_wp2_with fail
  have x0_1 : (((w.alloc (.cells #[.int .i64 m, .slice ao l.length cap] 30)).alloc (.cells #[.int .i64 k, .int .i64 a, .int .i64 b, .int .i64 n] 24)).alloc (.cells #[.int .i64 0, .slice none 0 0] 30)).cell? ⟨w.heap.size, 0, none⟩ = some (.int .i64 m) := by go_cell
  have x1_1 : (((w.alloc (.cells #[.int .i64 m, .slice ao l.length cap] 30)).alloc (.cells #[.int .i64 k, .int .i64 a, .int .i64 b, .int .i64 n] 24)).alloc (.cells #[.int .i64 0, .slice none 0 0] 30)).cell? ⟨w.heap.size, 1, none⟩ = some (.slice ao l.length cap) := by go_cell
  have xl_1 : w.heap.size < (((w.alloc (.cells #[.int .i64 m, .slice ao l.length cap] 30)).alloc (.cells #[.int .i64 k, .int .i64 a, .int .i64 b, .int .i64 n] 24)).alloc (.cells #[.int .i64 0, .slice none 0 0] 30)).heap.size := by first | (simp; done) | (simp; omega)
  have o0_1 : (((w.alloc (.cells #[.int .i64 m, .slice ao l.length cap] 30)).alloc (.cells #[.int .i64 k, .int .i64 a, .int .i64 b, .int .i64 n] 24)).alloc (.cells #[.int .i64 0, .slice none 0 0] 30)).cell? ⟨w.heap.size + 1, 0, none⟩ = some (.int .i64 k) := by go_cell
  have o1_1 : (((w.alloc (.cells #[.int .i64 m, .slice ao l.length cap] 30)).alloc (.cells #[.int .i64 k, .int .i64 a, .int .i64 b, .int .i64 n] 24)).alloc (.cells #[.int .i64 0, .slice none 0 0] 30)).cell? ⟨w.heap.size + 1, 1, none⟩ = some (.int .i64 a) := by go_cell
  have o2_1 : (((w.alloc (.cells #[.int .i64 m, .slice ao l.length cap] 30)).alloc (.cells #[.int .i64 k, .int .i64 a, .int .i64 b, .int .i64 n] 24)).alloc (.cells #[.int .i64 0, .slice none 0 0] 30)).cell? ⟨w.heap.size + 1, 2, none⟩ = some (.int .i64 b) := by go_cell
  have o3_1 : (((w.alloc (.cells #[.int .i64 m, .slice ao l.length cap] 30)).alloc (.cells #[.int .i64 k, .int .i64 a, .int .i64 b, .int .i64 n] 24)).alloc (.cells #[.int .i64 0, .slice none 0 0] 30)).cell? ⟨w.heap.size + 1, 3, none⟩ = some (.int .i64 n) := by go_cell
  have ol_1 : w.heap.size + 1 < (((w.alloc (.cells #[.int .i64 m, .slice ao l.length cap] 30)).alloc (.cells #[.int .i64 k, .int .i64 a, .int .i64 b, .int .i64 n] 24)).alloc (.cells #[.int .i64 0, .slice none 0 0] 30)).heap.size := by first | (simp; done) | (simp; omega)
  have r0_1 : (((w.alloc (.cells #[.int .i64 m, .slice ao l.length cap] 30)).alloc (.cells #[.int .i64 k, .int .i64 a, .int .i64 b, .int .i64 n] 24)).alloc (.cells #[.int .i64 0, .slice none 0 0] 30)).cell? ⟨w.heap.size + 1 + 1, 0, none⟩ = some (.int .i64 0) := by go_cell
  have rf0_1 : (((w.alloc (.cells #[.int .i64 m, .slice ao l.length cap] 30)).alloc (.cells #[.int .i64 k, .int .i64 a, .int .i64 b, .int .i64 n] 24)).alloc (.cells #[.int .i64 0, .slice none 0 0] 30)).frozen? ⟨w.heap.size + 1 + 1, 0, none⟩ = false := by (first | go_cell | (simp [World.frozen?, World.alloc]; done) | rfl)
  have r1_1 : (((w.alloc (.cells #[.int .i64 m, .slice ao l.length cap] 30)).alloc (.cells #[.int .i64 k, .int .i64 a, .int .i64 b, .int .i64 n] 24)).alloc (.cells #[.int .i64 0, .slice none 0 0] 30)).cell? ⟨w.heap.size + 1 + 1, 1, none⟩ = some (.slice none 0 0) := by go_cell
  have rf1_1 : (((w.alloc (.cells #[.int .i64 m, .slice ao l.length cap] 30)).alloc (.cells #[.int .i64 k, .int .i64 a, .int .i64 b, .int .i64 n] 24)).alloc (.cells #[.int .i64 0, .slice none 0 0] 30)).frozen? ⟨w.heap.size + 1 + 1, 1, none⟩ = false := by (first | go_cell | (simp [World.frozen?, World.alloc]; done) | rfl)
  have rl_1 : w.heap.size + 1 + 1 < (((w.alloc (.cells #[.int .i64 m, .slice ao l.length cap] 30)).alloc (.cells #[.int .i64 k, .int .i64 a, .int .i64 b, .int .i64 n] 24)).alloc (.cells #[.int .i64 0, .slice none 0 0] 30)).heap.size := by first | (simp; done) | (simp; omega)
  have c1 : Below w.heap.size w (((w.alloc (.cells #[.int .i64 m, .slice ao l.length cap] 30)).alloc (.cells #[.int .i64 k, .int .i64 a, .int .i64 b, .int .i64 n] 24)).alloc (.cells #[.int .i64 0, .slice none 0 0] 30)) := by go_grown
  have s1 : (((w.alloc (.cells #[.int .i64 m, .slice ao l.length cap] 30)).alloc (.cells #[.int .i64 k, .int .i64 a, .int .i64 b, .int .i64 n] 24)).alloc (.cells #[.int .i64 0, .slice none 0 0] 30)).heap.size = w.heap.size + 3 := by simp
  generalize (((w.alloc (.cells #[.int .i64 m, .slice ao l.length cap] 30)).alloc (.cells #[.int .i64 k, .int .i64 a, .int .i64 b, .int .i64 n] 24)).alloc (.cells #[.int .i64 0, .slice none 0 0] 30)) = w1 at x0_1 x1_1 xl_1 o0_1 o1_1 o2_1 o3_1 ol_1 r0_1 rf0_1 r1_1 rf1_1 rl_1 c1 s1 ⊢
  have qx0_1 := cell_regrown x0_1
  have qx1_1 := cell_regrown x1_1
  have qo0_1 := cell_regrown o0_1
  have qo1_1 := cell_regrown o1_1
  have qo2_1 := cell_regrown o2_1
  have qo3_1 := cell_regrown o3_1
  have qr0_1 := cell_regrown r0_1
  have qr1_1 := cell_regrown r1_1
  go_region_with (first
    | (go_at_call 28; refine (HW _).mono ?_; rintro e w2 ⟨rfl, b2⟩; have d2 : Below w1.heap.size w1 w2 := (Below.trans (by go_grown) (b2.mono (by first | omega | (simp; done) | (simp; omega)))); have c2 : Below w.heap.size w w2 := c1.trans (d2.mono c1.size); have x0_2 : w2.cell? ⟨w.heap.size, 0, none⟩ = some (.int .i64 m) := (by rw [b2.cell (by first | omega | (simp; done) | (simp; omega))]; go_cell); have x1_2 : w2.cell? ⟨w.heap.size, 1, none⟩ = some (.slice ao l.length cap) := (by rw [b2.cell (by first | omega | (simp; done) | (simp; omega))]; go_cell); have xl_2 : w.heap.size < w2.heap.size := (by have := b2.size; first | omega | (revert this; simp; done) | (revert this; simp; omega)); have o0_2 : w2.cell? ⟨w.heap.size + 1, 0, none⟩ = some (.int .i64 k) := (by rw [b2.cell (by first | omega | (simp; done) | (simp; omega))]; go_cell); have o1_2 : w2.cell? ⟨w.heap.size + 1, 1, none⟩ = some (.int .i64 a) := (by rw [b2.cell (by first | omega | (simp; done) | (simp; omega))]; go_cell); have o2_2 : w2.cell? ⟨w.heap.size + 1, 2, none⟩ = some (.int .i64 b) := (by rw [b2.cell (by first | omega | (simp; done) | (simp; omega))]; go_cell); have o3_2 : w2.cell? ⟨w.heap.size + 1, 3, none⟩ = some (.int .i64 n) := (by rw [b2.cell (by first | omega | (simp; done) | (simp; omega))]; go_cell); have ol_2 : w.heap.size + 1 < w2.heap.size := (by have := b2.size; first | omega | (revert this; simp; done) | (revert this; simp; omega)); have r0_2 : w2.cell? ⟨w.heap.size + 1 + 1, 0, none⟩ = some (.int .i64 0) := (by rw [b2.cell (by first | omega | (simp; done) | (simp; omega))]; go_cell); have rf0_2 : w2.frozen? ⟨w.heap.size + 1 + 1, 0, none⟩ = false := (by rw [b2.frozen (by first | omega | (simp; done) | (simp; omega))]; (first | go_cell | (simp [World.frozen?, World.alloc]; done) | rfl)); have r1_2 : w2.cell? ⟨w.heap.size + 1 + 1, 1, none⟩ = some (.slice none 0 0) := (by rw [b2.cell (by first | omega | (simp; done) | (simp; omega))]; go_cell); have rf1_2 : w2.frozen? ⟨w.heap.size + 1 + 1, 1, none⟩ = false := (by rw [b2.frozen (by first | omega | (simp; done) | (simp; omega))]; (first | go_cell | (simp [World.frozen?, World.alloc]; done) | rfl)); have rl_2 : w.heap.size + 1 + 1 < w2.heap.size := (by have := b2.size; first | omega | (revert this; simp; done) | (revert this; simp; omega)); clear x0_1 x1_1 xl_1 o0_1 o1_1 o2_1 o3_1 ol_1 r0_1 rf0_1 r1_1 rf1_1 rl_1)
    | (go_at_call 116; refine (bindDo_any k a b n m _ l _ (HR.out.later c2) hll).mono ?_; rintro e w3 ⟨⟨v', rfl, ho⟩, b3⟩; obtain ⟨uo, uc, huv, _⟩ := ho.rd; subst huv; have HO := hid ho; clear ho; have d3 : Below w2.heap.size w2 w3 := (Below.trans (by go_grown) (b3.mono (by first | omega | (simp; done) | (simp; omega)))); have c3 : Below w.heap.size w w3 := c2.trans (d3.mono c2.size); have r0_3 : w3.cell? ⟨w.heap.size + 1 + 1, 0, none⟩ = some (.int .i64 0) := (by rw [b3.cell (by first | omega | (simp; done) | (simp; omega))]; go_cell); have rf0_3 : w3.frozen? ⟨w.heap.size + 1 + 1, 0, none⟩ = false := (by rw [b3.frozen (by first | omega | (simp; done) | (simp; omega))]; (first | go_cell | (simp [World.frozen?, World.alloc]; done) | rfl)); have r1_3 : w3.cell? ⟨w.heap.size + 1 + 1, 1, none⟩ = some (.slice none 0 0) := (by rw [b3.cell (by first | omega | (simp; done) | (simp; omega))]; go_cell); have rf1_3 : w3.frozen? ⟨w.heap.size + 1 + 1, 1, none⟩ = false := (by rw [b3.frozen (by first | omega | (simp; done) | (simp; omega))]; (first | go_cell | (simp [World.frozen?, World.alloc]; done) | rfl)); have rl_3 : w.heap.size + 1 + 1 < w3.heap.size := (by have := b3.size; first | omega | (revert this; simp; done) | (revert this; simp; omega)); clear r0_2 rf0_2 r1_2 rf1_2 rl_2; have HZ := hid (show w1.heap.size ≤ w2.heap.size from d2.size)))
  all_goals
    have HQ := hid hq
    clear hq
    go_wp2
    have e0 : ((w3.setCell ⟨w.heap.size + 1 + 1, 0, none⟩ (.int .i64 (0))).setCell ⟨w.heap.size + 1 + 1, 1, none⟩ (.slice uo q.length uc)).cell? ⟨w.heap.size + 1 + 1, 0, none⟩ = some (.int .i64 (0)) := by go_cell
    have e1 : ((w3.setCell ⟨w.heap.size + 1 + 1, 0, none⟩ (.int .i64 (0))).setCell ⟨w.heap.size + 1 + 1, 1, none⟩ (.slice uo q.length uc)).cell? ⟨w.heap.size + 1 + 1, 1, none⟩ = some (.slice uo q.length uc) := by go_cell
    have hz2 : w1.heap.size ≤ w2.heap.size := HZ.out
    have HF := hid (((HO.out.setApart (p := ⟨w.heap.size + 1 + 1, 0, none⟩) (by show w.heap.size + 1 + 1 < _; first | (simp; omega) | omega) (.int .i64 (0))).setApart (p := ⟨w.heap.size + 1 + 1, 1, none⟩) (by show w.heap.size + 1 + 1 < _; first | (simp; omega) | omega) (.slice uo q.length uc)).mono (B' := w.heap.size) (by first | (simp; omega) | omega))
    refine bodyPost_ret (v := .agg #[.int .i64 (0), .slice uo q.length uc]) (by simp [results, Try.results13, go_sem, e0, e1]) rfl ⟨⟨_, rfl, by have hf := HF.out; rw [HQ.out] at hf ⊢; exact hf⟩, (c3.setCell (p := ⟨w.heap.size + 1 + 1, 0, none⟩) (by show w.heap.size ≤ w.heap.size + 1 + 1; omega) _).setCell (p := ⟨w.heap.size + 1 + 1, 1, none⟩) (by show w.heap.size ≤ w.heap.size + 1 + 1; omega) _⟩

set_option maxHeartbeats 2000000 in
theorem implDo_part (k a b n m : Int) (v : Value) (l : List (Int × Int)) (w : World) (h : Rd w v l) (hll : l.length ≤ 1099511627776) (hs : partOk k a b n) :
    Calls Try.prog 13 #[.agg #[.int .i64 m, v], .agg #[.int .i64 k, .int .i64 a, .int .i64 b, .int .i64 n]] w fun e w' => ValA w.heap.size w' e (0) (dropL l b) ∧ Below w.heap.size w w' := by
  have HW := fun w => writeOf_part hs w
  have hm := method_partDo k a b n
  have HR := hid h
  obtain ⟨ao, cap, hv, _⟩ := h
  subst hv
  clear hs
  obtain ⟨q, hq⟩ : ∃ q, dropL l b = q := ⟨_, rfl⟩
  go_enter Try.func13, Try.ntmps13
  go_wp2_with fail
  have x0_1 : (((w.alloc (.cells #[.int .i64 m, .slice ao l.length cap] 30)).alloc (.cells #[.int .i64 k, .int .i64 a, .int .i64 b, .int .i64 n] 24)).alloc (.cells #[.int .i64 0, .slice none 0 0] 30)).cell? ⟨w.heap.size, 0, none⟩ = some (.int .i64 m) := by go_cell
  have x1_1 : (((w.alloc (.cells #[.int .i64 m, .slice ao l.length cap] 30)).alloc (.cells #[.int .i64 k, .int .i64 a, .int .i64 b, .int .i64 n] 24)).alloc (.cells #[.int .i64 0, .slice none 0 0] 30)).cell? ⟨w.heap.size, 1, none⟩ = some (.slice ao l.length cap) := by go_cell
  have xl_1 : w.heap.size < (((w.alloc (.cells #[.int .i64 m, .slice ao l.length cap] 30)).alloc (.cells #[.int .i64 k, .int .i64 a, .int .i64 b, .int .i64 n] 24)).alloc (.cells #[.int .i64 0, .slice none 0 0] 30)).heap.size := by first | (simp; done) | (simp; omega)
  have o0_1 : (((w.alloc (.cells #[.int .i64 m, .slice ao l.length cap] 30)).alloc (.cells #[.int .i64 k, .int .i64 a, .int .i64 b, .int .i64 n] 24)).alloc (.cells #[.int .i64 0, .slice none 0 0] 30)).cell? ⟨w.heap.size + 1, 0, none⟩ = some (.int .i64 k) := by go_cell
  have o1_1 : (((w.alloc (.cells #[.int .i64 m, .slice ao l.length cap] 30)).alloc (.cells #[.int .i64 k, .int .i64 a, .int .i64 b, .int .i64 n] 24)).alloc (.cells #[.int .i64 0, .slice none 0 0] 30)).cell? ⟨w.heap.size + 1, 1, none⟩ = some (.int .i64 a) := by go_cell
  have o2_1 : (((w.alloc (.cells #[.int .i64 m, .slice ao l.length cap] 30)).alloc (.cells #[.int .i64 k, .int .i64 a, .int .i64 b, .int .i64 n] 24)).alloc (.cells #[.int .i64 0, .slice none 0 0] 30)).cell? ⟨w.heap.size + 1, 2, none⟩ = some (.int .i64 b) := by go_cell
  have o3_1 : (((w.alloc (.cells #[.int .i64 m, .slice ao l.length cap] 30)).alloc (.cells #[.int .i64 k, .int .i64 a, .int .i64 b, .int .i64 n] 24)).alloc (.cells #[.int .i64 0, .slice none 0 0] 30)).cell? ⟨w.heap.size + 1, 3, none⟩ = some (.int .i64 n) := by go_cell
  have ol_1 : w.heap.size + 1 < (((w.alloc (.cells #[.int .i64 m, .slice ao l.length cap] 30)).alloc (.cells #[.int .i64 k, .int .i64 a, .int .i64 b, .int .i64 n] 24)).alloc (.cells #[.int .i64 0, .slice none 0 0] 30)).heap.size := by first | (simp; done) | (simp; omega)
  have r0_1 : (((w.alloc (.cells #[.int .i64 m, .slice ao l.length cap] 30)).alloc (.cells #[.int .i64 k, .int .i64 a, .int .i64 b, .int .i64 n] 24)).alloc (.cells #[.int .i64 0, .slice none 0 0] 30)).cell? ⟨w.heap.size + 1 + 1, 0, none⟩ = some (.int .i64 0) := by go_cell
  have rf0_1 : (((w.alloc (.cells #[.int .i64 m, .slice ao l.length cap] 30)).alloc (.cells #[.int .i64 k, .int .i64 a, .int .i64 b, .int .i64 n] 24)).alloc (.cells #[.int .i64 0, .slice none 0 0] 30)).frozen? ⟨w.heap.size + 1 + 1, 0, none⟩ = false := by (first | go_cell | (simp [World.frozen?, World.alloc]; done) | rfl)
  have r1_1 : (((w.alloc (.cells #[.int .i64 m, .slice ao l.length cap] 30)).alloc (.cells #[.int .i64 k, .int .i64 a, .int .i64 b, .int .i64 n] 24)).alloc (.cells #[.int .i64 0, .slice none 0 0] 30)).cell? ⟨w.heap.size + 1 + 1, 1, none⟩ = some (.slice none 0 0) := by go_cell
  have rf1_1 : (((w.alloc (.cells #[.int .i64 m, .slice ao l.length cap] 30)).alloc (.cells #[.int .i64 k, .int .i64 a, .int .i64 b, .int .i64 n] 24)).alloc (.cells #[.int .i64 0, .slice none 0 0] 30)).frozen? ⟨w.heap.size + 1 + 1, 1, none⟩ = false := by (first | go_cell | (simp [World.frozen?, World.alloc]; done) | rfl)
  have rl_1 : w.heap.size + 1 + 1 < (((w.alloc (.cells #[.int .i64 m, .slice ao l.length cap] 30)).alloc (.cells #[.int .i64 k, .int .i64 a, .int .i64 b, .int .i64 n] 24)).alloc (.cells #[.int .i64 0, .slice none 0 0] 30)).heap.size := by first | (simp; done) | (simp; omega)
  have c1 : Below w.heap.size w (((w.alloc (.cells #[.int .i64 m, .slice ao l.length cap] 30)).alloc (.cells #[.int .i64 k, .int .i64 a, .int .i64 b, .int .i64 n] 24)).alloc (.cells #[.int .i64 0, .slice none 0 0] 30)) := by go_grown
  have s1 : (((w.alloc (.cells #[.int .i64 m, .slice ao l.length cap] 30)).alloc (.cells #[.int .i64 k, .int .i64 a, .int .i64 b, .int .i64 n] 24)).alloc (.cells #[.int .i64 0, .slice none 0 0] 30)).heap.size = w.heap.size + 3 := by simp
  generalize (((w.alloc (.cells #[.int .i64 m, .slice ao l.length cap] 30)).alloc (.cells #[.int .i64 k, .int .i64 a, .int .i64 b, .int .i64 n] 24)).alloc (.cells #[.int .i64 0, .slice none 0 0] 30)) = w1 at x0_1 x1_1 xl_1 o0_1 o1_1 o2_1 o3_1 ol_1 r0_1 rf0_1 r1_1 rf1_1 rl_1 c1 s1 ⊢
  have qx0_1 := cell_regrown x0_1
  have qx1_1 := cell_regrown x1_1
  have qo0_1 := cell_regrown o0_1
  have qo1_1 := cell_regrown o1_1
  have qo2_1 := cell_regrown o2_1
  have qo3_1 := cell_regrown o3_1
  have qr0_1 := cell_regrown r0_1
  have qr1_1 := cell_regrown r1_1
  go_region_with (first
    | (go_at_call 28; refine (HW _).mono ?_; rintro e w2 ⟨rfl, b2⟩; have d2 : Below w1.heap.size w1 w2 := (Below.trans (by go_grown) (b2.mono (by first | omega | (simp; done) | (simp; omega)))); have c2 : Below w.heap.size w w2 := c1.trans (d2.mono c1.size); have x0_2 : w2.cell? ⟨w.heap.size, 0, none⟩ = some (.int .i64 m) := (by rw [b2.cell (by first | omega | (simp; done) | (simp; omega))]; go_cell); have x1_2 : w2.cell? ⟨w.heap.size, 1, none⟩ = some (.slice ao l.length cap) := (by rw [b2.cell (by first | omega | (simp; done) | (simp; omega))]; go_cell); have xl_2 : w.heap.size < w2.heap.size := (by have := b2.size; first | omega | (revert this; simp; done) | (revert this; simp; omega)); have o0_2 : w2.cell? ⟨w.heap.size + 1, 0, none⟩ = some (.int .i64 k) := (by rw [b2.cell (by first | omega | (simp; done) | (simp; omega))]; go_cell); have o1_2 : w2.cell? ⟨w.heap.size + 1, 1, none⟩ = some (.int .i64 a) := (by rw [b2.cell (by first | omega | (simp; done) | (simp; omega))]; go_cell); have o2_2 : w2.cell? ⟨w.heap.size + 1, 2, none⟩ = some (.int .i64 b) := (by rw [b2.cell (by first | omega | (simp; done) | (simp; omega))]; go_cell); have o3_2 : w2.cell? ⟨w.heap.size + 1, 3, none⟩ = some (.int .i64 n) := (by rw [b2.cell (by first | omega | (simp; done) | (simp; omega))]; go_cell); have ol_2 : w.heap.size + 1 < w2.heap.size := (by have := b2.size; first | omega | (revert this; simp; done) | (revert this; simp; omega)); have r0_2 : w2.cell? ⟨w.heap.size + 1 + 1, 0, none⟩ = some (.int .i64 0) := (by rw [b2.cell (by first | omega | (simp; done) | (simp; omega))]; go_cell); have rf0_2 : w2.frozen? ⟨w.heap.size + 1 + 1, 0, none⟩ = false := (by rw [b2.frozen (by first | omega | (simp; done) | (simp; omega))]; (first | go_cell | (simp [World.frozen?, World.alloc]; done) | rfl)); have r1_2 : w2.cell? ⟨w.heap.size + 1 + 1, 1, none⟩ = some (.slice none 0 0) := (by rw [b2.cell (by first | omega | (simp; done) | (simp; omega))]; go_cell); have rf1_2 : w2.frozen? ⟨w.heap.size + 1 + 1, 1, none⟩ = false := (by rw [b2.frozen (by first | omega | (simp; done) | (simp; omega))]; (first | go_cell | (simp [World.frozen?, World.alloc]; done) | rfl)); have rl_2 : w.heap.size + 1 + 1 < w2.heap.size := (by have := b2.size; first | omega | (revert this; simp; done) | (revert this; simp; omega)); clear x0_1 x1_1 xl_1 o0_1 o1_1 o2_1 o3_1 ol_1 r0_1 rf0_1 r1_1 rf1_1 rl_1)
    | (go_at_call 119; refine (partDo_any k a b n m _ l _ (HR.out.later c2) hll).mono ?_; rintro e w3 ⟨⟨v', rfl, ho⟩, b3⟩; obtain ⟨uo, uc, huv, _⟩ := ho.rd; subst huv; have HO := hid ho; clear ho; have d3 : Below w2.heap.size w2 w3 := (Below.trans (by go_grown) (b3.mono (by first | omega | (simp; done) | (simp; omega)))); have c3 : Below w.heap.size w w3 := c2.trans (d3.mono c2.size); have r0_3 : w3.cell? ⟨w.heap.size + 1 + 1, 0, none⟩ = some (.int .i64 0) := (by rw [b3.cell (by first | omega | (simp; done) | (simp; omega))]; go_cell); have rf0_3 : w3.frozen? ⟨w.heap.size + 1 + 1, 0, none⟩ = false := (by rw [b3.frozen (by first | omega | (simp; done) | (simp; omega))]; (first | go_cell | (simp [World.frozen?, World.alloc]; done) | rfl)); have r1_3 : w3.cell? ⟨w.heap.size + 1 + 1, 1, none⟩ = some (.slice none 0 0) := (by rw [b3.cell (by first | omega | (simp; done) | (simp; omega))]; go_cell); have rf1_3 : w3.frozen? ⟨w.heap.size + 1 + 1, 1, none⟩ = false := (by rw [b3.frozen (by first | omega | (simp; done) | (simp; omega))]; (first | go_cell | (simp [World.frozen?, World.alloc]; done) | rfl)); have rl_3 : w.heap.size + 1 + 1 < w3.heap.size := (by have := b3.size; first | omega | (revert this; simp; done) | (revert this; simp; omega)); clear r0_2 rf0_2 r1_2 rf1_2 rl_2; have HZ := hid (show w1.heap.size ≤ w2.heap.size from d2.size)))
  all_goals
    have HQ := hid hq
    clear hq
    go_wp2
    have e0 : ((w3.setCell ⟨w.heap.size + 1 + 1, 0, none⟩ (.int .i64 (0))).setCell ⟨w.heap.size + 1 + 1, 1, none⟩ (.slice uo q.length uc)).cell? ⟨w.heap.size + 1 + 1, 0, none⟩ = some (.int .i64 (0)) := by go_cell
    have e1 : ((w3.setCell ⟨w.heap.size + 1 + 1, 0, none⟩ (.int .i64 (0))).setCell ⟨w.heap.size + 1 + 1, 1, none⟩ (.slice uo q.length uc)).cell? ⟨w.heap.size + 1 + 1, 1, none⟩ = some (.slice uo q.length uc) := by go_cell
    have hz2 : w1.heap.size ≤ w2.heap.size := HZ.out
    have HF := hid (((HO.out.setApart (p := ⟨w.heap.size + 1 + 1, 0, none⟩) (by show w.heap.size + 1 + 1 < _; first | (simp; omega) | omega) (.int .i64 (0))).setApart (p := ⟨w.heap.size + 1 + 1, 1, none⟩) (by show w.heap.size + 1 + 1 < _; first | (simp; omega) | omega) (.slice uo q.length uc)).mono (B' := w.heap.size) (by first | (simp; omega) | omega))
    refine bodyPost_ret (v := .agg #[.int .i64 (0), .slice uo q.length uc]) (by simp [results, Try.results13, go_sem, e0, e1]) rfl ⟨⟨_, rfl, by have hf := HF.out; rw [HQ.out] at hf ⊢; exact hf⟩, (c3.setCell (p := ⟨w.heap.size + 1 + 1, 0, none⟩) (by show w.heap.size ≤ w.heap.size + 1 + 1; omega) _).setCell (p := ⟨w.heap.size + 1 + 1, 1, none⟩) (by show w.heap.size ≤ w.heap.size + 1 + 1; omega) _⟩

set_option maxHeartbeats 2000000 in
theorem implDo_no (k a b n m : Int) (v : Value) (l : List (Int × Int)) (w : World) (h : Rd w v l) (_ : l.length ≤ 1099511627776) (h1 : ¬ setOk k a b n) (h2 : ¬ bindOk k a b n) (h3 : ¬ partOk k a b n) :
    Calls Try.prog 13 #[.agg #[.int .i64 m, v], .agg #[.int .i64 k, .int .i64 a, .int .i64 b, .int .i64 n]] w fun e w' => ValA w.heap.size w' e (0) ([]) ∧ Below w.heap.size w w' := by
  have HW := fun w => writeOf_no h1 h2 h3 w
  have hm := method_noDo
  have HR := hid h
  obtain ⟨ao, cap, hv, _⟩ := h
  subst hv
  clear h1 h2 h3
  go_enter Try.func13, Try.ntmps13
  go_wp2_with fail
  have x0_1 : (((w.alloc (.cells #[.int .i64 m, .slice ao l.length cap] 30)).alloc (.cells #[.int .i64 k, .int .i64 a, .int .i64 b, .int .i64 n] 24)).alloc (.cells #[.int .i64 0, .slice none 0 0] 30)).cell? ⟨w.heap.size, 0, none⟩ = some (.int .i64 m) := by go_cell
  have x1_1 : (((w.alloc (.cells #[.int .i64 m, .slice ao l.length cap] 30)).alloc (.cells #[.int .i64 k, .int .i64 a, .int .i64 b, .int .i64 n] 24)).alloc (.cells #[.int .i64 0, .slice none 0 0] 30)).cell? ⟨w.heap.size, 1, none⟩ = some (.slice ao l.length cap) := by go_cell
  have xl_1 : w.heap.size < (((w.alloc (.cells #[.int .i64 m, .slice ao l.length cap] 30)).alloc (.cells #[.int .i64 k, .int .i64 a, .int .i64 b, .int .i64 n] 24)).alloc (.cells #[.int .i64 0, .slice none 0 0] 30)).heap.size := by first | (simp; done) | (simp; omega)
  have o0_1 : (((w.alloc (.cells #[.int .i64 m, .slice ao l.length cap] 30)).alloc (.cells #[.int .i64 k, .int .i64 a, .int .i64 b, .int .i64 n] 24)).alloc (.cells #[.int .i64 0, .slice none 0 0] 30)).cell? ⟨w.heap.size + 1, 0, none⟩ = some (.int .i64 k) := by go_cell
  have o1_1 : (((w.alloc (.cells #[.int .i64 m, .slice ao l.length cap] 30)).alloc (.cells #[.int .i64 k, .int .i64 a, .int .i64 b, .int .i64 n] 24)).alloc (.cells #[.int .i64 0, .slice none 0 0] 30)).cell? ⟨w.heap.size + 1, 1, none⟩ = some (.int .i64 a) := by go_cell
  have o2_1 : (((w.alloc (.cells #[.int .i64 m, .slice ao l.length cap] 30)).alloc (.cells #[.int .i64 k, .int .i64 a, .int .i64 b, .int .i64 n] 24)).alloc (.cells #[.int .i64 0, .slice none 0 0] 30)).cell? ⟨w.heap.size + 1, 2, none⟩ = some (.int .i64 b) := by go_cell
  have o3_1 : (((w.alloc (.cells #[.int .i64 m, .slice ao l.length cap] 30)).alloc (.cells #[.int .i64 k, .int .i64 a, .int .i64 b, .int .i64 n] 24)).alloc (.cells #[.int .i64 0, .slice none 0 0] 30)).cell? ⟨w.heap.size + 1, 3, none⟩ = some (.int .i64 n) := by go_cell
  have ol_1 : w.heap.size + 1 < (((w.alloc (.cells #[.int .i64 m, .slice ao l.length cap] 30)).alloc (.cells #[.int .i64 k, .int .i64 a, .int .i64 b, .int .i64 n] 24)).alloc (.cells #[.int .i64 0, .slice none 0 0] 30)).heap.size := by first | (simp; done) | (simp; omega)
  have r0_1 : (((w.alloc (.cells #[.int .i64 m, .slice ao l.length cap] 30)).alloc (.cells #[.int .i64 k, .int .i64 a, .int .i64 b, .int .i64 n] 24)).alloc (.cells #[.int .i64 0, .slice none 0 0] 30)).cell? ⟨w.heap.size + 1 + 1, 0, none⟩ = some (.int .i64 0) := by go_cell
  have rf0_1 : (((w.alloc (.cells #[.int .i64 m, .slice ao l.length cap] 30)).alloc (.cells #[.int .i64 k, .int .i64 a, .int .i64 b, .int .i64 n] 24)).alloc (.cells #[.int .i64 0, .slice none 0 0] 30)).frozen? ⟨w.heap.size + 1 + 1, 0, none⟩ = false := by (first | go_cell | (simp [World.frozen?, World.alloc]; done) | rfl)
  have r1_1 : (((w.alloc (.cells #[.int .i64 m, .slice ao l.length cap] 30)).alloc (.cells #[.int .i64 k, .int .i64 a, .int .i64 b, .int .i64 n] 24)).alloc (.cells #[.int .i64 0, .slice none 0 0] 30)).cell? ⟨w.heap.size + 1 + 1, 1, none⟩ = some (.slice none 0 0) := by go_cell
  have rf1_1 : (((w.alloc (.cells #[.int .i64 m, .slice ao l.length cap] 30)).alloc (.cells #[.int .i64 k, .int .i64 a, .int .i64 b, .int .i64 n] 24)).alloc (.cells #[.int .i64 0, .slice none 0 0] 30)).frozen? ⟨w.heap.size + 1 + 1, 1, none⟩ = false := by (first | go_cell | (simp [World.frozen?, World.alloc]; done) | rfl)
  have rl_1 : w.heap.size + 1 + 1 < (((w.alloc (.cells #[.int .i64 m, .slice ao l.length cap] 30)).alloc (.cells #[.int .i64 k, .int .i64 a, .int .i64 b, .int .i64 n] 24)).alloc (.cells #[.int .i64 0, .slice none 0 0] 30)).heap.size := by first | (simp; done) | (simp; omega)
  have c1 : Below w.heap.size w (((w.alloc (.cells #[.int .i64 m, .slice ao l.length cap] 30)).alloc (.cells #[.int .i64 k, .int .i64 a, .int .i64 b, .int .i64 n] 24)).alloc (.cells #[.int .i64 0, .slice none 0 0] 30)) := by go_grown
  have s1 : (((w.alloc (.cells #[.int .i64 m, .slice ao l.length cap] 30)).alloc (.cells #[.int .i64 k, .int .i64 a, .int .i64 b, .int .i64 n] 24)).alloc (.cells #[.int .i64 0, .slice none 0 0] 30)).heap.size = w.heap.size + 3 := by simp
  generalize (((w.alloc (.cells #[.int .i64 m, .slice ao l.length cap] 30)).alloc (.cells #[.int .i64 k, .int .i64 a, .int .i64 b, .int .i64 n] 24)).alloc (.cells #[.int .i64 0, .slice none 0 0] 30)) = w1 at x0_1 x1_1 xl_1 o0_1 o1_1 o2_1 o3_1 ol_1 r0_1 rf0_1 r1_1 rf1_1 rl_1 c1 s1 ⊢
  have qx0_1 := cell_regrown x0_1
  have qx1_1 := cell_regrown x1_1
  have qo0_1 := cell_regrown o0_1
  have qo1_1 := cell_regrown o1_1
  have qo2_1 := cell_regrown o2_1
  have qo3_1 := cell_regrown o3_1
  have qr0_1 := cell_regrown r0_1
  have qr1_1 := cell_regrown r1_1
  go_region_with (first
    | (go_at_call 28; refine (HW _).mono ?_; rintro e w2 ⟨rfl, b2⟩; have d2 : Below w1.heap.size w1 w2 := (Below.trans (by go_grown) (b2.mono (by first | omega | (simp; done) | (simp; omega)))); have c2 : Below w.heap.size w w2 := c1.trans (d2.mono c1.size); have x0_2 : w2.cell? ⟨w.heap.size, 0, none⟩ = some (.int .i64 m) := (by rw [b2.cell (by first | omega | (simp; done) | (simp; omega))]; go_cell); have x1_2 : w2.cell? ⟨w.heap.size, 1, none⟩ = some (.slice ao l.length cap) := (by rw [b2.cell (by first | omega | (simp; done) | (simp; omega))]; go_cell); have xl_2 : w.heap.size < w2.heap.size := (by have := b2.size; first | omega | (revert this; simp; done) | (revert this; simp; omega)); have o0_2 : w2.cell? ⟨w.heap.size + 1, 0, none⟩ = some (.int .i64 k) := (by rw [b2.cell (by first | omega | (simp; done) | (simp; omega))]; go_cell); have o1_2 : w2.cell? ⟨w.heap.size + 1, 1, none⟩ = some (.int .i64 a) := (by rw [b2.cell (by first | omega | (simp; done) | (simp; omega))]; go_cell); have o2_2 : w2.cell? ⟨w.heap.size + 1, 2, none⟩ = some (.int .i64 b) := (by rw [b2.cell (by first | omega | (simp; done) | (simp; omega))]; go_cell); have o3_2 : w2.cell? ⟨w.heap.size + 1, 3, none⟩ = some (.int .i64 n) := (by rw [b2.cell (by first | omega | (simp; done) | (simp; omega))]; go_cell); have ol_2 : w.heap.size + 1 < w2.heap.size := (by have := b2.size; first | omega | (revert this; simp; done) | (revert this; simp; omega)); have r0_2 : w2.cell? ⟨w.heap.size + 1 + 1, 0, none⟩ = some (.int .i64 0) := (by rw [b2.cell (by first | omega | (simp; done) | (simp; omega))]; go_cell); have rf0_2 : w2.frozen? ⟨w.heap.size + 1 + 1, 0, none⟩ = false := (by rw [b2.frozen (by first | omega | (simp; done) | (simp; omega))]; (first | go_cell | (simp [World.frozen?, World.alloc]; done) | rfl)); have r1_2 : w2.cell? ⟨w.heap.size + 1 + 1, 1, none⟩ = some (.slice none 0 0) := (by rw [b2.cell (by first | omega | (simp; done) | (simp; omega))]; go_cell); have rf1_2 : w2.frozen? ⟨w.heap.size + 1 + 1, 1, none⟩ = false := (by rw [b2.frozen (by first | omega | (simp; done) | (simp; omega))]; (first | go_cell | (simp [World.frozen?, World.alloc]; done) | rfl)); have rl_2 : w.heap.size + 1 + 1 < w2.heap.size := (by have := b2.size; first | omega | (revert this; simp; done) | (revert this; simp; omega)); clear x0_1 x1_1 xl_1 o0_1 o1_1 o2_1 o3_1 ol_1 r0_1 rf0_1 r1_1 rf1_1 rl_1)
    | (go_at_call 101; refine (noDo_any m _ _).mono ?_; rintro e w3 ⟨rfl, b3⟩; have d3 : Below w2.heap.size w2 w3 := (Below.trans (by go_grown) (b3.mono (by first | omega | (simp; done) | (simp; omega)))); have c3 : Below w.heap.size w w3 := c2.trans (d3.mono c2.size); have r0_3 : w3.cell? ⟨w.heap.size + 1 + 1, 0, none⟩ = some (.int .i64 0) := (by rw [b3.cell (by first | omega | (simp; done) | (simp; omega))]; go_cell); have rf0_3 : w3.frozen? ⟨w.heap.size + 1 + 1, 0, none⟩ = false := (by rw [b3.frozen (by first | omega | (simp; done) | (simp; omega))]; (first | go_cell | (simp [World.frozen?, World.alloc]; done) | rfl)); have r1_3 : w3.cell? ⟨w.heap.size + 1 + 1, 1, none⟩ = some (.slice none 0 0) := (by rw [b3.cell (by first | omega | (simp; done) | (simp; omega))]; go_cell); have rf1_3 : w3.frozen? ⟨w.heap.size + 1 + 1, 1, none⟩ = false := (by rw [b3.frozen (by first | omega | (simp; done) | (simp; omega))]; (first | go_cell | (simp [World.frozen?, World.alloc]; done) | rfl)); have rl_3 : w.heap.size + 1 + 1 < w3.heap.size := (by have := b3.size; first | omega | (revert this; simp; done) | (revert this; simp; omega)); clear r0_2 rf0_2 r1_2 rf1_2 rl_2))
  all_goals
    go_wp2
    have e0 : ((w3.setCell ⟨w.heap.size + 1 + 1, 0, none⟩ (.int .i64 (0))).setCell ⟨w.heap.size + 1 + 1, 1, none⟩ (.slice none 0 0)).cell? ⟨w.heap.size + 1 + 1, 0, none⟩ = some (.int .i64 (0)) := by go_cell
    have e1 : ((w3.setCell ⟨w.heap.size + 1 + 1, 0, none⟩ (.int .i64 (0))).setCell ⟨w.heap.size + 1 + 1, 1, none⟩ (.slice none 0 0)).cell? ⟨w.heap.size + 1 + 1, 1, none⟩ = some (.slice none 0 0) := by go_cell
    refine bodyPost_ret (v := .agg #[.int .i64 (0), .slice none 0 0]) (by simp [results, Try.results13, go_sem, e0, e1]) rfl ⟨valA_nil _ _ _, (c3.setCell (p := ⟨w.heap.size + 1 + 1, 0, none⟩) (by show w.heap.size ≤ w.heap.size + 1 + 1; omega) _).setCell (p := ⟨w.heap.size + 1 + 1, 1, none⟩) (by show w.heap.size ≤ w.heap.size + 1 + 1; omega) _⟩

theorem implDo_any (k a b n m : Int) (v : Value) (l : List (Int × Int)) (w : World) (h : Rd w v l) (hll : l.length ≤ 1099511627776) :
    Calls Try.prog 13 #[.agg #[.int .i64 m, v], .agg #[.int .i64 k, .int .i64 a, .int .i64 b, .int .i64 n]] w fun e w' => ValA w.heap.size w' e (doN k a b n) (doL k a b n l) ∧ Below w.heap.size w w' := by
  rcases do_ways k a b n l with ⟨hs, e1, e2, -⟩ | ⟨hs, e1, e2, -⟩ | ⟨hs, e1, e2, -⟩ | ⟨h1, h2, h3, e1, e2, -⟩ <;> rw [e1, e2]
  · exact implDo_set k a b n m v l w h hll hs
  · exact implDo_bind k a b n m v l w h hll hs
  · exact implDo_part k a b n m v l w h hll hs
  · exact implDo_no k a b n m v l w h hll h1 h2 h3
end Go.Proofs.Ythmbhcgecnkgeaa
