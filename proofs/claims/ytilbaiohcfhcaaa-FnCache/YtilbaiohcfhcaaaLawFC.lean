/- The law FnCache: its walk. Written by a program (gfc.py). -/
import Derived.Test.YtilbaiohcfhcaaaYp
import Derived.Test.YtilbaiohcfhcaaaYg
import Derived.Test.YtilbaiohcfhcaaaYh
import Derived.Test.YtilbaiohcfhcaaaYj
import Derived.BigQuiet
import Derived.Lib.QuietBelow
import Derived.Deep.Cut
import Derived.Deep.CutRange
namespace Go.Proofs.Ytilbaiohcfhcaaa
open Go.RowKit
attribute [local go_sem ↓] Go.wp_at_zero Go.wp_at_succ

set_option maxRecDepth 100000 in
set_option maxHeartbeats 16000000 in
theorem lawFC_any (v : Value) (n : Nat) (v2 : Value) (n2 : Nat) (w : World) (h : Bs w v n) (h2 : Bs w v2 n2) :
    Calls Try.prog 3 #[v, v2] w fun e w' => e = .returned (.bool true) ∧ Below w.heap.size w w' := by
  have HB1 := hid h
  have HB2 := hid h2
  obtain ⟨ao, cap, hv, h0, _⟩ := h
  subst hv
  obtain ⟨ao2, cap2, hv, h20, _⟩ := h2
  subst hv
  unfold maxLen at h0 h20
  by_cases hbign : 1048576 < n
  · go_enter Try.func3, Try.ntmps3
    go_wp2
    go_ret
    exact ⟨rfl, Below.refl _ _⟩
  by_cases hbign2 : 1048576 < n2
  · go_enter Try.func3, Try.ntmps3
    go_wp2
    go_ret
    exact ⟨rfl, Below.refl _ _⟩
  go_enter Try.func3, Try.ntmps3
  go_wp2_with fail
  refine (drawCPut_any _ n _ HB1.out).mono ?_
  rintro e w1 ⟨⟨y0, y1, I, F, k, p, m, u, l, rfl, hrs, hu, hl⟩, c1⟩
  obtain ⟨io, fo, ic, fc, rfl, rfl⟩ := hrs.open
  have HC_1 := hid hrs
  have HU_1 := hid hu
  obtain ⟨uo, uc, rfl, _⟩ := hu
  clear hrs HB1
  go_wp2_with fail
  generalize hW2 : (w1.alloc (.cells #[.slice io I.length ic, .slice fo F.length fc] 26)) = w2
  have c0_2 : w2.cell? ⟨w1.heap.size, 0, none⟩ = some (.slice io I.length ic) := by subst hW2; go_cell
  have c1_2 : w2.cell? ⟨w1.heap.size, 1, none⟩ = some (.slice fo F.length fc) := by subst hW2; go_cell
  have cl_2 : w1.heap.size < w2.heap.size := by subst hW2; simp
  have d2 : Below w1.heap.size w1 w2 := by subst hW2; go_grown
  have sz2 : w2.heap.size = w1.heap.size + 1 := by subst hW2; simp
  clear hW2
  have c2 : Below w.heap.size w w2 := c1.trans (d2.mono c1.size)
  have HC_2 := hid (HC_1.out.later d2)
  have HU_2 := hid (HU_1.out.later d2)
  clear d2 HC_1 HU_1
  generalize hW3 : (w2.alloc (.cells #[.int .i64 k, .int .i64 p, .int .i64 m, .slice uo l.length uc] 31)) = w3
  have t0_3 : w3.cell? ⟨w2.heap.size, 0, none⟩ = some (.int .i64 k) := by subst hW3; go_cell
  have t1_3 : w3.cell? ⟨w2.heap.size, 1, none⟩ = some (.int .i64 p) := by subst hW3; go_cell
  have t2_3 : w3.cell? ⟨w2.heap.size, 2, none⟩ = some (.int .i64 m) := by subst hW3; go_cell
  have t3_3 : w3.cell? ⟨w2.heap.size, 3, none⟩ = some (.slice uo l.length uc) := by subst hW3; go_cell
  have tl_3 : w2.heap.size < w3.heap.size := by subst hW3; simp
  have d3 : Below w2.heap.size w2 w3 := by subst hW3; go_grown
  clear hW3
  have c3 : Below w.heap.size w w3 := c2.trans (d3.mono c2.size)
  have c0_3 : w3.cell? ⟨w1.heap.size, 0, none⟩ = some (.slice io I.length ic) := (by rw [d3.cell (by first | omega | (simp; done) | (simp; omega))]; go_cell)
  have c1_3 : w3.cell? ⟨w1.heap.size, 1, none⟩ = some (.slice fo F.length fc) := (by rw [d3.cell (by first | omega | (simp; done) | (simp; omega))]; go_cell)
  have cl_3 : w1.heap.size < w3.heap.size := (by have := d3.size; omega)
  clear c0_2 c1_2 cl_2
  have HC_3 := hid (HC_2.out.later d3)
  have HU_3 := hid (HU_2.out.later d3)
  clear d3 HC_2 HU_2
  rw [sz2] at t0_3 t1_3 t2_3 t3_3 tl_3
  clear sz2
  obtain ⟨⟨⟨X, G⟩, b⟩, hD⟩ : ∃ D, ansP I F k p m l = D := ⟨_, rfl⟩
  have ID := fun (v0 v1 : Value) (W : World) (h : RSCache W v0 v1 I F) (hu : Rd W (.slice uo l.length uc) l) => implCPut_rd v0 v1 I F k p m _ l W h hu hD
  have SD := fun (v0 v1 : Value) (W : World) (h : RSCache W v0 v1 I F) (hu : Rd W (.slice uo l.length uc) l) => specCPut_rd v0 v1 I F k p m _ l W h hu hD
  simp only at ID SD
  have HD := hid hD
  clear hD
  refine (ID _ _ _ HC_3.out HU_3.out).mono ?_
  rintro e w4 ⟨⟨xo, xg, xc, xd, rfl, hx⟩, b4⟩
  have d4 : Below w3.heap.size w3 w4 := (Below.trans (by go_grown) (b4.mono (by first | omega | (simp; done) | (simp; omega))))
  have c4 : Below w.heap.size w w4 := c3.trans (d4.mono c3.size)
  have c0_4 : w4.cell? ⟨w1.heap.size, 0, none⟩ = some (.slice io I.length ic) := (by rw [b4.cell (by first | omega | (simp; done) | (simp; omega))]; go_cell)
  have c1_4 : w4.cell? ⟨w1.heap.size, 1, none⟩ = some (.slice fo F.length fc) := (by rw [b4.cell (by first | omega | (simp; done) | (simp; omega))]; go_cell)
  have cl_4 : w1.heap.size < w4.heap.size := (by have := b4.size; first | omega | (revert this; simp; done) | (revert this; simp; omega))
  have t0_4 : w4.cell? ⟨w1.heap.size + 1, 0, none⟩ = some (.int .i64 k) := (by rw [b4.cell (by first | omega | (simp; done) | (simp; omega))]; go_cell)
  have t1_4 : w4.cell? ⟨w1.heap.size + 1, 1, none⟩ = some (.int .i64 p) := (by rw [b4.cell (by first | omega | (simp; done) | (simp; omega))]; go_cell)
  have t2_4 : w4.cell? ⟨w1.heap.size + 1, 2, none⟩ = some (.int .i64 m) := (by rw [b4.cell (by first | omega | (simp; done) | (simp; omega))]; go_cell)
  have t3_4 : w4.cell? ⟨w1.heap.size + 1, 3, none⟩ = some (.slice uo l.length uc) := (by rw [b4.cell (by first | omega | (simp; done) | (simp; omega))]; go_cell)
  have tl_4 : w1.heap.size + 1 < w4.heap.size := (by have := b4.size; first | omega | (revert this; simp; done) | (revert this; simp; omega))
  clear c0_3 c1_3 cl_3 t0_3 t1_3 t2_3 t3_3 tl_3
  have HC_4 := hid (HC_3.out.later d4)
  have HU_4 := hid (HU_3.out.later d4)
  clear d4 b4 HC_3 HU_3
  have HX_4 := hid hx
  clear hx ID
  go_wp2_with fail
  generalize hW5 : (w4.alloc (.cells #[.slice xo X.length xc, .slice xg G.length xd] 26)) = w5
  have x0_5 : w5.cell? ⟨w4.heap.size, 0, none⟩ = some (.slice xo X.length xc) := by subst hW5; go_cell
  have x1_5 : w5.cell? ⟨w4.heap.size, 1, none⟩ = some (.slice xg G.length xd) := by subst hW5; go_cell
  have xl_5 : w4.heap.size < w5.heap.size := by subst hW5; simp
  have d5 : Below w4.heap.size w4 w5 := by subst hW5; go_grown
  clear hW5
  have c5 : Below w.heap.size w w5 := c4.trans (d5.mono c4.size)
  have c0_5 : w5.cell? ⟨w1.heap.size, 0, none⟩ = some (.slice io I.length ic) := (by rw [d5.cell (by first | omega | (simp; done) | (simp; omega))]; go_cell)
  have c1_5 : w5.cell? ⟨w1.heap.size, 1, none⟩ = some (.slice fo F.length fc) := (by rw [d5.cell (by first | omega | (simp; done) | (simp; omega))]; go_cell)
  have cl_5 : w1.heap.size < w5.heap.size := (by have := d5.size; omega)
  have t0_5 : w5.cell? ⟨w1.heap.size + 1, 0, none⟩ = some (.int .i64 k) := (by rw [d5.cell (by first | omega | (simp; done) | (simp; omega))]; go_cell)
  have t1_5 : w5.cell? ⟨w1.heap.size + 1, 1, none⟩ = some (.int .i64 p) := (by rw [d5.cell (by first | omega | (simp; done) | (simp; omega))]; go_cell)
  have t2_5 : w5.cell? ⟨w1.heap.size + 1, 2, none⟩ = some (.int .i64 m) := (by rw [d5.cell (by first | omega | (simp; done) | (simp; omega))]; go_cell)
  have t3_5 : w5.cell? ⟨w1.heap.size + 1, 3, none⟩ = some (.slice uo l.length uc) := (by rw [d5.cell (by first | omega | (simp; done) | (simp; omega))]; go_cell)
  have tl_5 : w1.heap.size + 1 < w5.heap.size := (by have := d5.size; omega)
  clear c0_4 c1_4 cl_4 t0_4 t1_4 t2_4 t3_4 tl_4
  have HC_5 := hid (HC_4.out.later d5)
  have HU_5 := hid (HU_4.out.later d5)
  have HX_5 := hid (HX_4.out.later d5)
  clear d5 HC_4 HU_4 HX_4
  refine (SD _ _ _ HC_5.out HU_5.out).mono ?_
  rintro e w6 ⟨⟨so, sg, sc, sd, rfl, hx⟩, b6⟩
  have d6 : Below w5.heap.size w5 w6 := (Below.trans (by go_grown) (b6.mono (by first | omega | (simp; done) | (simp; omega))))
  have c6 : Below w.heap.size w w6 := c5.trans (d6.mono c5.size)
  have c0_6 : w6.cell? ⟨w1.heap.size, 0, none⟩ = some (.slice io I.length ic) := (by rw [b6.cell (by first | omega | (simp; done) | (simp; omega))]; go_cell)
  have c1_6 : w6.cell? ⟨w1.heap.size, 1, none⟩ = some (.slice fo F.length fc) := (by rw [b6.cell (by first | omega | (simp; done) | (simp; omega))]; go_cell)
  have cl_6 : w1.heap.size < w6.heap.size := (by have := b6.size; first | omega | (revert this; simp; done) | (revert this; simp; omega))
  have t0_6 : w6.cell? ⟨w1.heap.size + 1, 0, none⟩ = some (.int .i64 k) := (by rw [b6.cell (by first | omega | (simp; done) | (simp; omega))]; go_cell)
  have t1_6 : w6.cell? ⟨w1.heap.size + 1, 1, none⟩ = some (.int .i64 p) := (by rw [b6.cell (by first | omega | (simp; done) | (simp; omega))]; go_cell)
  have t2_6 : w6.cell? ⟨w1.heap.size + 1, 2, none⟩ = some (.int .i64 m) := (by rw [b6.cell (by first | omega | (simp; done) | (simp; omega))]; go_cell)
  have t3_6 : w6.cell? ⟨w1.heap.size + 1, 3, none⟩ = some (.slice uo l.length uc) := (by rw [b6.cell (by first | omega | (simp; done) | (simp; omega))]; go_cell)
  have tl_6 : w1.heap.size + 1 < w6.heap.size := (by have := b6.size; first | omega | (revert this; simp; done) | (revert this; simp; omega))
  have x0_6 : w6.cell? ⟨w4.heap.size, 0, none⟩ = some (.slice xo X.length xc) := (by rw [b6.cell (by first | omega | (simp; done) | (simp; omega))]; go_cell)
  have x1_6 : w6.cell? ⟨w4.heap.size, 1, none⟩ = some (.slice xg G.length xd) := (by rw [b6.cell (by first | omega | (simp; done) | (simp; omega))]; go_cell)
  have xl_6 : w4.heap.size < w6.heap.size := (by have := b6.size; first | omega | (revert this; simp; done) | (revert this; simp; omega))
  clear c0_5 c1_5 cl_5 t0_5 t1_5 t2_5 t3_5 tl_5 x0_5 x1_5 xl_5
  have HC_6 := hid (HC_5.out.later d6)
  have HU_6 := hid (HU_5.out.later d6)
  have HX_6 := hid (HX_5.out.later d6)
  clear d6 b6 HC_5 HU_5 HX_5
  have HY_6 := hid hx
  clear hx SD
  go_wp2_with fail
  generalize hW7 : (w6.alloc (.cells #[.slice so X.length sc, .slice sg G.length sd] 26)) = w7
  have y0_7 : w7.cell? ⟨w6.heap.size, 0, none⟩ = some (.slice so X.length sc) := by subst hW7; go_cell
  have y1_7 : w7.cell? ⟨w6.heap.size, 1, none⟩ = some (.slice sg G.length sd) := by subst hW7; go_cell
  have yl_7 : w6.heap.size < w7.heap.size := by subst hW7; simp
  have d7 : Below w6.heap.size w6 w7 := by subst hW7; go_grown
  clear hW7
  have c7 : Below w.heap.size w w7 := c6.trans (d7.mono c6.size)
  have c0_7 : w7.cell? ⟨w1.heap.size, 0, none⟩ = some (.slice io I.length ic) := (by rw [d7.cell (by first | omega | (simp; done) | (simp; omega))]; go_cell)
  have c1_7 : w7.cell? ⟨w1.heap.size, 1, none⟩ = some (.slice fo F.length fc) := (by rw [d7.cell (by first | omega | (simp; done) | (simp; omega))]; go_cell)
  have cl_7 : w1.heap.size < w7.heap.size := (by have := d7.size; omega)
  have t0_7 : w7.cell? ⟨w1.heap.size + 1, 0, none⟩ = some (.int .i64 k) := (by rw [d7.cell (by first | omega | (simp; done) | (simp; omega))]; go_cell)
  have t1_7 : w7.cell? ⟨w1.heap.size + 1, 1, none⟩ = some (.int .i64 p) := (by rw [d7.cell (by first | omega | (simp; done) | (simp; omega))]; go_cell)
  have t2_7 : w7.cell? ⟨w1.heap.size + 1, 2, none⟩ = some (.int .i64 m) := (by rw [d7.cell (by first | omega | (simp; done) | (simp; omega))]; go_cell)
  have t3_7 : w7.cell? ⟨w1.heap.size + 1, 3, none⟩ = some (.slice uo l.length uc) := (by rw [d7.cell (by first | omega | (simp; done) | (simp; omega))]; go_cell)
  have tl_7 : w1.heap.size + 1 < w7.heap.size := (by have := d7.size; omega)
  have x0_7 : w7.cell? ⟨w4.heap.size, 0, none⟩ = some (.slice xo X.length xc) := (by rw [d7.cell (by first | omega | (simp; done) | (simp; omega))]; go_cell)
  have x1_7 : w7.cell? ⟨w4.heap.size, 1, none⟩ = some (.slice xg G.length xd) := (by rw [d7.cell (by first | omega | (simp; done) | (simp; omega))]; go_cell)
  have xl_7 : w4.heap.size < w7.heap.size := (by have := d7.size; omega)
  clear c0_6 c1_6 cl_6 t0_6 t1_6 t2_6 t3_6 tl_6 x0_6 x1_6 xl_6
  have HC_7 := hid (HC_6.out.later d7)
  have HU_7 := hid (HU_6.out.later d7)
  have HX_7 := hid (HX_6.out.later d7)
  have HY_7 := hid (HY_6.out.later d7)
  clear d7 HC_6 HU_6 HX_6 HY_6
  obtain ⟨ok, hok⟩ : ∃ z, okC I F = z := ⟨_, rfl⟩
  have HOK := hid hok
  have O1 := fun (v0 v1 : Value) (W : World) (h : RSCache W v0 v1 I F) => implCOk_any v0 v1 I F W h.h0 h.h1
  have O2 := fun (v0 v1 : Value) (W : World) (h : RSCache W v0 v1 I F) => specCOk_any v0 v1 I F W h.h0 h.h1
  rw [hok] at O1 O2
  clear hok
  have Qc0 := cell_regrown c0_7
  have Qc1 := cell_regrown c1_7
  have Qx0 := cell_regrown x0_7
  have Qx1 := cell_regrown x1_7
  have Qy0 := cell_regrown y0_7
  have Qy1 := cell_regrown y1_7
  have hbb : (b != b) = false := by simp
  have hkk : (ok != ok) = false := by simp
  refine wp_region_quiet_below (by kernel_rfl) (by kernel_rfl) ?_
  repeat (first | go_big_quiet_skip | (go_big_quiet_want; go_big_quiet_op; first | go_big_quiet_on | go_big_quiet_call (first | (go_at_call 7; exact Calls.regrown_of (csame_is (HX_7.out.later (below_regrown _ _ _)) (HY_7.out.later (below_regrown _ _ _)))) | (go_at_call 8; exact Calls.regrown_of (O1 _ _ _ (HC_7.out.later (below_regrown _ _ _)))) | (go_at_call 9; exact Calls.regrown_of (O2 _ _ _ (HC_7.out.later (below_regrown _ _ _)))))))
  refine wpQuiet_nil ?_
  rintro wq ⟨pq, hwq⟩
  have hq : Below w7.heap.size w7 wq := by rw [hwq]; exact below_regrown _ _ _
  clear hwq pq
  obtain ⟨w8, hw8⟩ : ∃ y, y = wq := ⟨_, rfl⟩
  subst hw8
  have b8 := hq
  clear hq
  have d8 : Below w7.heap.size w7 w8 := (Below.trans (by go_grown) (b8.mono (by first | omega | (simp; done) | (simp; omega))))
  have c8 : Below w.heap.size w w8 := c7.trans (d8.mono c7.size)
  have c0_8 : w8.cell? ⟨w1.heap.size, 0, none⟩ = some (.slice io I.length ic) := (by rw [b8.cell (by first | omega | (simp; done) | (simp; omega))]; go_cell)
  have c1_8 : w8.cell? ⟨w1.heap.size, 1, none⟩ = some (.slice fo F.length fc) := (by rw [b8.cell (by first | omega | (simp; done) | (simp; omega))]; go_cell)
  have cl_8 : w1.heap.size < w8.heap.size := (by have := b8.size; first | omega | (revert this; simp; done) | (revert this; simp; omega))
  have t0_8 : w8.cell? ⟨w1.heap.size + 1, 0, none⟩ = some (.int .i64 k) := (by rw [b8.cell (by first | omega | (simp; done) | (simp; omega))]; go_cell)
  have t1_8 : w8.cell? ⟨w1.heap.size + 1, 1, none⟩ = some (.int .i64 p) := (by rw [b8.cell (by first | omega | (simp; done) | (simp; omega))]; go_cell)
  have t2_8 : w8.cell? ⟨w1.heap.size + 1, 2, none⟩ = some (.int .i64 m) := (by rw [b8.cell (by first | omega | (simp; done) | (simp; omega))]; go_cell)
  have t3_8 : w8.cell? ⟨w1.heap.size + 1, 3, none⟩ = some (.slice uo l.length uc) := (by rw [b8.cell (by first | omega | (simp; done) | (simp; omega))]; go_cell)
  have tl_8 : w1.heap.size + 1 < w8.heap.size := (by have := b8.size; first | omega | (revert this; simp; done) | (revert this; simp; omega))
  have x0_8 : w8.cell? ⟨w4.heap.size, 0, none⟩ = some (.slice xo X.length xc) := (by rw [b8.cell (by first | omega | (simp; done) | (simp; omega))]; go_cell)
  have x1_8 : w8.cell? ⟨w4.heap.size, 1, none⟩ = some (.slice xg G.length xd) := (by rw [b8.cell (by first | omega | (simp; done) | (simp; omega))]; go_cell)
  have xl_8 : w4.heap.size < w8.heap.size := (by have := b8.size; first | omega | (revert this; simp; done) | (revert this; simp; omega))
  have y0_8 : w8.cell? ⟨w6.heap.size, 0, none⟩ = some (.slice so X.length sc) := (by rw [b8.cell (by first | omega | (simp; done) | (simp; omega))]; go_cell)
  have y1_8 : w8.cell? ⟨w6.heap.size, 1, none⟩ = some (.slice sg G.length sd) := (by rw [b8.cell (by first | omega | (simp; done) | (simp; omega))]; go_cell)
  have yl_8 : w6.heap.size < w8.heap.size := (by have := b8.size; first | omega | (revert this; simp; done) | (revert this; simp; omega))
  clear c0_7 c1_7 cl_7 t0_7 t1_7 t2_7 t3_7 tl_7 x0_7 x1_7 xl_7 y0_7 y1_7 yl_7
  have HC_8 := hid (HC_7.out.later d8)
  have HU_8 := hid (HU_7.out.later d8)
  have HX_8 := hid (HX_7.out.later d8)
  have HY_8 := hid (HY_7.out.later d8)
  clear d8 b8 Qc0 Qc1 Qx0 Qx1 Qy0 Qy1 hbb hkk O1 HC_7 HU_7 HX_7 HY_7
  clear y0_8 y1_8 yl_8 HY_8
  go_wp2_with fail
  refine (O2 _ _ _ HC_8.out).mono ?_
  rintro e w9 ⟨rfl, b9⟩
  have d9 : Below w8.heap.size w8 w9 := (Below.trans (by go_grown) (b9.mono (by first | omega | (simp; done) | (simp; omega))))
  have c9 : Below w.heap.size w w9 := c8.trans (d9.mono c8.size)
  have c0_9 : w9.cell? ⟨w1.heap.size, 0, none⟩ = some (.slice io I.length ic) := (by rw [b9.cell (by first | omega | (simp; done) | (simp; omega))]; go_cell)
  have c1_9 : w9.cell? ⟨w1.heap.size, 1, none⟩ = some (.slice fo F.length fc) := (by rw [b9.cell (by first | omega | (simp; done) | (simp; omega))]; go_cell)
  have cl_9 : w1.heap.size < w9.heap.size := (by have := b9.size; first | omega | (revert this; simp; done) | (revert this; simp; omega))
  have t0_9 : w9.cell? ⟨w1.heap.size + 1, 0, none⟩ = some (.int .i64 k) := (by rw [b9.cell (by first | omega | (simp; done) | (simp; omega))]; go_cell)
  have t1_9 : w9.cell? ⟨w1.heap.size + 1, 1, none⟩ = some (.int .i64 p) := (by rw [b9.cell (by first | omega | (simp; done) | (simp; omega))]; go_cell)
  have t2_9 : w9.cell? ⟨w1.heap.size + 1, 2, none⟩ = some (.int .i64 m) := (by rw [b9.cell (by first | omega | (simp; done) | (simp; omega))]; go_cell)
  have t3_9 : w9.cell? ⟨w1.heap.size + 1, 3, none⟩ = some (.slice uo l.length uc) := (by rw [b9.cell (by first | omega | (simp; done) | (simp; omega))]; go_cell)
  have tl_9 : w1.heap.size + 1 < w9.heap.size := (by have := b9.size; first | omega | (revert this; simp; done) | (revert this; simp; omega))
  have x0_9 : w9.cell? ⟨w4.heap.size, 0, none⟩ = some (.slice xo X.length xc) := (by rw [b9.cell (by first | omega | (simp; done) | (simp; omega))]; go_cell)
  have x1_9 : w9.cell? ⟨w4.heap.size, 1, none⟩ = some (.slice xg G.length xd) := (by rw [b9.cell (by first | omega | (simp; done) | (simp; omega))]; go_cell)
  have xl_9 : w4.heap.size < w9.heap.size := (by have := b9.size; first | omega | (revert this; simp; done) | (revert this; simp; omega))
  clear c0_8 c1_8 cl_8 t0_8 t1_8 t2_8 t3_8 tl_8 x0_8 x1_8 xl_8
  have HC_9 := hid (HC_8.out.later d9)
  have HU_9 := hid (HU_8.out.later d9)
  have HX_9 := hid (HX_8.out.later d9)
  clear d9 b9 HC_8 HU_8 HX_8
  clear O2
  cases ok with
  | false =>
    have e := HD.out
    rw [show ansP I F k p m l = (([], []), false) from by unfold ansP; rw [HOK.out]; rfl] at e
    simp only [Prod.mk.injEq] at e
    obtain ⟨⟨rfl, rfl⟩, rfl⟩ := e
    go_wp2
    go_ret
    exact ⟨by simp, (by first | exact c9 | exact Below.trans c9 (Below.mono (by go_grown) c9.size))⟩
  | true =>
    obtain ⟨hXok, hFG, hT, hFa⟩ := put_all HOK.out HD.out
    have HXOK := hid hXok
    have HFG := hid hFG
    have HT := hid hT
    have HFA := hid hFa
    clear hXok hFG hT hFa
    have OX := fun (v0 v1 : Value) (W : World) (h : RSCache W v0 v1 X G) => implCOk_any v0 v1 X G W h.h0 h.h1
    rw [HXOK.out] at OX
    go_upto_region 10 with fail
    go_cut [11, 12] from 75 (fun s1 s2 wx => GotC w9 b k p m l s1 s2 wx)
    case first => as_aux_lemma =>
      clear OX HOK HFG HXOK HB2
      cases b with
      | true =>
        have hg := HT.out rfl
        go_wp2_with fail
        refine (implGet_yes _ _ X G k _ HX_9.out hg).mono ?_
        rintro e w60 ⟨⟨ga, gc, rfl, hgu⟩, b60⟩
        go_wp2_with fail
        go_meet
        exact GotC.yes b60 hgu
      | false =>
        obtain ⟨o, ho⟩ : ∃ o, ansG X G k = o := ⟨_, rfl⟩
        go_wp2_with fail
        cases o with
        | none =>
          refine (implGet_no _ _ X G k _ HX_9.out ho).mono ?_
          rintro e w60 ⟨⟨ga, gc, rfl⟩, b60⟩
          go_wp2_with fail
          go_meet
          exact GotC.no (b60.alloc b60.size _)
        | some x =>
          obtain ⟨z0, z1, z2, zl, rfl⟩ : ∃ z0 z1 z2 zl, x = ([z0, z1, z2], zl) := item_three HX_9.out ho
          refine (implGet_yes _ _ X G k _ HX_9.out ho).mono ?_
          rintro e w60 ⟨⟨ga, gc, rfl, hgu⟩, b60⟩
          clear hgu
          go_wp2_with fail
          go_meet
          exact GotC.no (b60.alloc b60.size _)
    case rest => as_aux_lemma =>
      have hgot := hcut.2
      have b10 := hcut.1
      clear hcut
      obtain ⟨w10, hw10⟩ : ∃ y, y = wc := ⟨_, rfl⟩
      subst hw10
      have d10 : Below w9.heap.size w9 w10 := (Below.trans (by go_grown) (b10.mono (by first | omega | (simp; done) | (simp; omega))))
      have c10 : Below w.heap.size w w10 := c9.trans (d10.mono c9.size)
      have c0_10 : w10.cell? ⟨w1.heap.size, 0, none⟩ = some (.slice io I.length ic) := (by rw [b10.cell (by first | omega | (simp; done) | (simp; omega))]; go_cell)
      have c1_10 : w10.cell? ⟨w1.heap.size, 1, none⟩ = some (.slice fo F.length fc) := (by rw [b10.cell (by first | omega | (simp; done) | (simp; omega))]; go_cell)
      have cl_10 : w1.heap.size < w10.heap.size := (by have := b10.size; first | omega | (revert this; simp; done) | (revert this; simp; omega))
      have t0_10 : w10.cell? ⟨w1.heap.size + 1, 0, none⟩ = some (.int .i64 k) := (by rw [b10.cell (by first | omega | (simp; done) | (simp; omega))]; go_cell)
      have t1_10 : w10.cell? ⟨w1.heap.size + 1, 1, none⟩ = some (.int .i64 p) := (by rw [b10.cell (by first | omega | (simp; done) | (simp; omega))]; go_cell)
      have t2_10 : w10.cell? ⟨w1.heap.size + 1, 2, none⟩ = some (.int .i64 m) := (by rw [b10.cell (by first | omega | (simp; done) | (simp; omega))]; go_cell)
      have t3_10 : w10.cell? ⟨w1.heap.size + 1, 3, none⟩ = some (.slice uo l.length uc) := (by rw [b10.cell (by first | omega | (simp; done) | (simp; omega))]; go_cell)
      have tl_10 : w1.heap.size + 1 < w10.heap.size := (by have := b10.size; first | omega | (revert this; simp; done) | (revert this; simp; omega))
      have x0_10 : w10.cell? ⟨w4.heap.size, 0, none⟩ = some (.slice xo X.length xc) := (by rw [b10.cell (by first | omega | (simp; done) | (simp; omega))]; go_cell)
      have x1_10 : w10.cell? ⟨w4.heap.size, 1, none⟩ = some (.slice xg G.length xd) := (by rw [b10.cell (by first | omega | (simp; done) | (simp; omega))]; go_cell)
      have xl_10 : w4.heap.size < w10.heap.size := (by have := b10.size; first | omega | (revert this; simp; done) | (revert this; simp; omega))
      clear c0_9 c1_9 cl_9 t0_9 t1_9 t2_9 t3_9 tl_9 x0_9 x1_9 xl_9
      have HC_10 := hid (HC_9.out.later d10)
      have HU_10 := hid (HU_9.out.later d10)
      have HX_10 := hid (HX_9.out.later d10)
      clear d10 b10 HC_9 HU_9 HX_9
      go_upto_region 11 with fail
      go_cut [116] from 82 (fun s wx => s = .bool false ∧ Below w10.heap.size w10 wx)
      case first => as_aux_lemma =>
        clear HOK HFG HXOK HB2
        cases b with
        | true =>
          obtain ⟨rfl, Bg, ga, gc, rfl, hgl, g0_10, g1_10, g2_10, g3_10, hgr⟩ := hgot rfl
          have gl_10 := hgl
          have hpp : (p != p) = false := by simp
          go_wp2_with fail
          refine (vsame_is hgr HU_10.out).mono ?_
          rintro e w11 ⟨rfl, b11⟩
          have e11 := b11
          have d11 : Below w10.heap.size w10 w11 := (Below.trans (by go_grown) (b11.mono (by first | omega | (simp; done) | (simp; omega))))
          have c11 : Below w.heap.size w w11 := c10.trans (d11.mono c10.size)
          have c0_11 : w11.cell? ⟨w1.heap.size, 0, none⟩ = some (.slice io I.length ic) := (by rw [b11.cell (by first | omega | (simp; done) | (simp; omega))]; go_cell)
          have c1_11 : w11.cell? ⟨w1.heap.size, 1, none⟩ = some (.slice fo F.length fc) := (by rw [b11.cell (by first | omega | (simp; done) | (simp; omega))]; go_cell)
          have cl_11 : w1.heap.size < w11.heap.size := (by have := b11.size; first | omega | (revert this; simp; done) | (revert this; simp; omega))
          have t0_11 : w11.cell? ⟨w1.heap.size + 1, 0, none⟩ = some (.int .i64 k) := (by rw [b11.cell (by first | omega | (simp; done) | (simp; omega))]; go_cell)
          have t1_11 : w11.cell? ⟨w1.heap.size + 1, 1, none⟩ = some (.int .i64 p) := (by rw [b11.cell (by first | omega | (simp; done) | (simp; omega))]; go_cell)
          have t2_11 : w11.cell? ⟨w1.heap.size + 1, 2, none⟩ = some (.int .i64 m) := (by rw [b11.cell (by first | omega | (simp; done) | (simp; omega))]; go_cell)
          have t3_11 : w11.cell? ⟨w1.heap.size + 1, 3, none⟩ = some (.slice uo l.length uc) := (by rw [b11.cell (by first | omega | (simp; done) | (simp; omega))]; go_cell)
          have tl_11 : w1.heap.size + 1 < w11.heap.size := (by have := b11.size; first | omega | (revert this; simp; done) | (revert this; simp; omega))
          have x0_11 : w11.cell? ⟨w4.heap.size, 0, none⟩ = some (.slice xo X.length xc) := (by rw [b11.cell (by first | omega | (simp; done) | (simp; omega))]; go_cell)
          have x1_11 : w11.cell? ⟨w4.heap.size, 1, none⟩ = some (.slice xg G.length xd) := (by rw [b11.cell (by first | omega | (simp; done) | (simp; omega))]; go_cell)
          have xl_11 : w4.heap.size < w11.heap.size := (by have := b11.size; first | omega | (revert this; simp; done) | (revert this; simp; omega))
          have g0_11 : w11.cell? ⟨Bg, 0, none⟩ = some (.int .i64 k) := (by rw [b11.cell (by first | omega | (simp; done) | (simp; omega))]; go_cell)
          have g1_11 : w11.cell? ⟨Bg, 1, none⟩ = some (.int .i64 p) := (by rw [b11.cell (by first | omega | (simp; done) | (simp; omega))]; go_cell)
          have g2_11 : w11.cell? ⟨Bg, 2, none⟩ = some (.int .i64 m) := (by rw [b11.cell (by first | omega | (simp; done) | (simp; omega))]; go_cell)
          have g3_11 : w11.cell? ⟨Bg, 3, none⟩ = some (.slice ga l.length gc) := (by rw [b11.cell (by first | omega | (simp; done) | (simp; omega))]; go_cell)
          have gl_11 : Bg < w11.heap.size := (by have := b11.size; first | omega | (revert this; simp; done) | (revert this; simp; omega))
          clear c0_10 c1_10 cl_10 t0_10 t1_10 t2_10 t3_10 tl_10 x0_10 x1_10 xl_10 g0_10 g1_10 g2_10 g3_10 gl_10
          have HC_11 := hid (HC_10.out.later d11)
          have HU_11 := hid (HU_10.out.later d11)
          have HX_11 := hid (HX_10.out.later d11)
          clear d11 b11 HC_10 HU_10 HX_10
          go_wp2_with fail
          refine (OX _ _ _ HX_11.out).mono ?_
          rintro e w12 ⟨rfl, b12⟩
          have e12 := b12
          have d12 : Below w11.heap.size w11 w12 := (Below.trans (by go_grown) (b12.mono (by first | omega | (simp; done) | (simp; omega))))
          have c12 : Below w.heap.size w w12 := c11.trans (d12.mono c11.size)
          have c0_12 : w12.cell? ⟨w1.heap.size, 0, none⟩ = some (.slice io I.length ic) := (by rw [b12.cell (by first | omega | (simp; done) | (simp; omega))]; go_cell)
          have c1_12 : w12.cell? ⟨w1.heap.size, 1, none⟩ = some (.slice fo F.length fc) := (by rw [b12.cell (by first | omega | (simp; done) | (simp; omega))]; go_cell)
          have cl_12 : w1.heap.size < w12.heap.size := (by have := b12.size; first | omega | (revert this; simp; done) | (revert this; simp; omega))
          have t0_12 : w12.cell? ⟨w1.heap.size + 1, 0, none⟩ = some (.int .i64 k) := (by rw [b12.cell (by first | omega | (simp; done) | (simp; omega))]; go_cell)
          have t1_12 : w12.cell? ⟨w1.heap.size + 1, 1, none⟩ = some (.int .i64 p) := (by rw [b12.cell (by first | omega | (simp; done) | (simp; omega))]; go_cell)
          have t2_12 : w12.cell? ⟨w1.heap.size + 1, 2, none⟩ = some (.int .i64 m) := (by rw [b12.cell (by first | omega | (simp; done) | (simp; omega))]; go_cell)
          have t3_12 : w12.cell? ⟨w1.heap.size + 1, 3, none⟩ = some (.slice uo l.length uc) := (by rw [b12.cell (by first | omega | (simp; done) | (simp; omega))]; go_cell)
          have tl_12 : w1.heap.size + 1 < w12.heap.size := (by have := b12.size; first | omega | (revert this; simp; done) | (revert this; simp; omega))
          have x0_12 : w12.cell? ⟨w4.heap.size, 0, none⟩ = some (.slice xo X.length xc) := (by rw [b12.cell (by first | omega | (simp; done) | (simp; omega))]; go_cell)
          have x1_12 : w12.cell? ⟨w4.heap.size, 1, none⟩ = some (.slice xg G.length xd) := (by rw [b12.cell (by first | omega | (simp; done) | (simp; omega))]; go_cell)
          have xl_12 : w4.heap.size < w12.heap.size := (by have := b12.size; first | omega | (revert this; simp; done) | (revert this; simp; omega))
          have g0_12 : w12.cell? ⟨Bg, 0, none⟩ = some (.int .i64 k) := (by rw [b12.cell (by first | omega | (simp; done) | (simp; omega))]; go_cell)
          have g1_12 : w12.cell? ⟨Bg, 1, none⟩ = some (.int .i64 p) := (by rw [b12.cell (by first | omega | (simp; done) | (simp; omega))]; go_cell)
          have g2_12 : w12.cell? ⟨Bg, 2, none⟩ = some (.int .i64 m) := (by rw [b12.cell (by first | omega | (simp; done) | (simp; omega))]; go_cell)
          have g3_12 : w12.cell? ⟨Bg, 3, none⟩ = some (.slice ga l.length gc) := (by rw [b12.cell (by first | omega | (simp; done) | (simp; omega))]; go_cell)
          have gl_12 : Bg < w12.heap.size := (by have := b12.size; first | omega | (revert this; simp; done) | (revert this; simp; omega))
          clear c0_11 c1_11 cl_11 t0_11 t1_11 t2_11 t3_11 tl_11 x0_11 x1_11 xl_11 g0_11 g1_11 g2_11 g3_11 gl_11
          have HC_12 := hid (HC_11.out.later d12)
          have HU_12 := hid (HU_11.out.later d12)
          have HX_12 := hid (HX_11.out.later d12)
          clear d12 b12 HC_11 HU_11 HX_11
          go_wp2_with fail
          go_meet
          exact ⟨rfl, e11.trans (e12.mono e11.size)⟩
        | false =>
          clear hgot
          obtain ⟨rfl, rfl⟩ := HFA.out rfl
          go_wp2_with fail
          refine (csame_is HX_10.out HC_10.out).mono ?_
          rintro e w11 ⟨rfl, b11⟩
          have e11 := b11
          have d11 : Below w10.heap.size w10 w11 := (Below.trans (by go_grown) (b11.mono (by first | omega | (simp; done) | (simp; omega))))
          have c11 : Below w.heap.size w w11 := c10.trans (d11.mono c10.size)
          have c0_11 : w11.cell? ⟨w1.heap.size, 0, none⟩ = some (.slice io X.length ic) := (by rw [b11.cell (by first | omega | (simp; done) | (simp; omega))]; go_cell)
          have c1_11 : w11.cell? ⟨w1.heap.size, 1, none⟩ = some (.slice fo G.length fc) := (by rw [b11.cell (by first | omega | (simp; done) | (simp; omega))]; go_cell)
          have cl_11 : w1.heap.size < w11.heap.size := (by have := b11.size; first | omega | (revert this; simp; done) | (revert this; simp; omega))
          have t0_11 : w11.cell? ⟨w1.heap.size + 1, 0, none⟩ = some (.int .i64 k) := (by rw [b11.cell (by first | omega | (simp; done) | (simp; omega))]; go_cell)
          have t1_11 : w11.cell? ⟨w1.heap.size + 1, 1, none⟩ = some (.int .i64 p) := (by rw [b11.cell (by first | omega | (simp; done) | (simp; omega))]; go_cell)
          have t2_11 : w11.cell? ⟨w1.heap.size + 1, 2, none⟩ = some (.int .i64 m) := (by rw [b11.cell (by first | omega | (simp; done) | (simp; omega))]; go_cell)
          have t3_11 : w11.cell? ⟨w1.heap.size + 1, 3, none⟩ = some (.slice uo l.length uc) := (by rw [b11.cell (by first | omega | (simp; done) | (simp; omega))]; go_cell)
          have tl_11 : w1.heap.size + 1 < w11.heap.size := (by have := b11.size; first | omega | (revert this; simp; done) | (revert this; simp; omega))
          have x0_11 : w11.cell? ⟨w4.heap.size, 0, none⟩ = some (.slice xo X.length xc) := (by rw [b11.cell (by first | omega | (simp; done) | (simp; omega))]; go_cell)
          have x1_11 : w11.cell? ⟨w4.heap.size, 1, none⟩ = some (.slice xg G.length xd) := (by rw [b11.cell (by first | omega | (simp; done) | (simp; omega))]; go_cell)
          have xl_11 : w4.heap.size < w11.heap.size := (by have := b11.size; first | omega | (revert this; simp; done) | (revert this; simp; omega))
          clear c0_10 c1_10 cl_10 t0_10 t1_10 t2_10 t3_10 tl_10 x0_10 x1_10 xl_10
          have HC_11 := hid (HC_10.out.later d11)
          have HU_11 := hid (HU_10.out.later d11)
          have HX_11 := hid (HX_10.out.later d11)
          clear d11 b11 HC_10 HU_10 HX_10
          go_wp2_with fail
          refine (OX _ _ _ HX_11.out).mono ?_
          rintro e w12 ⟨rfl, b12⟩
          have e12 := b12
          have d12 : Below w11.heap.size w11 w12 := (Below.trans (by go_grown) (b12.mono (by first | omega | (simp; done) | (simp; omega))))
          have c12 : Below w.heap.size w w12 := c11.trans (d12.mono c11.size)
          have c0_12 : w12.cell? ⟨w1.heap.size, 0, none⟩ = some (.slice io X.length ic) := (by rw [b12.cell (by first | omega | (simp; done) | (simp; omega))]; go_cell)
          have c1_12 : w12.cell? ⟨w1.heap.size, 1, none⟩ = some (.slice fo G.length fc) := (by rw [b12.cell (by first | omega | (simp; done) | (simp; omega))]; go_cell)
          have cl_12 : w1.heap.size < w12.heap.size := (by have := b12.size; first | omega | (revert this; simp; done) | (revert this; simp; omega))
          have t0_12 : w12.cell? ⟨w1.heap.size + 1, 0, none⟩ = some (.int .i64 k) := (by rw [b12.cell (by first | omega | (simp; done) | (simp; omega))]; go_cell)
          have t1_12 : w12.cell? ⟨w1.heap.size + 1, 1, none⟩ = some (.int .i64 p) := (by rw [b12.cell (by first | omega | (simp; done) | (simp; omega))]; go_cell)
          have t2_12 : w12.cell? ⟨w1.heap.size + 1, 2, none⟩ = some (.int .i64 m) := (by rw [b12.cell (by first | omega | (simp; done) | (simp; omega))]; go_cell)
          have t3_12 : w12.cell? ⟨w1.heap.size + 1, 3, none⟩ = some (.slice uo l.length uc) := (by rw [b12.cell (by first | omega | (simp; done) | (simp; omega))]; go_cell)
          have tl_12 : w1.heap.size + 1 < w12.heap.size := (by have := b12.size; first | omega | (revert this; simp; done) | (revert this; simp; omega))
          have x0_12 : w12.cell? ⟨w4.heap.size, 0, none⟩ = some (.slice xo X.length xc) := (by rw [b12.cell (by first | omega | (simp; done) | (simp; omega))]; go_cell)
          have x1_12 : w12.cell? ⟨w4.heap.size, 1, none⟩ = some (.slice xg G.length xd) := (by rw [b12.cell (by first | omega | (simp; done) | (simp; omega))]; go_cell)
          have xl_12 : w4.heap.size < w12.heap.size := (by have := b12.size; first | omega | (revert this; simp; done) | (revert this; simp; omega))
          clear c0_11 c1_11 cl_11 t0_11 t1_11 t2_11 t3_11 tl_11 x0_11 x1_11 xl_11
          have HC_12 := hid (HC_11.out.later d12)
          have HU_12 := hid (HU_11.out.later d12)
          have HX_12 := hid (HX_11.out.later d12)
          clear d12 b12 HC_11 HU_11 HX_11
          go_wp2_with fail
          go_meet
          exact ⟨rfl, e11.trans (e12.mono e11.size)⟩
      case rest => as_aux_lemma =>
        clear hgot OX HT HFA
        obtain ⟨rfl, b11⟩ := hcut
        obtain ⟨w11, hw11⟩ : ∃ y, y = wc := ⟨_, rfl⟩
        subst hw11
        have d11 : Below w10.heap.size w10 w11 := (Below.trans (by go_grown) (b11.mono (by first | omega | (simp; done) | (simp; omega))))
        have c11 : Below w.heap.size w w11 := c10.trans (d11.mono c10.size)
        have c0_11 : w11.cell? ⟨w1.heap.size, 0, none⟩ = some (.slice io I.length ic) := (by rw [b11.cell (by first | omega | (simp; done) | (simp; omega))]; go_cell)
        have c1_11 : w11.cell? ⟨w1.heap.size, 1, none⟩ = some (.slice fo F.length fc) := (by rw [b11.cell (by first | omega | (simp; done) | (simp; omega))]; go_cell)
        have cl_11 : w1.heap.size < w11.heap.size := (by have := b11.size; first | omega | (revert this; simp; done) | (revert this; simp; omega))
        have t0_11 : w11.cell? ⟨w1.heap.size + 1, 0, none⟩ = some (.int .i64 k) := (by rw [b11.cell (by first | omega | (simp; done) | (simp; omega))]; go_cell)
        have t1_11 : w11.cell? ⟨w1.heap.size + 1, 1, none⟩ = some (.int .i64 p) := (by rw [b11.cell (by first | omega | (simp; done) | (simp; omega))]; go_cell)
        have t2_11 : w11.cell? ⟨w1.heap.size + 1, 2, none⟩ = some (.int .i64 m) := (by rw [b11.cell (by first | omega | (simp; done) | (simp; omega))]; go_cell)
        have t3_11 : w11.cell? ⟨w1.heap.size + 1, 3, none⟩ = some (.slice uo l.length uc) := (by rw [b11.cell (by first | omega | (simp; done) | (simp; omega))]; go_cell)
        have tl_11 : w1.heap.size + 1 < w11.heap.size := (by have := b11.size; first | omega | (revert this; simp; done) | (revert this; simp; omega))
        have x0_11 : w11.cell? ⟨w4.heap.size, 0, none⟩ = some (.slice xo X.length xc) := (by rw [b11.cell (by first | omega | (simp; done) | (simp; omega))]; go_cell)
        have x1_11 : w11.cell? ⟨w4.heap.size, 1, none⟩ = some (.slice xg G.length xd) := (by rw [b11.cell (by first | omega | (simp; done) | (simp; omega))]; go_cell)
        have xl_11 : w4.heap.size < w11.heap.size := (by have := b11.size; first | omega | (revert this; simp; done) | (revert this; simp; omega))
        clear c0_10 c1_10 cl_10 t0_10 t1_10 t2_10 t3_10 tl_10 x0_10 x1_10 xl_10
        have HC_11 := hid (HC_10.out.later d11)
        have HU_11 := hid (HU_10.out.later d11)
        have HX_11 := hid (HX_10.out.later d11)
        clear d11 b11 HC_10 HU_10 HX_10
        clear t0_11 t1_11 t2_11 t3_11 tl_11
        clear HU_11
        go_wp2_with fail
        refine (drawCFloor_any _ n2 _ (HB2.out.later c11)).mono ?_
        rintro e w12 ⟨⟨y0, y1, I2, F2, key, ver, rfl, hrs, _⟩, b12⟩
        obtain ⟨o2, o3, q2, q3, rfl, rfl⟩ := hrs.open
        clear hrs
        have d12 : Below w11.heap.size w11 w12 := (Below.trans (by go_grown) (b12.mono (by first | omega | (simp; done) | (simp; omega))))
        have c12 : Below w.heap.size w w12 := c11.trans (d12.mono c11.size)
        have c0_12 : w12.cell? ⟨w1.heap.size, 0, none⟩ = some (.slice io I.length ic) := (by rw [b12.cell (by first | omega | (simp; done) | (simp; omega))]; go_cell)
        have c1_12 : w12.cell? ⟨w1.heap.size, 1, none⟩ = some (.slice fo F.length fc) := (by rw [b12.cell (by first | omega | (simp; done) | (simp; omega))]; go_cell)
        have cl_12 : w1.heap.size < w12.heap.size := (by have := b12.size; first | omega | (revert this; simp; done) | (revert this; simp; omega))
        have x0_12 : w12.cell? ⟨w4.heap.size, 0, none⟩ = some (.slice xo X.length xc) := (by rw [b12.cell (by first | omega | (simp; done) | (simp; omega))]; go_cell)
        have x1_12 : w12.cell? ⟨w4.heap.size, 1, none⟩ = some (.slice xg G.length xd) := (by rw [b12.cell (by first | omega | (simp; done) | (simp; omega))]; go_cell)
        have xl_12 : w4.heap.size < w12.heap.size := (by have := b12.size; first | omega | (revert this; simp; done) | (revert this; simp; omega))
        clear c0_11 c1_11 cl_11 x0_11 x1_11 xl_11
        have HC_12 := hid (HC_11.out.later d12)
        have HX_12 := hid (HX_11.out.later d12)
        clear d12 b12 HC_11 HX_11
        go_wp2_with fail
        generalize hW13 : (w12.alloc (.cells #[.slice o2 I2.length q2, .slice o3 F2.length q3] 26)) = w13
        have b0_13 : w13.cell? ⟨w12.heap.size, 0, none⟩ = some (.slice o2 I2.length q2) := by subst hW13; go_cell
        have b1_13 : w13.cell? ⟨w12.heap.size, 1, none⟩ = some (.slice o3 F2.length q3) := by subst hW13; go_cell
        have bl_13 : w12.heap.size < w13.heap.size := by subst hW13; simp
        have d13 : Below w12.heap.size w12 w13 := by subst hW13; go_grown
        clear hW13
        have c13 : Below w.heap.size w w13 := c12.trans (d13.mono c12.size)
        have c0_13 : w13.cell? ⟨w1.heap.size, 0, none⟩ = some (.slice io I.length ic) := (by rw [d13.cell (by first | omega | (simp; done) | (simp; omega))]; go_cell)
        have c1_13 : w13.cell? ⟨w1.heap.size, 1, none⟩ = some (.slice fo F.length fc) := (by rw [d13.cell (by first | omega | (simp; done) | (simp; omega))]; go_cell)
        have cl_13 : w1.heap.size < w13.heap.size := (by have := d13.size; omega)
        have x0_13 : w13.cell? ⟨w4.heap.size, 0, none⟩ = some (.slice xo X.length xc) := (by rw [d13.cell (by first | omega | (simp; done) | (simp; omega))]; go_cell)
        have x1_13 : w13.cell? ⟨w4.heap.size, 1, none⟩ = some (.slice xg G.length xd) := (by rw [d13.cell (by first | omega | (simp; done) | (simp; omega))]; go_cell)
        have xl_13 : w4.heap.size < w13.heap.size := (by have := d13.size; omega)
        clear c0_12 c1_12 cl_12 x0_12 x1_12 xl_12
        have HC_13 := hid (HC_12.out.later d13)
        have HX_13 := hid (HX_12.out.later d13)
        clear d13 HC_12 HX_12
        clear b0_13 b1_13 bl_13
        obtain ⟨⟨Y, H⟩, hF⟩ : ∃ D, ansF X G key ver = D := ⟨_, rfl⟩
        obtain ⟨hYok, hGH⟩ := floor_all HXOK.out hF
        obtain ⟨hD1, hD2, hD3⟩ := drop_all key hYok
        have FD := fun (v0 v1 : Value) (W : World) (h : RSCache W v0 v1 X G) => implCFloor_rd v0 v1 X G key ver W h hF
        have DD := fun (v0 v1 : Value) (W : World) (h : RSCache W v0 v1 Y H) => implCDrop_rd v0 v1 Y H key W h hD1
        simp only at FD DD
        have hG24 := (okC_iff.1 HXOK.out).1
        have hF24 := (okC_iff.1 HOK.out).1
        have hH24 := (okC_iff.1 hYok).1
        have hX4 := (okC_iff.1 HXOK.out).2.1
        have HL := hid (And.intro hG24 (And.intro hF24 (And.intro hH24 hX4)))
        clear hG24 hF24 hH24 hX4
        have HYOK := hid hYok
        have HGH := hid hGH
        have HD2 := hid hD2
        have HD3 := hid hD3
        clear hYok hGH hD1 hD2 hD3 hF
        refine (FD _ _ _ HX_13.out).mono ?_
        rintro e w14 ⟨⟨po, pg, pc, pd, rfl, hy⟩, b14⟩
        have d14 : Below w13.heap.size w13 w14 := (Below.trans (by go_grown) (b14.mono (by first | omega | (simp; done) | (simp; omega))))
        have c14 : Below w.heap.size w w14 := c13.trans (d14.mono c13.size)
        have c0_14 : w14.cell? ⟨w1.heap.size, 0, none⟩ = some (.slice io I.length ic) := (by rw [b14.cell (by first | omega | (simp; done) | (simp; omega))]; go_cell)
        have c1_14 : w14.cell? ⟨w1.heap.size, 1, none⟩ = some (.slice fo F.length fc) := (by rw [b14.cell (by first | omega | (simp; done) | (simp; omega))]; go_cell)
        have cl_14 : w1.heap.size < w14.heap.size := (by have := b14.size; first | omega | (revert this; simp; done) | (revert this; simp; omega))
        have x0_14 : w14.cell? ⟨w4.heap.size, 0, none⟩ = some (.slice xo X.length xc) := (by rw [b14.cell (by first | omega | (simp; done) | (simp; omega))]; go_cell)
        have x1_14 : w14.cell? ⟨w4.heap.size, 1, none⟩ = some (.slice xg G.length xd) := (by rw [b14.cell (by first | omega | (simp; done) | (simp; omega))]; go_cell)
        have xl_14 : w4.heap.size < w14.heap.size := (by have := b14.size; first | omega | (revert this; simp; done) | (revert this; simp; omega))
        clear c0_13 c1_13 cl_13 x0_13 x1_13 xl_13
        have HC_14 := hid (HC_13.out.later d14)
        have HX_14 := hid (HX_13.out.later d14)
        clear d14 b14 HC_13 HX_13
        have HF_14 := hid hy
        clear hy FD
        go_wp2_with fail
        generalize hW15 : (w14.alloc (.cells #[.slice po Y.length pc, .slice pg H.length pd] 26)) = w15
        have f0_15 : w15.cell? ⟨w14.heap.size, 0, none⟩ = some (.slice po Y.length pc) := by subst hW15; go_cell
        have f1_15 : w15.cell? ⟨w14.heap.size, 1, none⟩ = some (.slice pg H.length pd) := by subst hW15; go_cell
        have fl_15 : w14.heap.size < w15.heap.size := by subst hW15; simp
        have d15 : Below w14.heap.size w14 w15 := by subst hW15; go_grown
        clear hW15
        have c15 : Below w.heap.size w w15 := c14.trans (d15.mono c14.size)
        have c0_15 : w15.cell? ⟨w1.heap.size, 0, none⟩ = some (.slice io I.length ic) := (by rw [d15.cell (by first | omega | (simp; done) | (simp; omega))]; go_cell)
        have c1_15 : w15.cell? ⟨w1.heap.size, 1, none⟩ = some (.slice fo F.length fc) := (by rw [d15.cell (by first | omega | (simp; done) | (simp; omega))]; go_cell)
        have cl_15 : w1.heap.size < w15.heap.size := (by have := d15.size; omega)
        have x0_15 : w15.cell? ⟨w4.heap.size, 0, none⟩ = some (.slice xo X.length xc) := (by rw [d15.cell (by first | omega | (simp; done) | (simp; omega))]; go_cell)
        have x1_15 : w15.cell? ⟨w4.heap.size, 1, none⟩ = some (.slice xg G.length xd) := (by rw [d15.cell (by first | omega | (simp; done) | (simp; omega))]; go_cell)
        have xl_15 : w4.heap.size < w15.heap.size := (by have := d15.size; omega)
        clear c0_14 c1_14 cl_14 x0_14 x1_14 xl_14
        have HC_15 := hid (HC_14.out.later d15)
        have HX_15 := hid (HX_14.out.later d15)
        have HF_15 := hid (HF_14.out.later d15)
        clear d15 HC_14 HX_14 HF_14
        refine (DD _ _ _ HF_15.out).mono ?_
        rintro e w16 ⟨⟨do_, dg, dc, dd, rfl, hy⟩, b16⟩
        have d16 : Below w15.heap.size w15 w16 := (Below.trans (by go_grown) (b16.mono (by first | omega | (simp; done) | (simp; omega))))
        have c16 : Below w.heap.size w w16 := c15.trans (d16.mono c15.size)
        have c0_16 : w16.cell? ⟨w1.heap.size, 0, none⟩ = some (.slice io I.length ic) := (by rw [b16.cell (by first | omega | (simp; done) | (simp; omega))]; go_cell)
        have c1_16 : w16.cell? ⟨w1.heap.size, 1, none⟩ = some (.slice fo F.length fc) := (by rw [b16.cell (by first | omega | (simp; done) | (simp; omega))]; go_cell)
        have cl_16 : w1.heap.size < w16.heap.size := (by have := b16.size; first | omega | (revert this; simp; done) | (revert this; simp; omega))
        have x0_16 : w16.cell? ⟨w4.heap.size, 0, none⟩ = some (.slice xo X.length xc) := (by rw [b16.cell (by first | omega | (simp; done) | (simp; omega))]; go_cell)
        have x1_16 : w16.cell? ⟨w4.heap.size, 1, none⟩ = some (.slice xg G.length xd) := (by rw [b16.cell (by first | omega | (simp; done) | (simp; omega))]; go_cell)
        have xl_16 : w4.heap.size < w16.heap.size := (by have := b16.size; first | omega | (revert this; simp; done) | (revert this; simp; omega))
        have f0_16 : w16.cell? ⟨w14.heap.size, 0, none⟩ = some (.slice po Y.length pc) := (by rw [b16.cell (by first | omega | (simp; done) | (simp; omega))]; go_cell)
        have f1_16 : w16.cell? ⟨w14.heap.size, 1, none⟩ = some (.slice pg H.length pd) := (by rw [b16.cell (by first | omega | (simp; done) | (simp; omega))]; go_cell)
        have fl_16 : w14.heap.size < w16.heap.size := (by have := b16.size; first | omega | (revert this; simp; done) | (revert this; simp; omega))
        clear c0_15 c1_15 cl_15 x0_15 x1_15 xl_15 f0_15 f1_15 fl_15
        have HC_16 := hid (HC_15.out.later d16)
        have HX_16 := hid (HX_15.out.later d16)
        have HF_16 := hid (HF_15.out.later d16)
        clear d16 b16 HC_15 HX_15 HF_15
        have HE_16 := hid hy
        clear hy DD
        obtain ⟨bc, oc, e9⟩ := rdm_some HC_16.out.h1 (by have := HL.out; omega)
        subst e9
        obtain ⟨bx, ox, e9⟩ := rdm_some HX_16.out.h1 (by have := HL.out; omega)
        subst e9
        obtain ⟨bf, of_, e9⟩ := rdm_some HF_16.out.h1 (by have := HL.out; omega)
        subst e9
        obtain ⟨bd, od, e9⟩ := rdm_some HE_16.out.h1 (by have := HL.out; omega)
        subst e9
        go_wp2_with fail
        generalize hW17 : (w16.alloc (.cells #[.slice do_ (dropI key Y).length dc, .slice (some ⟨bd, od, none⟩) H.length dd] 26)) = w17
        have d0_17 : w17.cell? ⟨w16.heap.size, 0, none⟩ = some (.slice do_ (dropI key Y).length dc) := by subst hW17; go_cell
        have d1_17 : w17.cell? ⟨w16.heap.size, 1, none⟩ = some (.slice (some ⟨bd, od, none⟩) H.length dd) := by subst hW17; go_cell
        have dl_17 : w16.heap.size < w17.heap.size := by subst hW17; simp
        have d17 : Below w16.heap.size w16 w17 := by subst hW17; go_grown
        clear hW17
        have c17 : Below w.heap.size w w17 := c16.trans (d17.mono c16.size)
        have c0_17 : w17.cell? ⟨w1.heap.size, 0, none⟩ = some (.slice io I.length ic) := (by rw [d17.cell (by first | omega | (simp; done) | (simp; omega))]; go_cell)
        have c1_17 : w17.cell? ⟨w1.heap.size, 1, none⟩ = some (.slice (some ⟨bc, oc, none⟩) F.length fc) := (by rw [d17.cell (by first | omega | (simp; done) | (simp; omega))]; go_cell)
        have cl_17 : w1.heap.size < w17.heap.size := (by have := d17.size; omega)
        have x0_17 : w17.cell? ⟨w4.heap.size, 0, none⟩ = some (.slice xo X.length xc) := (by rw [d17.cell (by first | omega | (simp; done) | (simp; omega))]; go_cell)
        have x1_17 : w17.cell? ⟨w4.heap.size, 1, none⟩ = some (.slice (some ⟨bx, ox, none⟩) G.length xd) := (by rw [d17.cell (by first | omega | (simp; done) | (simp; omega))]; go_cell)
        have xl_17 : w4.heap.size < w17.heap.size := (by have := d17.size; omega)
        have f0_17 : w17.cell? ⟨w14.heap.size, 0, none⟩ = some (.slice po Y.length pc) := (by rw [d17.cell (by first | omega | (simp; done) | (simp; omega))]; go_cell)
        have f1_17 : w17.cell? ⟨w14.heap.size, 1, none⟩ = some (.slice (some ⟨bf, of_, none⟩) H.length pd) := (by rw [d17.cell (by first | omega | (simp; done) | (simp; omega))]; go_cell)
        have fl_17 : w14.heap.size < w17.heap.size := (by have := d17.size; omega)
        clear c0_16 c1_16 cl_16 x0_16 x1_16 xl_16 f0_16 f1_16 fl_16
        have HC_17 := hid (HC_16.out.later d17)
        have HX_17 := hid (HX_16.out.later d17)
        have HF_17 := hid (HF_16.out.later d17)
        have HE_17 := hid (HE_16.out.later d17)
        clear d17 HC_16 HX_16 HF_16 HE_16
        go_loopw [18] (fun i wr => ∃ (j : Nat), j ≤ 24 ∧ i = .int .i64 j ∧ Hid (Below w17.heap.size w17 wr)) (fun i _ => 24 - (intOf i).toNat)
        case atStart => exact ⟨0, Nat.zero_le _, rfl, hid (Below.refl _ _)⟩
        case round =>
          obtain ⟨j, hj, rfl, hbel⟩ := hrel
          obtain ⟨w50, hw50⟩ : ∃ y, y = wr := ⟨_, rfl⟩
          subst hw50
          have b50 := hbel.out
          have BND_50 := hbel.out
          have d50 : Below w17.heap.size w17 w50 := (Below.trans (by go_grown) (b50.mono (by first | omega | (simp; done) | (simp; omega))))
          have c50 : Below w.heap.size w w50 := c17.trans (d50.mono c17.size)
          have c0_50 : w50.cell? ⟨w1.heap.size, 0, none⟩ = some (.slice io I.length ic) := (by rw [b50.cell (by first | omega | (simp; done) | (simp; omega))]; go_cell)
          have c1_50 : w50.cell? ⟨w1.heap.size, 1, none⟩ = some (.slice (some ⟨bc, oc, none⟩) F.length fc) := (by rw [b50.cell (by first | omega | (simp; done) | (simp; omega))]; go_cell)
          have cl_50 : w1.heap.size < w50.heap.size := (by have := b50.size; first | omega | (revert this; simp; done) | (revert this; simp; omega))
          have x0_50 : w50.cell? ⟨w4.heap.size, 0, none⟩ = some (.slice xo X.length xc) := (by rw [b50.cell (by first | omega | (simp; done) | (simp; omega))]; go_cell)
          have x1_50 : w50.cell? ⟨w4.heap.size, 1, none⟩ = some (.slice (some ⟨bx, ox, none⟩) G.length xd) := (by rw [b50.cell (by first | omega | (simp; done) | (simp; omega))]; go_cell)
          have xl_50 : w4.heap.size < w50.heap.size := (by have := b50.size; first | omega | (revert this; simp; done) | (revert this; simp; omega))
          have f0_50 : w50.cell? ⟨w14.heap.size, 0, none⟩ = some (.slice po Y.length pc) := (by rw [b50.cell (by first | omega | (simp; done) | (simp; omega))]; go_cell)
          have f1_50 : w50.cell? ⟨w14.heap.size, 1, none⟩ = some (.slice (some ⟨bf, of_, none⟩) H.length pd) := (by rw [b50.cell (by first | omega | (simp; done) | (simp; omega))]; go_cell)
          have fl_50 : w14.heap.size < w50.heap.size := (by have := b50.size; first | omega | (revert this; simp; done) | (revert this; simp; omega))
          have d0_50 : w50.cell? ⟨w16.heap.size, 0, none⟩ = some (.slice do_ (dropI key Y).length dc) := (by rw [b50.cell (by first | omega | (simp; done) | (simp; omega))]; go_cell)
          have d1_50 : w50.cell? ⟨w16.heap.size, 1, none⟩ = some (.slice (some ⟨bd, od, none⟩) H.length dd) := (by rw [b50.cell (by first | omega | (simp; done) | (simp; omega))]; go_cell)
          have dl_50 : w16.heap.size < w50.heap.size := (by have := b50.size; first | omega | (revert this; simp; done) | (revert this; simp; omega))
          clear c0_17 c1_17 cl_17 x0_17 x1_17 xl_17 f0_17 f1_17 fl_17 d0_17 d1_17 dl_17
          have HC_50 := hid (HC_17.out.later d50)
          have HX_50 := hid (HX_17.out.later d50)
          have HF_50 := hid (HF_17.out.later d50)
          have HE_50 := hid (HE_17.out.later d50)
          clear d50 b50 hbel HC_17 HX_17 HF_17 HE_17
          by_cases hlt : j < 24
          · have k0 := flo_cell HC_50.out.h1 j (by have := HL.out; omega)
            have k1 := flo_cell HX_50.out.h1 j (by have := HL.out; omega)
            have k2 := flo_cell HF_50.out.h1 j (by have := HL.out; omega)
            have k3 := flo_cell HE_50.out.h1 j (by have := HL.out; omega)
            have hle1 := HFG.out j hlt
            have hle2 := HGH.out j hlt
            have hgv : Hid (∀ x, ansG Y H (j : Int) = some x → verK x = flr H j) := hid (fun x hx => get_ver hx)
            obtain ⟨a0, ha0⟩ : ∃ z, flr F j = z := ⟨_, rfl⟩
            obtain ⟨a1, ha1⟩ : ∃ z, flr G j = z := ⟨_, rfl⟩
            obtain ⟨a2, ha2⟩ : ∃ z, flr H j = z := ⟨_, rfl⟩
            rw [ha0] at k0 hle1
            rw [ha1] at k1 hle1 hle2
            rw [ha2] at k2 k3 hle2 hgv
            have g1 : decide (a1 < a0) = false := by simp; omega
            have g2 : decide (a2 < a1) = false := by simp; omega
            have g3 : (a2 != a2) = false := by simp
            clear hle1 hle2 ha0 ha1 ha2
            have jG : (j : Int) < (G.length : Int) := by have := HL.out; omega
            have jH : (j : Int) < (H.length : Int) := by have := HL.out; omega
            have jF : (j : Int) < (F.length : Int) := by have := HL.out; omega
            have hj24 : (j : Int) < 24 := by omega
            have HLT := hid hlt
            have Qc1 := cell_regrown c1_50
            have Qx1 := cell_regrown x1_50
            have Qf1 := cell_regrown f1_50
            have Qd1 := cell_regrown d1_50
            have Qk0 := cell_regrown k0
            have Qk1 := cell_regrown k1
            have Qk2 := cell_regrown k2
            have Qk3 := cell_regrown k3
            have kl2 : (⟨bf, of_ + j, none⟩ : Addr).block < w50.heap.size := World.block_lt_of_cell? _ _ k2
            go_wp2_with fail
            refine wp_region_quiet_below (by kernel_rfl) (by kernel_rfl) ?_
            repeat (first | go_big_quiet_skip | (go_big_quiet_want; go_big_quiet_op; first | go_big_quiet_on | go_big_quiet_call (first | (fail))))
            refine wpQuiet_nil ?_
            rintro wq ⟨pq, hwq⟩
            have hq : Below w50.heap.size w50 wq := by rw [hwq]; exact below_regrown _ _ _
            clear hwq pq
            obtain ⟨w51, hw51⟩ : ∃ y, y = wq := ⟨_, rfl⟩
            subst hw51
            have b51 := hq
            clear hq
            have BND_51 := BND_50.trans (b51.mono BND_50.size)
            have d51 : Below w50.heap.size w50 w51 := (Below.trans (by go_grown) (b51.mono (by first | omega | (simp; done) | (simp; omega))))
            have c51 : Below w.heap.size w w51 := c50.trans (d51.mono c50.size)
            have c0_51 : w51.cell? ⟨w1.heap.size, 0, none⟩ = some (.slice io I.length ic) := (by rw [b51.cell (by first | omega | (simp; done) | (simp; omega))]; go_cell)
            have c1_51 : w51.cell? ⟨w1.heap.size, 1, none⟩ = some (.slice (some ⟨bc, oc, none⟩) F.length fc) := (by rw [b51.cell (by first | omega | (simp; done) | (simp; omega))]; go_cell)
            have cl_51 : w1.heap.size < w51.heap.size := (by have := b51.size; first | omega | (revert this; simp; done) | (revert this; simp; omega))
            have x0_51 : w51.cell? ⟨w4.heap.size, 0, none⟩ = some (.slice xo X.length xc) := (by rw [b51.cell (by first | omega | (simp; done) | (simp; omega))]; go_cell)
            have x1_51 : w51.cell? ⟨w4.heap.size, 1, none⟩ = some (.slice (some ⟨bx, ox, none⟩) G.length xd) := (by rw [b51.cell (by first | omega | (simp; done) | (simp; omega))]; go_cell)
            have xl_51 : w4.heap.size < w51.heap.size := (by have := b51.size; first | omega | (revert this; simp; done) | (revert this; simp; omega))
            have f0_51 : w51.cell? ⟨w14.heap.size, 0, none⟩ = some (.slice po Y.length pc) := (by rw [b51.cell (by first | omega | (simp; done) | (simp; omega))]; go_cell)
            have f1_51 : w51.cell? ⟨w14.heap.size, 1, none⟩ = some (.slice (some ⟨bf, of_, none⟩) H.length pd) := (by rw [b51.cell (by first | omega | (simp; done) | (simp; omega))]; go_cell)
            have fl_51 : w14.heap.size < w51.heap.size := (by have := b51.size; first | omega | (revert this; simp; done) | (revert this; simp; omega))
            have d0_51 : w51.cell? ⟨w16.heap.size, 0, none⟩ = some (.slice do_ (dropI key Y).length dc) := (by rw [b51.cell (by first | omega | (simp; done) | (simp; omega))]; go_cell)
            have d1_51 : w51.cell? ⟨w16.heap.size, 1, none⟩ = some (.slice (some ⟨bd, od, none⟩) H.length dd) := (by rw [b51.cell (by first | omega | (simp; done) | (simp; omega))]; go_cell)
            have dl_51 : w16.heap.size < w51.heap.size := (by have := b51.size; first | omega | (revert this; simp; done) | (revert this; simp; omega))
            clear c0_50 c1_50 cl_50 x0_50 x1_50 xl_50 f0_50 f1_50 fl_50 d0_50 d1_50 dl_50
            have HC_51 := hid (HC_50.out.later d51)
            have HX_51 := hid (HX_50.out.later d51)
            have HF_51 := hid (HF_50.out.later d51)
            have HE_51 := hid (HE_50.out.later d51)
            have k2_51 := (d51.cell (p := ⟨bf, of_ + j, none⟩) kl2).trans k2
            have kl_51 : (⟨bf, of_ + j, none⟩ : Addr).block < w51.heap.size := Nat.lt_of_lt_of_le kl2 d51.size
            clear d51 b51 BND_50 k0 k1 k2 k3 kl2 Qc1 Qx1 Qf1 Qd1 Qk0 Qk1 Qk2 Qk3 HC_50 HX_50 HF_50 HE_50
            obtain ⟨o, ho⟩ : ∃ o, ansG Y H (j : Int) = o := ⟨_, rfl⟩
            go_wp2_with fail
            cases o with
            | none =>
              refine (implGet_no _ _ Y H (j : Int) _ HF_51.out ho).mono ?_
              rintro e w52 ⟨⟨ga, gc, rfl⟩, b52⟩
              have BND_52 := BND_51.trans (b52.mono BND_51.size)
              have d52 : Below w51.heap.size w51 w52 := (Below.trans (by go_grown) (b52.mono (by first | omega | (simp; done) | (simp; omega))))
              have c52 : Below w.heap.size w w52 := c51.trans (d52.mono c51.size)
              have c0_52 : w52.cell? ⟨w1.heap.size, 0, none⟩ = some (.slice io I.length ic) := (by rw [b52.cell (by first | omega | (simp; done) | (simp; omega))]; go_cell)
              have c1_52 : w52.cell? ⟨w1.heap.size, 1, none⟩ = some (.slice (some ⟨bc, oc, none⟩) F.length fc) := (by rw [b52.cell (by first | omega | (simp; done) | (simp; omega))]; go_cell)
              have cl_52 : w1.heap.size < w52.heap.size := (by have := b52.size; first | omega | (revert this; simp; done) | (revert this; simp; omega))
              have x0_52 : w52.cell? ⟨w4.heap.size, 0, none⟩ = some (.slice xo X.length xc) := (by rw [b52.cell (by first | omega | (simp; done) | (simp; omega))]; go_cell)
              have x1_52 : w52.cell? ⟨w4.heap.size, 1, none⟩ = some (.slice (some ⟨bx, ox, none⟩) G.length xd) := (by rw [b52.cell (by first | omega | (simp; done) | (simp; omega))]; go_cell)
              have xl_52 : w4.heap.size < w52.heap.size := (by have := b52.size; first | omega | (revert this; simp; done) | (revert this; simp; omega))
              have f0_52 : w52.cell? ⟨w14.heap.size, 0, none⟩ = some (.slice po Y.length pc) := (by rw [b52.cell (by first | omega | (simp; done) | (simp; omega))]; go_cell)
              have f1_52 : w52.cell? ⟨w14.heap.size, 1, none⟩ = some (.slice (some ⟨bf, of_, none⟩) H.length pd) := (by rw [b52.cell (by first | omega | (simp; done) | (simp; omega))]; go_cell)
              have fl_52 : w14.heap.size < w52.heap.size := (by have := b52.size; first | omega | (revert this; simp; done) | (revert this; simp; omega))
              have d0_52 : w52.cell? ⟨w16.heap.size, 0, none⟩ = some (.slice do_ (dropI key Y).length dc) := (by rw [b52.cell (by first | omega | (simp; done) | (simp; omega))]; go_cell)
              have d1_52 : w52.cell? ⟨w16.heap.size, 1, none⟩ = some (.slice (some ⟨bd, od, none⟩) H.length dd) := (by rw [b52.cell (by first | omega | (simp; done) | (simp; omega))]; go_cell)
              have dl_52 : w16.heap.size < w52.heap.size := (by have := b52.size; first | omega | (revert this; simp; done) | (revert this; simp; omega))
              clear c0_51 c1_51 cl_51 x0_51 x1_51 xl_51 f0_51 f1_51 fl_51 d0_51 d1_51 dl_51
              have HC_52 := hid (HC_51.out.later d52)
              have HX_52 := hid (HX_51.out.later d52)
              have HF_52 := hid (HF_51.out.later d52)
              have HE_52 := hid (HE_51.out.later d52)
              have k2_52 := (d52.cell (p := ⟨bf, of_ + j, none⟩) kl_51).trans k2_51
              have kl_52 : (⟨bf, of_ + j, none⟩ : Addr).block < w52.heap.size := Nat.lt_of_lt_of_le kl_51 d52.size
              clear d52 b52 BND_51 HC_51 HX_51 HF_51 HE_51 k2_51 kl_51
              go_wp2_with fail
              generalize hW53 : (w52.alloc (.cells #[.int .i64 0, .int .i64 0, .int .i64 0, .slice ga 0 gc] 31)) = w53
              have g0_53 : w53.cell? ⟨w52.heap.size, 0, none⟩ = some (.int .i64 0) := by subst hW53; go_cell
              have g1_53 : w53.cell? ⟨w52.heap.size, 1, none⟩ = some (.int .i64 0) := by subst hW53; go_cell
              have g2_53 : w53.cell? ⟨w52.heap.size, 2, none⟩ = some (.int .i64 0) := by subst hW53; go_cell
              have g3_53 : w53.cell? ⟨w52.heap.size, 3, none⟩ = some (.slice ga 0 gc) := by subst hW53; go_cell
              have gl_53 : w52.heap.size < w53.heap.size := by subst hW53; simp
              have d53 : Below w52.heap.size w52 w53 := by subst hW53; go_grown
              clear hW53
              have c53 : Below w.heap.size w w53 := c52.trans (d53.mono c52.size)
              have c0_53 : w53.cell? ⟨w1.heap.size, 0, none⟩ = some (.slice io I.length ic) := (by rw [d53.cell (by first | omega | (simp; done) | (simp; omega))]; go_cell)
              have c1_53 : w53.cell? ⟨w1.heap.size, 1, none⟩ = some (.slice (some ⟨bc, oc, none⟩) F.length fc) := (by rw [d53.cell (by first | omega | (simp; done) | (simp; omega))]; go_cell)
              have cl_53 : w1.heap.size < w53.heap.size := (by have := d53.size; omega)
              have x0_53 : w53.cell? ⟨w4.heap.size, 0, none⟩ = some (.slice xo X.length xc) := (by rw [d53.cell (by first | omega | (simp; done) | (simp; omega))]; go_cell)
              have x1_53 : w53.cell? ⟨w4.heap.size, 1, none⟩ = some (.slice (some ⟨bx, ox, none⟩) G.length xd) := (by rw [d53.cell (by first | omega | (simp; done) | (simp; omega))]; go_cell)
              have xl_53 : w4.heap.size < w53.heap.size := (by have := d53.size; omega)
              have f0_53 : w53.cell? ⟨w14.heap.size, 0, none⟩ = some (.slice po Y.length pc) := (by rw [d53.cell (by first | omega | (simp; done) | (simp; omega))]; go_cell)
              have f1_53 : w53.cell? ⟨w14.heap.size, 1, none⟩ = some (.slice (some ⟨bf, of_, none⟩) H.length pd) := (by rw [d53.cell (by first | omega | (simp; done) | (simp; omega))]; go_cell)
              have fl_53 : w14.heap.size < w53.heap.size := (by have := d53.size; omega)
              have d0_53 : w53.cell? ⟨w16.heap.size, 0, none⟩ = some (.slice do_ (dropI key Y).length dc) := (by rw [d53.cell (by first | omega | (simp; done) | (simp; omega))]; go_cell)
              have d1_53 : w53.cell? ⟨w16.heap.size, 1, none⟩ = some (.slice (some ⟨bd, od, none⟩) H.length dd) := (by rw [d53.cell (by first | omega | (simp; done) | (simp; omega))]; go_cell)
              have dl_53 : w16.heap.size < w53.heap.size := (by have := d53.size; omega)
              clear c0_52 c1_52 cl_52 x0_52 x1_52 xl_52 f0_52 f1_52 fl_52 d0_52 d1_52 dl_52
              have BND_53 := BND_52.trans (d53.mono BND_52.size)
              have HC_53 := hid (HC_52.out.later d53)
              have HX_53 := hid (HX_52.out.later d53)
              have HF_53 := hid (HF_52.out.later d53)
              have HE_53 := hid (HE_52.out.later d53)
              have k2_53 := (d53.cell (p := ⟨bf, of_ + j, none⟩) kl_52).trans k2_52
              have kl_53 : (⟨bf, of_ + j, none⟩ : Addr).block < w53.heap.size := Nat.lt_of_lt_of_le kl_52 d53.size
              clear d53 BND_52 HC_52 HX_52 HF_52 HE_52 k2_52 kl_52
              refine wp_region_quiet_below (by kernel_rfl) (by kernel_rfl) ?_
              repeat (first | go_big_quiet_skip | (go_big_quiet_want; go_big_quiet_op; first | go_big_quiet_on | go_big_quiet_call (first | (fail))))
              refine wpQuiet_nil ?_
              rintro wq ⟨pq, hwq⟩
              have hq : Below w53.heap.size w53 wq := by rw [hwq]; exact below_regrown _ _ _
              clear hwq pq
              go_wp2_with fail
              go_roundw
              case rel => exact ⟨j + 1, by have := HLT.out; omega, by go_num, hid (BND_53.trans (hq.mono BND_53.size))⟩
              case measure =>
                have := HLT.out
                simp [intOf]
                omega
            | some x =>
              obtain ⟨z0, z1, z2, zl, rfl⟩ := item_three HF_51.out ho
              obtain rfl : z1 = a2 := hgv.out _ ho
              refine (implGet_yes _ _ Y H (j : Int) _ HF_51.out ho).mono ?_
              rintro e w52 ⟨⟨ga, gc, rfl, hgu⟩, b52⟩
              clear hgu
              have BND_52 := BND_51.trans (b52.mono BND_51.size)
              have d52 : Below w51.heap.size w51 w52 := (Below.trans (by go_grown) (b52.mono (by first | omega | (simp; done) | (simp; omega))))
              have c52 : Below w.heap.size w w52 := c51.trans (d52.mono c51.size)
              have c0_52 : w52.cell? ⟨w1.heap.size, 0, none⟩ = some (.slice io I.length ic) := (by rw [b52.cell (by first | omega | (simp; done) | (simp; omega))]; go_cell)
              have c1_52 : w52.cell? ⟨w1.heap.size, 1, none⟩ = some (.slice (some ⟨bc, oc, none⟩) F.length fc) := (by rw [b52.cell (by first | omega | (simp; done) | (simp; omega))]; go_cell)
              have cl_52 : w1.heap.size < w52.heap.size := (by have := b52.size; first | omega | (revert this; simp; done) | (revert this; simp; omega))
              have x0_52 : w52.cell? ⟨w4.heap.size, 0, none⟩ = some (.slice xo X.length xc) := (by rw [b52.cell (by first | omega | (simp; done) | (simp; omega))]; go_cell)
              have x1_52 : w52.cell? ⟨w4.heap.size, 1, none⟩ = some (.slice (some ⟨bx, ox, none⟩) G.length xd) := (by rw [b52.cell (by first | omega | (simp; done) | (simp; omega))]; go_cell)
              have xl_52 : w4.heap.size < w52.heap.size := (by have := b52.size; first | omega | (revert this; simp; done) | (revert this; simp; omega))
              have f0_52 : w52.cell? ⟨w14.heap.size, 0, none⟩ = some (.slice po Y.length pc) := (by rw [b52.cell (by first | omega | (simp; done) | (simp; omega))]; go_cell)
              have f1_52 : w52.cell? ⟨w14.heap.size, 1, none⟩ = some (.slice (some ⟨bf, of_, none⟩) H.length pd) := (by rw [b52.cell (by first | omega | (simp; done) | (simp; omega))]; go_cell)
              have fl_52 : w14.heap.size < w52.heap.size := (by have := b52.size; first | omega | (revert this; simp; done) | (revert this; simp; omega))
              have d0_52 : w52.cell? ⟨w16.heap.size, 0, none⟩ = some (.slice do_ (dropI key Y).length dc) := (by rw [b52.cell (by first | omega | (simp; done) | (simp; omega))]; go_cell)
              have d1_52 : w52.cell? ⟨w16.heap.size, 1, none⟩ = some (.slice (some ⟨bd, od, none⟩) H.length dd) := (by rw [b52.cell (by first | omega | (simp; done) | (simp; omega))]; go_cell)
              have dl_52 : w16.heap.size < w52.heap.size := (by have := b52.size; first | omega | (revert this; simp; done) | (revert this; simp; omega))
              clear c0_51 c1_51 cl_51 x0_51 x1_51 xl_51 f0_51 f1_51 fl_51 d0_51 d1_51 dl_51
              have HC_52 := hid (HC_51.out.later d52)
              have HX_52 := hid (HX_51.out.later d52)
              have HF_52 := hid (HF_51.out.later d52)
              have HE_52 := hid (HE_51.out.later d52)
              have k2_52 := (d52.cell (p := ⟨bf, of_ + j, none⟩) kl_51).trans k2_51
              have kl_52 : (⟨bf, of_ + j, none⟩ : Addr).block < w52.heap.size := Nat.lt_of_lt_of_le kl_51 d52.size
              clear d52 b52 BND_51 HC_51 HX_51 HF_51 HE_51 k2_51 kl_51
              go_wp2_with fail
              generalize hW53 : (w52.alloc (.cells #[.int .i64 z0, .int .i64 z1, .int .i64 z2, .slice ga zl.length gc] 31)) = w53
              have g0_53 : w53.cell? ⟨w52.heap.size, 0, none⟩ = some (.int .i64 z0) := by subst hW53; go_cell
              have g1_53 : w53.cell? ⟨w52.heap.size, 1, none⟩ = some (.int .i64 z1) := by subst hW53; go_cell
              have g2_53 : w53.cell? ⟨w52.heap.size, 2, none⟩ = some (.int .i64 z2) := by subst hW53; go_cell
              have g3_53 : w53.cell? ⟨w52.heap.size, 3, none⟩ = some (.slice ga zl.length gc) := by subst hW53; go_cell
              have gl_53 : w52.heap.size < w53.heap.size := by subst hW53; simp
              have d53 : Below w52.heap.size w52 w53 := by subst hW53; go_grown
              clear hW53
              have c53 : Below w.heap.size w w53 := c52.trans (d53.mono c52.size)
              have c0_53 : w53.cell? ⟨w1.heap.size, 0, none⟩ = some (.slice io I.length ic) := (by rw [d53.cell (by first | omega | (simp; done) | (simp; omega))]; go_cell)
              have c1_53 : w53.cell? ⟨w1.heap.size, 1, none⟩ = some (.slice (some ⟨bc, oc, none⟩) F.length fc) := (by rw [d53.cell (by first | omega | (simp; done) | (simp; omega))]; go_cell)
              have cl_53 : w1.heap.size < w53.heap.size := (by have := d53.size; omega)
              have x0_53 : w53.cell? ⟨w4.heap.size, 0, none⟩ = some (.slice xo X.length xc) := (by rw [d53.cell (by first | omega | (simp; done) | (simp; omega))]; go_cell)
              have x1_53 : w53.cell? ⟨w4.heap.size, 1, none⟩ = some (.slice (some ⟨bx, ox, none⟩) G.length xd) := (by rw [d53.cell (by first | omega | (simp; done) | (simp; omega))]; go_cell)
              have xl_53 : w4.heap.size < w53.heap.size := (by have := d53.size; omega)
              have f0_53 : w53.cell? ⟨w14.heap.size, 0, none⟩ = some (.slice po Y.length pc) := (by rw [d53.cell (by first | omega | (simp; done) | (simp; omega))]; go_cell)
              have f1_53 : w53.cell? ⟨w14.heap.size, 1, none⟩ = some (.slice (some ⟨bf, of_, none⟩) H.length pd) := (by rw [d53.cell (by first | omega | (simp; done) | (simp; omega))]; go_cell)
              have fl_53 : w14.heap.size < w53.heap.size := (by have := d53.size; omega)
              have d0_53 : w53.cell? ⟨w16.heap.size, 0, none⟩ = some (.slice do_ (dropI key Y).length dc) := (by rw [d53.cell (by first | omega | (simp; done) | (simp; omega))]; go_cell)
              have d1_53 : w53.cell? ⟨w16.heap.size, 1, none⟩ = some (.slice (some ⟨bd, od, none⟩) H.length dd) := (by rw [d53.cell (by first | omega | (simp; done) | (simp; omega))]; go_cell)
              have dl_53 : w16.heap.size < w53.heap.size := (by have := d53.size; omega)
              clear c0_52 c1_52 cl_52 x0_52 x1_52 xl_52 f0_52 f1_52 fl_52 d0_52 d1_52 dl_52
              have BND_53 := BND_52.trans (d53.mono BND_52.size)
              have HC_53 := hid (HC_52.out.later d53)
              have HX_53 := hid (HX_52.out.later d53)
              have HF_53 := hid (HF_52.out.later d53)
              have HE_53 := hid (HE_52.out.later d53)
              have k2_53 := (d53.cell (p := ⟨bf, of_ + j, none⟩) kl_52).trans k2_52
              have kl_53 : (⟨bf, of_ + j, none⟩ : Addr).block < w53.heap.size := Nat.lt_of_lt_of_le kl_52 d53.size
              clear d53 BND_52 HC_52 HX_52 HF_52 HE_52 k2_52 kl_52
              have Qf1 := cell_regrown f1_53
              have Qg1 := cell_regrown g1_53
              have Qk2 := cell_regrown k2_53
              refine wp_region_quiet_below (by kernel_rfl) (by kernel_rfl) ?_
              repeat (first | go_big_quiet_skip | (go_big_quiet_want; go_big_quiet_op; first | go_big_quiet_on | go_big_quiet_call (first | (fail))))
              refine wpQuiet_nil ?_
              rintro wq ⟨pq, hwq⟩
              have hq : Below w53.heap.size w53 wq := by rw [hwq]; exact below_regrown _ _ _
              clear hwq pq
              go_wp2_with fail
              go_roundw
              case rel => exact ⟨j + 1, by have := HLT.out; omega, by go_num, hid (BND_53.trans (hq.mono BND_53.size))⟩
              case measure =>
                have := HLT.out
                simp [intOf]
                omega
          · obtain rfl : j = 24 := by omega
            go_wp2_with fail
            refine (implGet_no _ _ (dropI key Y) H key _ HE_50.out HD3.out).mono ?_
            rintro e w51 ⟨⟨ga, gc, rfl⟩, b51⟩
            have BND_51 := BND_50.trans (b51.mono BND_50.size)
            have d51 : Below w50.heap.size w50 w51 := (Below.trans (by go_grown) (b51.mono (by first | omega | (simp; done) | (simp; omega))))
            have c51 : Below w.heap.size w w51 := c50.trans (d51.mono c50.size)
            have c0_51 : w51.cell? ⟨w1.heap.size, 0, none⟩ = some (.slice io I.length ic) := (by rw [b51.cell (by first | omega | (simp; done) | (simp; omega))]; go_cell)
            have c1_51 : w51.cell? ⟨w1.heap.size, 1, none⟩ = some (.slice (some ⟨bc, oc, none⟩) F.length fc) := (by rw [b51.cell (by first | omega | (simp; done) | (simp; omega))]; go_cell)
            have cl_51 : w1.heap.size < w51.heap.size := (by have := b51.size; first | omega | (revert this; simp; done) | (revert this; simp; omega))
            have x0_51 : w51.cell? ⟨w4.heap.size, 0, none⟩ = some (.slice xo X.length xc) := (by rw [b51.cell (by first | omega | (simp; done) | (simp; omega))]; go_cell)
            have x1_51 : w51.cell? ⟨w4.heap.size, 1, none⟩ = some (.slice (some ⟨bx, ox, none⟩) G.length xd) := (by rw [b51.cell (by first | omega | (simp; done) | (simp; omega))]; go_cell)
            have xl_51 : w4.heap.size < w51.heap.size := (by have := b51.size; first | omega | (revert this; simp; done) | (revert this; simp; omega))
            have f0_51 : w51.cell? ⟨w14.heap.size, 0, none⟩ = some (.slice po Y.length pc) := (by rw [b51.cell (by first | omega | (simp; done) | (simp; omega))]; go_cell)
            have f1_51 : w51.cell? ⟨w14.heap.size, 1, none⟩ = some (.slice (some ⟨bf, of_, none⟩) H.length pd) := (by rw [b51.cell (by first | omega | (simp; done) | (simp; omega))]; go_cell)
            have fl_51 : w14.heap.size < w51.heap.size := (by have := b51.size; first | omega | (revert this; simp; done) | (revert this; simp; omega))
            have d0_51 : w51.cell? ⟨w16.heap.size, 0, none⟩ = some (.slice do_ (dropI key Y).length dc) := (by rw [b51.cell (by first | omega | (simp; done) | (simp; omega))]; go_cell)
            have d1_51 : w51.cell? ⟨w16.heap.size, 1, none⟩ = some (.slice (some ⟨bd, od, none⟩) H.length dd) := (by rw [b51.cell (by first | omega | (simp; done) | (simp; omega))]; go_cell)
            have dl_51 : w16.heap.size < w51.heap.size := (by have := b51.size; first | omega | (revert this; simp; done) | (revert this; simp; omega))
            clear c0_50 c1_50 cl_50 x0_50 x1_50 xl_50 f0_50 f1_50 fl_50 d0_50 d1_50 dl_50
            have HC_51 := hid (HC_50.out.later d51)
            have HX_51 := hid (HX_50.out.later d51)
            have HF_51 := hid (HF_50.out.later d51)
            have HE_51 := hid (HE_50.out.later d51)
            clear d51 b51 BND_50 HC_50 HX_50 HF_50 HE_50
            go_wp2_with fail
            generalize hW52 : (w51.alloc (.cells #[.int .i64 0, .int .i64 0, .int .i64 0, .slice ga 0 gc] 31)) = w52
            have g0_52 : w52.cell? ⟨w51.heap.size, 0, none⟩ = some (.int .i64 0) := by subst hW52; go_cell
            have g1_52 : w52.cell? ⟨w51.heap.size, 1, none⟩ = some (.int .i64 0) := by subst hW52; go_cell
            have g2_52 : w52.cell? ⟨w51.heap.size, 2, none⟩ = some (.int .i64 0) := by subst hW52; go_cell
            have g3_52 : w52.cell? ⟨w51.heap.size, 3, none⟩ = some (.slice ga 0 gc) := by subst hW52; go_cell
            have gl_52 : w51.heap.size < w52.heap.size := by subst hW52; simp
            have d52 : Below w51.heap.size w51 w52 := by subst hW52; go_grown
            clear hW52
            have c52 : Below w.heap.size w w52 := c51.trans (d52.mono c51.size)
            have c0_52 : w52.cell? ⟨w1.heap.size, 0, none⟩ = some (.slice io I.length ic) := (by rw [d52.cell (by first | omega | (simp; done) | (simp; omega))]; go_cell)
            have c1_52 : w52.cell? ⟨w1.heap.size, 1, none⟩ = some (.slice (some ⟨bc, oc, none⟩) F.length fc) := (by rw [d52.cell (by first | omega | (simp; done) | (simp; omega))]; go_cell)
            have cl_52 : w1.heap.size < w52.heap.size := (by have := d52.size; omega)
            have x0_52 : w52.cell? ⟨w4.heap.size, 0, none⟩ = some (.slice xo X.length xc) := (by rw [d52.cell (by first | omega | (simp; done) | (simp; omega))]; go_cell)
            have x1_52 : w52.cell? ⟨w4.heap.size, 1, none⟩ = some (.slice (some ⟨bx, ox, none⟩) G.length xd) := (by rw [d52.cell (by first | omega | (simp; done) | (simp; omega))]; go_cell)
            have xl_52 : w4.heap.size < w52.heap.size := (by have := d52.size; omega)
            have f0_52 : w52.cell? ⟨w14.heap.size, 0, none⟩ = some (.slice po Y.length pc) := (by rw [d52.cell (by first | omega | (simp; done) | (simp; omega))]; go_cell)
            have f1_52 : w52.cell? ⟨w14.heap.size, 1, none⟩ = some (.slice (some ⟨bf, of_, none⟩) H.length pd) := (by rw [d52.cell (by first | omega | (simp; done) | (simp; omega))]; go_cell)
            have fl_52 : w14.heap.size < w52.heap.size := (by have := d52.size; omega)
            have d0_52 : w52.cell? ⟨w16.heap.size, 0, none⟩ = some (.slice do_ (dropI key Y).length dc) := (by rw [d52.cell (by first | omega | (simp; done) | (simp; omega))]; go_cell)
            have d1_52 : w52.cell? ⟨w16.heap.size, 1, none⟩ = some (.slice (some ⟨bd, od, none⟩) H.length dd) := (by rw [d52.cell (by first | omega | (simp; done) | (simp; omega))]; go_cell)
            have dl_52 : w16.heap.size < w52.heap.size := (by have := d52.size; omega)
            clear c0_51 c1_51 cl_51 x0_51 x1_51 xl_51 f0_51 f1_51 fl_51 d0_51 d1_51 dl_51
            have BND_52 := BND_51.trans (d52.mono BND_51.size)
            have HC_52 := hid (HC_51.out.later d52)
            have HX_52 := hid (HX_51.out.later d52)
            have HF_52 := hid (HF_51.out.later d52)
            have HE_52 := hid (HE_51.out.later d52)
            clear d52 BND_51 HC_51 HX_51 HF_51 HE_51
            clear g0_52 g1_52 g2_52 g3_52 gl_52
            have OY := fun (v0 v1 : Value) (W : World) (h : RSCache W v0 v1 Y H) => implCOk_any v0 v1 Y H W h.h0 h.h1
            rw [HYOK.out] at OY
            have OE := fun (v0 v1 : Value) (W : World) (h : RSCache W v0 v1 (dropI key Y) H) => implCOk_any v0 v1 (dropI key Y) H W h.h0 h.h1
            rw [HD2.out] at OE
            have hX4' : decide ((X.length : Int) ≤ 4) = true := by have := HL.out; simp; omega
            go_wp2_with fail
            refine (OY _ _ _ HF_52.out).mono ?_
            rintro e w53 ⟨rfl, b53⟩
            have d53 : Below w52.heap.size w52 w53 := (Below.trans (by go_grown) (b53.mono (by first | omega | (simp; done) | (simp; omega))))
            have c53 : Below w.heap.size w w53 := c52.trans (d53.mono c52.size)
            have c0_53 : w53.cell? ⟨w1.heap.size, 0, none⟩ = some (.slice io I.length ic) := (by rw [b53.cell (by first | omega | (simp; done) | (simp; omega))]; go_cell)
            have c1_53 : w53.cell? ⟨w1.heap.size, 1, none⟩ = some (.slice (some ⟨bc, oc, none⟩) F.length fc) := (by rw [b53.cell (by first | omega | (simp; done) | (simp; omega))]; go_cell)
            have cl_53 : w1.heap.size < w53.heap.size := (by have := b53.size; first | omega | (revert this; simp; done) | (revert this; simp; omega))
            have x0_53 : w53.cell? ⟨w4.heap.size, 0, none⟩ = some (.slice xo X.length xc) := (by rw [b53.cell (by first | omega | (simp; done) | (simp; omega))]; go_cell)
            have x1_53 : w53.cell? ⟨w4.heap.size, 1, none⟩ = some (.slice (some ⟨bx, ox, none⟩) G.length xd) := (by rw [b53.cell (by first | omega | (simp; done) | (simp; omega))]; go_cell)
            have xl_53 : w4.heap.size < w53.heap.size := (by have := b53.size; first | omega | (revert this; simp; done) | (revert this; simp; omega))
            have f0_53 : w53.cell? ⟨w14.heap.size, 0, none⟩ = some (.slice po Y.length pc) := (by rw [b53.cell (by first | omega | (simp; done) | (simp; omega))]; go_cell)
            have f1_53 : w53.cell? ⟨w14.heap.size, 1, none⟩ = some (.slice (some ⟨bf, of_, none⟩) H.length pd) := (by rw [b53.cell (by first | omega | (simp; done) | (simp; omega))]; go_cell)
            have fl_53 : w14.heap.size < w53.heap.size := (by have := b53.size; first | omega | (revert this; simp; done) | (revert this; simp; omega))
            have d0_53 : w53.cell? ⟨w16.heap.size, 0, none⟩ = some (.slice do_ (dropI key Y).length dc) := (by rw [b53.cell (by first | omega | (simp; done) | (simp; omega))]; go_cell)
            have d1_53 : w53.cell? ⟨w16.heap.size, 1, none⟩ = some (.slice (some ⟨bd, od, none⟩) H.length dd) := (by rw [b53.cell (by first | omega | (simp; done) | (simp; omega))]; go_cell)
            have dl_53 : w16.heap.size < w53.heap.size := (by have := b53.size; first | omega | (revert this; simp; done) | (revert this; simp; omega))
            clear c0_52 c1_52 cl_52 x0_52 x1_52 xl_52 f0_52 f1_52 fl_52 d0_52 d1_52 dl_52
            have HC_53 := hid (HC_52.out.later d53)
            have HX_53 := hid (HX_52.out.later d53)
            have HF_53 := hid (HF_52.out.later d53)
            have HE_53 := hid (HE_52.out.later d53)
            clear d53 b53 HC_52 HX_52 HF_52 HE_52
            go_wp2_with fail
            refine (OE _ _ _ HE_53.out).mono ?_
            rintro e w54 ⟨rfl, b54⟩
            have d54 : Below w53.heap.size w53 w54 := (Below.trans (by go_grown) (b54.mono (by first | omega | (simp; done) | (simp; omega))))
            have c54 : Below w.heap.size w w54 := c53.trans (d54.mono c53.size)
            have c0_54 : w54.cell? ⟨w1.heap.size, 0, none⟩ = some (.slice io I.length ic) := (by rw [b54.cell (by first | omega | (simp; done) | (simp; omega))]; go_cell)
            have c1_54 : w54.cell? ⟨w1.heap.size, 1, none⟩ = some (.slice (some ⟨bc, oc, none⟩) F.length fc) := (by rw [b54.cell (by first | omega | (simp; done) | (simp; omega))]; go_cell)
            have cl_54 : w1.heap.size < w54.heap.size := (by have := b54.size; first | omega | (revert this; simp; done) | (revert this; simp; omega))
            have x0_54 : w54.cell? ⟨w4.heap.size, 0, none⟩ = some (.slice xo X.length xc) := (by rw [b54.cell (by first | omega | (simp; done) | (simp; omega))]; go_cell)
            have x1_54 : w54.cell? ⟨w4.heap.size, 1, none⟩ = some (.slice (some ⟨bx, ox, none⟩) G.length xd) := (by rw [b54.cell (by first | omega | (simp; done) | (simp; omega))]; go_cell)
            have xl_54 : w4.heap.size < w54.heap.size := (by have := b54.size; first | omega | (revert this; simp; done) | (revert this; simp; omega))
            have f0_54 : w54.cell? ⟨w14.heap.size, 0, none⟩ = some (.slice po Y.length pc) := (by rw [b54.cell (by first | omega | (simp; done) | (simp; omega))]; go_cell)
            have f1_54 : w54.cell? ⟨w14.heap.size, 1, none⟩ = some (.slice (some ⟨bf, of_, none⟩) H.length pd) := (by rw [b54.cell (by first | omega | (simp; done) | (simp; omega))]; go_cell)
            have fl_54 : w14.heap.size < w54.heap.size := (by have := b54.size; first | omega | (revert this; simp; done) | (revert this; simp; omega))
            have d0_54 : w54.cell? ⟨w16.heap.size, 0, none⟩ = some (.slice do_ (dropI key Y).length dc) := (by rw [b54.cell (by first | omega | (simp; done) | (simp; omega))]; go_cell)
            have d1_54 : w54.cell? ⟨w16.heap.size, 1, none⟩ = some (.slice (some ⟨bd, od, none⟩) H.length dd) := (by rw [b54.cell (by first | omega | (simp; done) | (simp; omega))]; go_cell)
            have dl_54 : w16.heap.size < w54.heap.size := (by have := b54.size; first | omega | (revert this; simp; done) | (revert this; simp; omega))
            clear c0_53 c1_53 cl_53 x0_53 x1_53 xl_53 f0_53 f1_53 fl_53 d0_53 d1_53 dl_53
            have HC_54 := hid (HC_53.out.later d54)
            have HX_54 := hid (HX_53.out.later d54)
            have HF_54 := hid (HF_53.out.later d54)
            have HE_54 := hid (HE_53.out.later d54)
            clear d54 b54 HC_53 HX_53 HF_53 HE_53
            go_wp2
            go_ret
            exact ⟨by simp, c54⟩
end Go.Proofs.Ytilbaiohcfhcaaa
