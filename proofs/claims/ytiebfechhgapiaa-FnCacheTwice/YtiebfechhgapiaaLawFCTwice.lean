/- The law FnCacheTwice: its walk. Written by a program (gfc.py). -/
import Derived.Test.YtiebfechhgapiaaYg
import Derived.Test.YtiebfechhgapiaaYj
import Derived.BigQuiet
import Derived.Lib.QuietBelow
namespace Go.Proofs.Ytiebfechhgapiaa
open Go.RowKit
attribute [local go_sem ↓] Go.wp_at_zero Go.wp_at_succ

set_option maxRecDepth 100000 in
set_option maxHeartbeats 16000000 in
theorem lawFCTwice_any (v : Value) (n : Nat) (w : World) (h : Bs w v n) :
    Calls Try.prog 4 #[v] w fun e w' => e = .returned (.bool true) ∧ Below w.heap.size w w' := by
  have HB1 := hid h
  obtain ⟨ao, cap, hv, h0, _⟩ := h
  subst hv
  unfold maxLen at h0
  by_cases hbign : 1048576 < n
  · go_enter Try.func4, Try.ntmps4
    go_wp2
    go_ret
    exact ⟨rfl, Below.refl _ _⟩
  go_enter Try.func4, Try.ntmps4
  go_wp2_with fail
  refine (drawCPut_any _ n _ HB1.out).mono ?_
  rintro e w1 ⟨⟨y0, y1, I, F, k, p, m, u, l, rfl, hrs, hu, hl⟩, c1⟩
  obtain ⟨io, fo, ic, fc, rfl, rfl⟩ := hrs.open
  have HC_1 := hid hrs
  have HU_1 := hid hu
  obtain ⟨uo, uc, rfl, _⟩ := hu
  clear hrs HB1
  go_wp2_with fail
  have c0_2 : (w1.alloc (.cells #[.slice io I.length ic, .slice fo F.length fc] 26)).cell? ⟨w1.heap.size, 0, none⟩ = some (.slice io I.length ic) := by go_cell
  have c1_2 : (w1.alloc (.cells #[.slice io I.length ic, .slice fo F.length fc] 26)).cell? ⟨w1.heap.size, 1, none⟩ = some (.slice fo F.length fc) := by go_cell
  have cl_2 : w1.heap.size < (w1.alloc (.cells #[.slice io I.length ic, .slice fo F.length fc] 26)).heap.size := by simp
  have d2 : Below w1.heap.size w1 (w1.alloc (.cells #[.slice io I.length ic, .slice fo F.length fc] 26)) := by go_grown
  have sz2 : (w1.alloc (.cells #[.slice io I.length ic, .slice fo F.length fc] 26)).heap.size = w1.heap.size + 1 := by simp
  generalize (w1.alloc (.cells #[.slice io I.length ic, .slice fo F.length fc] 26)) = w2 at c0_2 c1_2 cl_2 d2 sz2 ⊢
  have c2 : Below w.heap.size w w2 := c1.trans (d2.mono c1.size)
  have HC_2 := hid (HC_1.out.later d2)
  have HU_2 := hid (HU_1.out.later d2)
  clear d2 HC_1 HU_1
  have t0_3 : (w2.alloc (.cells #[.int .i64 k, .int .i64 p, .int .i64 m, .slice uo l.length uc] 33)).cell? ⟨w2.heap.size, 0, none⟩ = some (.int .i64 k) := by go_cell
  have t1_3 : (w2.alloc (.cells #[.int .i64 k, .int .i64 p, .int .i64 m, .slice uo l.length uc] 33)).cell? ⟨w2.heap.size, 1, none⟩ = some (.int .i64 p) := by go_cell
  have t2_3 : (w2.alloc (.cells #[.int .i64 k, .int .i64 p, .int .i64 m, .slice uo l.length uc] 33)).cell? ⟨w2.heap.size, 2, none⟩ = some (.int .i64 m) := by go_cell
  have t3_3 : (w2.alloc (.cells #[.int .i64 k, .int .i64 p, .int .i64 m, .slice uo l.length uc] 33)).cell? ⟨w2.heap.size, 3, none⟩ = some (.slice uo l.length uc) := by go_cell
  have tl_3 : w2.heap.size < (w2.alloc (.cells #[.int .i64 k, .int .i64 p, .int .i64 m, .slice uo l.length uc] 33)).heap.size := by simp
  have d3 : Below w2.heap.size w2 (w2.alloc (.cells #[.int .i64 k, .int .i64 p, .int .i64 m, .slice uo l.length uc] 33)) := by go_grown
  generalize (w2.alloc (.cells #[.int .i64 k, .int .i64 p, .int .i64 m, .slice uo l.length uc] 33)) = w3 at t0_3 t1_3 t2_3 t3_3 tl_3 d3 ⊢
  have c3 : Below w.heap.size w w3 := c2.trans (d3.mono c2.size)
  have c0_3 : w3.cell? ⟨w1.heap.size, 0, none⟩ = some (.slice io I.length ic) := (by rw [d3.cell (by first | omega | (simp; done) | (simp; omega))]; go_cell)
  have c1_3 : w3.cell? ⟨w1.heap.size, 1, none⟩ = some (.slice fo F.length fc) := (by rw [d3.cell (by first | omega | (simp; done) | (simp; omega))]; go_cell)
  have cl_3 : w1.heap.size < w3.heap.size := (by have := d3.size; omega)
  clear c0_2 c1_2 cl_2
  have HC_3 := hid (HC_2.out.later d3)
  have HU_3 := hid (HU_2.out.later d3)
  clear d3 HC_2 HU_2
  rw [sz2] at t0_3 t1_3 t2_3 t3_3 tl_3
  clear sz2
  obtain ⟨⟨⟨X, G⟩, b⟩, hD⟩ : ∃ D, ansP I F k p m l = D := ⟨_, rfl⟩
  have ID := fun (v0 v1 : Value) (W : World) (h : RSCache W v0 v1 I F) (hu : Rd W (.slice uo l.length uc) l) => implCPut_rd v0 v1 I F k p m _ l W h hu hD
  have SD := fun (v0 v1 : Value) (W : World) (h : RSCache W v0 v1 I F) (hu : Rd W (.slice uo l.length uc) l) => specCPut_rd v0 v1 I F k p m _ l W h hu hD
  simp only at ID SD
  have HD := hid hD
  clear hD
  refine (ID _ _ _ HC_3.out HU_3.out).mono ?_
  rintro e w4 ⟨⟨xo, xg, xc, xd, rfl, hx⟩, b4⟩
  have d4 : Below w3.heap.size w3 w4 := (Below.trans (by go_grown) (b4.mono (by first | omega | (simp; done) | (simp; omega))))
  have c4 : Below w.heap.size w w4 := c3.trans (d4.mono c3.size)
  have c0_4 : w4.cell? ⟨w1.heap.size, 0, none⟩ = some (.slice io I.length ic) := (by rw [b4.cell (by first | omega | (simp; done) | (simp; omega))]; go_cell)
  have c1_4 : w4.cell? ⟨w1.heap.size, 1, none⟩ = some (.slice fo F.length fc) := (by rw [b4.cell (by first | omega | (simp; done) | (simp; omega))]; go_cell)
  have cl_4 : w1.heap.size < w4.heap.size := (by have := b4.size; first | omega | (revert this; simp; done) | (revert this; simp; omega))
  have t0_4 : w4.cell? ⟨w1.heap.size + 1, 0, none⟩ = some (.int .i64 k) := (by rw [b4.cell (by first | omega | (simp; done) | (simp; omega))]; go_cell)
  have t1_4 : w4.cell? ⟨w1.heap.size + 1, 1, none⟩ = some (.int .i64 p) := (by rw [b4.cell (by first | omega | (simp; done) | (simp; omega))]; go_cell)
  have t2_4 : w4.cell? ⟨w1.heap.size + 1, 2, none⟩ = some (.int .i64 m) := (by rw [b4.cell (by first | omega | (simp; done) | (simp; omega))]; go_cell)
  have t3_4 : w4.cell? ⟨w1.heap.size + 1, 3, none⟩ = some (.slice uo l.length uc) := (by rw [b4.cell (by first | omega | (simp; done) | (simp; omega))]; go_cell)
  have tl_4 : w1.heap.size + 1 < w4.heap.size := (by have := b4.size; first | omega | (revert this; simp; done) | (revert this; simp; omega))
  clear c0_3 c1_3 cl_3 t0_3 t1_3 t2_3 t3_3 tl_3
  have HC_4 := hid (HC_3.out.later d4)
  have HU_4 := hid (HU_3.out.later d4)
  clear d4 b4 HC_3 HU_3
  have HX_4 := hid hx
  clear hx
  cases b with
  | false =>
    go_wp2_with fail
    have x0_5 : (w4.alloc (.cells #[.slice xo X.length xc, .slice xg G.length xd] 26)).cell? ⟨w4.heap.size, 0, none⟩ = some (.slice xo X.length xc) := by go_cell
    have x1_5 : (w4.alloc (.cells #[.slice xo X.length xc, .slice xg G.length xd] 26)).cell? ⟨w4.heap.size, 1, none⟩ = some (.slice xg G.length xd) := by go_cell
    have xl_5 : w4.heap.size < (w4.alloc (.cells #[.slice xo X.length xc, .slice xg G.length xd] 26)).heap.size := by simp
    have d5 : Below w4.heap.size w4 (w4.alloc (.cells #[.slice xo X.length xc, .slice xg G.length xd] 26)) := by go_grown
    generalize (w4.alloc (.cells #[.slice xo X.length xc, .slice xg G.length xd] 26)) = w5 at x0_5 x1_5 xl_5 d5 ⊢
    have c5 : Below w.heap.size w w5 := c4.trans (d5.mono c4.size)
    have c0_5 : w5.cell? ⟨w1.heap.size, 0, none⟩ = some (.slice io I.length ic) := (by rw [d5.cell (by first | omega | (simp; done) | (simp; omega))]; go_cell)
    have c1_5 : w5.cell? ⟨w1.heap.size, 1, none⟩ = some (.slice fo F.length fc) := (by rw [d5.cell (by first | omega | (simp; done) | (simp; omega))]; go_cell)
    have cl_5 : w1.heap.size < w5.heap.size := (by have := d5.size; omega)
    have t0_5 : w5.cell? ⟨w1.heap.size + 1, 0, none⟩ = some (.int .i64 k) := (by rw [d5.cell (by first | omega | (simp; done) | (simp; omega))]; go_cell)
    have t1_5 : w5.cell? ⟨w1.heap.size + 1, 1, none⟩ = some (.int .i64 p) := (by rw [d5.cell (by first | omega | (simp; done) | (simp; omega))]; go_cell)
    have t2_5 : w5.cell? ⟨w1.heap.size + 1, 2, none⟩ = some (.int .i64 m) := (by rw [d5.cell (by first | omega | (simp; done) | (simp; omega))]; go_cell)
    have t3_5 : w5.cell? ⟨w1.heap.size + 1, 3, none⟩ = some (.slice uo l.length uc) := (by rw [d5.cell (by first | omega | (simp; done) | (simp; omega))]; go_cell)
    have tl_5 : w1.heap.size + 1 < w5.heap.size := (by have := d5.size; omega)
    clear c0_4 c1_4 cl_4 t0_4 t1_4 t2_4 t3_4 tl_4
    have HC_5 := hid (HC_4.out.later d5)
    have HU_5 := hid (HU_4.out.later d5)
    have HX_5 := hid (HX_4.out.later d5)
    clear d5 HC_4 HU_4 HX_4
    refine (SD _ _ _ HC_5.out HU_5.out).mono ?_
    rintro e w6 ⟨⟨so, sg, sc, sd, rfl, hx⟩, b6⟩
    clear hx
    have d6 : Below w5.heap.size w5 w6 := (Below.trans (by go_grown) (b6.mono (by first | omega | (simp; done) | (simp; omega))))
    have c6 : Below w.heap.size w w6 := c5.trans (d6.mono c5.size)
    have c0_6 : w6.cell? ⟨w1.heap.size, 0, none⟩ = some (.slice io I.length ic) := (by rw [b6.cell (by first | omega | (simp; done) | (simp; omega))]; go_cell)
    have c1_6 : w6.cell? ⟨w1.heap.size, 1, none⟩ = some (.slice fo F.length fc) := (by rw [b6.cell (by first | omega | (simp; done) | (simp; omega))]; go_cell)
    have cl_6 : w1.heap.size < w6.heap.size := (by have := b6.size; first | omega | (revert this; simp; done) | (revert this; simp; omega))
    have t0_6 : w6.cell? ⟨w1.heap.size + 1, 0, none⟩ = some (.int .i64 k) := (by rw [b6.cell (by first | omega | (simp; done) | (simp; omega))]; go_cell)
    have t1_6 : w6.cell? ⟨w1.heap.size + 1, 1, none⟩ = some (.int .i64 p) := (by rw [b6.cell (by first | omega | (simp; done) | (simp; omega))]; go_cell)
    have t2_6 : w6.cell? ⟨w1.heap.size + 1, 2, none⟩ = some (.int .i64 m) := (by rw [b6.cell (by first | omega | (simp; done) | (simp; omega))]; go_cell)
    have t3_6 : w6.cell? ⟨w1.heap.size + 1, 3, none⟩ = some (.slice uo l.length uc) := (by rw [b6.cell (by first | omega | (simp; done) | (simp; omega))]; go_cell)
    have tl_6 : w1.heap.size + 1 < w6.heap.size := (by have := b6.size; first | omega | (revert this; simp; done) | (revert this; simp; omega))
    have x0_6 : w6.cell? ⟨w4.heap.size, 0, none⟩ = some (.slice xo X.length xc) := (by rw [b6.cell (by first | omega | (simp; done) | (simp; omega))]; go_cell)
    have x1_6 : w6.cell? ⟨w4.heap.size, 1, none⟩ = some (.slice xg G.length xd) := (by rw [b6.cell (by first | omega | (simp; done) | (simp; omega))]; go_cell)
    have xl_6 : w4.heap.size < w6.heap.size := (by have := b6.size; first | omega | (revert this; simp; done) | (revert this; simp; omega))
    clear c0_5 c1_5 cl_5 t0_5 t1_5 t2_5 t3_5 tl_5 x0_5 x1_5 xl_5
    have HC_6 := hid (HC_5.out.later d6)
    have HU_6 := hid (HU_5.out.later d6)
    have HX_6 := hid (HX_5.out.later d6)
    clear d6 b6 HC_5 HU_5 HX_5
    go_wp2
    go_ret
    exact ⟨by simp, (by first | exact c6 | exact Below.trans c6 (Below.mono (by go_grown) c6.size))⟩
  | true =>
    obtain ⟨hP1, hP2, hP3, hP4, hP5, hP6⟩ := twice_all HD.out
    obtain ⟨bx, ox, hxo⟩ := rdm_some HX_4.out.h0 hP5
    subst hxo
    have kc_4 := key_cell HX_4.out.h0 0 hP5
    rw [hP6, Nat.zero_mul, Nat.add_zero] at kc_4
    have kl_4 := rdm_lt HX_4.out.h0 hP5
    have hXl : (0 : Int) < (X.length : Int) := by omega
    have hXn : 0 < X.length := hP5
    have J1 := fun (v0 v1 : Value) (W : World) (h : RSCache W v0 v1 X G) (hu : Rd W (.slice uo l.length uc) l) => implCPut_rd v0 v1 X G k p m _ l W h hu hP1
    have J2 := fun (v0 v1 : Value) (W : World) (h : RSCache W v0 v1 X G) => implCDrop_rd v0 v1 X G k W h hP2
    have J3 := fun (v0 v1 : Value) (W : World) (h : RSCache W v0 v1 (dropI k X) G) (hu : Rd W (.slice uo l.length uc) l) => implCPut_rd v0 v1 (dropI k X) G k p m _ l W h hu hP3
    have J4 := fun (v0 v1 : Value) (W : World) (h : RSCache W v0 v1 (dropI k X) G) => implGet_no v0 v1 (dropI k X) G k W h hP4
    simp only at J1 J2 J3
    clear hP1 hP2 hP3 hP4 hP5 hP6 ID
    go_wp2_with fail
    have x0_5 : (w4.alloc (.cells #[.slice (some ⟨bx, ox, none⟩) X.length xc, .slice xg G.length xd] 26)).cell? ⟨w4.heap.size, 0, none⟩ = some (.slice (some ⟨bx, ox, none⟩) X.length xc) := by go_cell
    have x1_5 : (w4.alloc (.cells #[.slice (some ⟨bx, ox, none⟩) X.length xc, .slice xg G.length xd] 26)).cell? ⟨w4.heap.size, 1, none⟩ = some (.slice xg G.length xd) := by go_cell
    have xl_5 : w4.heap.size < (w4.alloc (.cells #[.slice (some ⟨bx, ox, none⟩) X.length xc, .slice xg G.length xd] 26)).heap.size := by simp
    have d5 : Below w4.heap.size w4 (w4.alloc (.cells #[.slice (some ⟨bx, ox, none⟩) X.length xc, .slice xg G.length xd] 26)) := by go_grown
    generalize (w4.alloc (.cells #[.slice (some ⟨bx, ox, none⟩) X.length xc, .slice xg G.length xd] 26)) = w5 at x0_5 x1_5 xl_5 d5 ⊢
    have c5 : Below w.heap.size w w5 := c4.trans (d5.mono c4.size)
    have c0_5 : w5.cell? ⟨w1.heap.size, 0, none⟩ = some (.slice io I.length ic) := (by rw [d5.cell (by first | omega | (simp; done) | (simp; omega))]; go_cell)
    have c1_5 : w5.cell? ⟨w1.heap.size, 1, none⟩ = some (.slice fo F.length fc) := (by rw [d5.cell (by first | omega | (simp; done) | (simp; omega))]; go_cell)
    have cl_5 : w1.heap.size < w5.heap.size := (by have := d5.size; omega)
    have t0_5 : w5.cell? ⟨w1.heap.size + 1, 0, none⟩ = some (.int .i64 k) := (by rw [d5.cell (by first | omega | (simp; done) | (simp; omega))]; go_cell)
    have t1_5 : w5.cell? ⟨w1.heap.size + 1, 1, none⟩ = some (.int .i64 p) := (by rw [d5.cell (by first | omega | (simp; done) | (simp; omega))]; go_cell)
    have t2_5 : w5.cell? ⟨w1.heap.size + 1, 2, none⟩ = some (.int .i64 m) := (by rw [d5.cell (by first | omega | (simp; done) | (simp; omega))]; go_cell)
    have t3_5 : w5.cell? ⟨w1.heap.size + 1, 3, none⟩ = some (.slice uo l.length uc) := (by rw [d5.cell (by first | omega | (simp; done) | (simp; omega))]; go_cell)
    have tl_5 : w1.heap.size + 1 < w5.heap.size := (by have := d5.size; omega)
    clear c0_4 c1_4 cl_4 t0_4 t1_4 t2_4 t3_4 tl_4
    have HC_5 := hid (HC_4.out.later d5)
    have HU_5 := hid (HU_4.out.later d5)
    have HX_5 := hid (HX_4.out.later d5)
    have kc_5 := (d5.cell (p := ⟨bx, ox, none⟩) kl_4).trans kc_4
    have kl_5 : (⟨bx, ox, none⟩ : Addr).block < w5.heap.size := Nat.lt_of_lt_of_le kl_4 d5.size
    clear d5 HC_4 HU_4 HX_4 kc_4 kl_4
    refine (SD _ _ _ HC_5.out HU_5.out).mono ?_
    rintro e w6 ⟨⟨so, sg, sc, sd, rfl, hx⟩, b6⟩
    clear hx SD
    have d6 : Below w5.heap.size w5 w6 := (Below.trans (by go_grown) (b6.mono (by first | omega | (simp; done) | (simp; omega))))
    have c6 : Below w.heap.size w w6 := c5.trans (d6.mono c5.size)
    have c0_6 : w6.cell? ⟨w1.heap.size, 0, none⟩ = some (.slice io I.length ic) := (by rw [b6.cell (by first | omega | (simp; done) | (simp; omega))]; go_cell)
    have c1_6 : w6.cell? ⟨w1.heap.size, 1, none⟩ = some (.slice fo F.length fc) := (by rw [b6.cell (by first | omega | (simp; done) | (simp; omega))]; go_cell)
    have cl_6 : w1.heap.size < w6.heap.size := (by have := b6.size; first | omega | (revert this; simp; done) | (revert this; simp; omega))
    have t0_6 : w6.cell? ⟨w1.heap.size + 1, 0, none⟩ = some (.int .i64 k) := (by rw [b6.cell (by first | omega | (simp; done) | (simp; omega))]; go_cell)
    have t1_6 : w6.cell? ⟨w1.heap.size + 1, 1, none⟩ = some (.int .i64 p) := (by rw [b6.cell (by first | omega | (simp; done) | (simp; omega))]; go_cell)
    have t2_6 : w6.cell? ⟨w1.heap.size + 1, 2, none⟩ = some (.int .i64 m) := (by rw [b6.cell (by first | omega | (simp; done) | (simp; omega))]; go_cell)
    have t3_6 : w6.cell? ⟨w1.heap.size + 1, 3, none⟩ = some (.slice uo l.length uc) := (by rw [b6.cell (by first | omega | (simp; done) | (simp; omega))]; go_cell)
    have tl_6 : w1.heap.size + 1 < w6.heap.size := (by have := b6.size; first | omega | (revert this; simp; done) | (revert this; simp; omega))
    have x0_6 : w6.cell? ⟨w4.heap.size, 0, none⟩ = some (.slice (some ⟨bx, ox, none⟩) X.length xc) := (by rw [b6.cell (by first | omega | (simp; done) | (simp; omega))]; go_cell)
    have x1_6 : w6.cell? ⟨w4.heap.size, 1, none⟩ = some (.slice xg G.length xd) := (by rw [b6.cell (by first | omega | (simp; done) | (simp; omega))]; go_cell)
    have xl_6 : w4.heap.size < w6.heap.size := (by have := b6.size; first | omega | (revert this; simp; done) | (revert this; simp; omega))
    clear c0_5 c1_5 cl_5 t0_5 t1_5 t2_5 t3_5 tl_5 x0_5 x1_5 xl_5
    have HC_6 := hid (HC_5.out.later d6)
    have HU_6 := hid (HU_5.out.later d6)
    have HX_6 := hid (HX_5.out.later d6)
    have kc_6 := (d6.cell (p := ⟨bx, ox, none⟩) kl_5).trans kc_5
    have kl_6 : (⟨bx, ox, none⟩ : Addr).block < w6.heap.size := Nat.lt_of_lt_of_le kl_5 d6.size
    clear d6 b6 HC_5 HU_5 HX_5 kc_5 kl_5
    go_wp2_with fail
    have s0_7 : (w6.alloc (.cells #[.slice so X.length sc, .slice sg G.length sd] 26)).cell? ⟨w6.heap.size, 0, none⟩ = some (.slice so X.length sc) := by go_cell
    have s1_7 : (w6.alloc (.cells #[.slice so X.length sc, .slice sg G.length sd] 26)).cell? ⟨w6.heap.size, 1, none⟩ = some (.slice sg G.length sd) := by go_cell
    have sl_7 : w6.heap.size < (w6.alloc (.cells #[.slice so X.length sc, .slice sg G.length sd] 26)).heap.size := by simp
    have d7 : Below w6.heap.size w6 (w6.alloc (.cells #[.slice so X.length sc, .slice sg G.length sd] 26)) := by go_grown
    generalize (w6.alloc (.cells #[.slice so X.length sc, .slice sg G.length sd] 26)) = w7 at s0_7 s1_7 sl_7 d7 ⊢
    have c7 : Below w.heap.size w w7 := c6.trans (d7.mono c6.size)
    have c0_7 : w7.cell? ⟨w1.heap.size, 0, none⟩ = some (.slice io I.length ic) := (by rw [d7.cell (by first | omega | (simp; done) | (simp; omega))]; go_cell)
    have c1_7 : w7.cell? ⟨w1.heap.size, 1, none⟩ = some (.slice fo F.length fc) := (by rw [d7.cell (by first | omega | (simp; done) | (simp; omega))]; go_cell)
    have cl_7 : w1.heap.size < w7.heap.size := (by have := d7.size; omega)
    have t0_7 : w7.cell? ⟨w1.heap.size + 1, 0, none⟩ = some (.int .i64 k) := (by rw [d7.cell (by first | omega | (simp; done) | (simp; omega))]; go_cell)
    have t1_7 : w7.cell? ⟨w1.heap.size + 1, 1, none⟩ = some (.int .i64 p) := (by rw [d7.cell (by first | omega | (simp; done) | (simp; omega))]; go_cell)
    have t2_7 : w7.cell? ⟨w1.heap.size + 1, 2, none⟩ = some (.int .i64 m) := (by rw [d7.cell (by first | omega | (simp; done) | (simp; omega))]; go_cell)
    have t3_7 : w7.cell? ⟨w1.heap.size + 1, 3, none⟩ = some (.slice uo l.length uc) := (by rw [d7.cell (by first | omega | (simp; done) | (simp; omega))]; go_cell)
    have tl_7 : w1.heap.size + 1 < w7.heap.size := (by have := d7.size; omega)
    have x0_7 : w7.cell? ⟨w4.heap.size, 0, none⟩ = some (.slice (some ⟨bx, ox, none⟩) X.length xc) := (by rw [d7.cell (by first | omega | (simp; done) | (simp; omega))]; go_cell)
    have x1_7 : w7.cell? ⟨w4.heap.size, 1, none⟩ = some (.slice xg G.length xd) := (by rw [d7.cell (by first | omega | (simp; done) | (simp; omega))]; go_cell)
    have xl_7 : w4.heap.size < w7.heap.size := (by have := d7.size; omega)
    clear c0_6 c1_6 cl_6 t0_6 t1_6 t2_6 t3_6 tl_6 x0_6 x1_6 xl_6
    have HC_7 := hid (HC_6.out.later d7)
    have HU_7 := hid (HU_6.out.later d7)
    have HX_7 := hid (HX_6.out.later d7)
    have kc_7 := (d7.cell (p := ⟨bx, ox, none⟩) kl_6).trans kc_6
    have kl_7 : (⟨bx, ox, none⟩ : Addr).block < w7.heap.size := Nat.lt_of_lt_of_le kl_6 d7.size
    clear d7 HC_6 HU_6 HX_6 kc_6 kl_6
    refine (J1 _ _ _ HX_7.out HU_7.out).mono ?_
    rintro e w8 ⟨⟨yo, yg, yc, yd, rfl, hy⟩, b8⟩
    have d8 : Below w7.heap.size w7 w8 := (Below.trans (by go_grown) (b8.mono (by first | omega | (simp; done) | (simp; omega))))
    have c8 : Below w.heap.size w w8 := c7.trans (d8.mono c7.size)
    have c0_8 : w8.cell? ⟨w1.heap.size, 0, none⟩ = some (.slice io I.length ic) := (by rw [b8.cell (by first | omega | (simp; done) | (simp; omega))]; go_cell)
    have c1_8 : w8.cell? ⟨w1.heap.size, 1, none⟩ = some (.slice fo F.length fc) := (by rw [b8.cell (by first | omega | (simp; done) | (simp; omega))]; go_cell)
    have cl_8 : w1.heap.size < w8.heap.size := (by have := b8.size; first | omega | (revert this; simp; done) | (revert this; simp; omega))
    have t0_8 : w8.cell? ⟨w1.heap.size + 1, 0, none⟩ = some (.int .i64 k) := (by rw [b8.cell (by first | omega | (simp; done) | (simp; omega))]; go_cell)
    have t1_8 : w8.cell? ⟨w1.heap.size + 1, 1, none⟩ = some (.int .i64 p) := (by rw [b8.cell (by first | omega | (simp; done) | (simp; omega))]; go_cell)
    have t2_8 : w8.cell? ⟨w1.heap.size + 1, 2, none⟩ = some (.int .i64 m) := (by rw [b8.cell (by first | omega | (simp; done) | (simp; omega))]; go_cell)
    have t3_8 : w8.cell? ⟨w1.heap.size + 1, 3, none⟩ = some (.slice uo l.length uc) := (by rw [b8.cell (by first | omega | (simp; done) | (simp; omega))]; go_cell)
    have tl_8 : w1.heap.size + 1 < w8.heap.size := (by have := b8.size; first | omega | (revert this; simp; done) | (revert this; simp; omega))
    have x0_8 : w8.cell? ⟨w4.heap.size, 0, none⟩ = some (.slice (some ⟨bx, ox, none⟩) X.length xc) := (by rw [b8.cell (by first | omega | (simp; done) | (simp; omega))]; go_cell)
    have x1_8 : w8.cell? ⟨w4.heap.size, 1, none⟩ = some (.slice xg G.length xd) := (by rw [b8.cell (by first | omega | (simp; done) | (simp; omega))]; go_cell)
    have xl_8 : w4.heap.size < w8.heap.size := (by have := b8.size; first | omega | (revert this; simp; done) | (revert this; simp; omega))
    clear c0_7 c1_7 cl_7 t0_7 t1_7 t2_7 t3_7 tl_7 x0_7 x1_7 xl_7
    have HC_8 := hid (HC_7.out.later d8)
    have HU_8 := hid (HU_7.out.later d8)
    have HX_8 := hid (HX_7.out.later d8)
    have kc_8 := (d8.cell (p := ⟨bx, ox, none⟩) kl_7).trans kc_7
    have kl_8 : (⟨bx, ox, none⟩ : Addr).block < w8.heap.size := Nat.lt_of_lt_of_le kl_7 d8.size
    clear d8 b8 HC_7 HU_7 HX_7 kc_7 kl_7
    have HY_8 := hid hy
    clear hy
    go_wp2_with fail
    have y0_9 : (w8.alloc (.cells #[.slice yo X.length yc, .slice yg G.length yd] 26)).cell? ⟨w8.heap.size, 0, none⟩ = some (.slice yo X.length yc) := by go_cell
    have y1_9 : (w8.alloc (.cells #[.slice yo X.length yc, .slice yg G.length yd] 26)).cell? ⟨w8.heap.size, 1, none⟩ = some (.slice yg G.length yd) := by go_cell
    have yl_9 : w8.heap.size < (w8.alloc (.cells #[.slice yo X.length yc, .slice yg G.length yd] 26)).heap.size := by simp
    have d9 : Below w8.heap.size w8 (w8.alloc (.cells #[.slice yo X.length yc, .slice yg G.length yd] 26)) := by go_grown
    generalize (w8.alloc (.cells #[.slice yo X.length yc, .slice yg G.length yd] 26)) = w9 at y0_9 y1_9 yl_9 d9 ⊢
    have c9 : Below w.heap.size w w9 := c8.trans (d9.mono c8.size)
    have c0_9 : w9.cell? ⟨w1.heap.size, 0, none⟩ = some (.slice io I.length ic) := (by rw [d9.cell (by first | omega | (simp; done) | (simp; omega))]; go_cell)
    have c1_9 : w9.cell? ⟨w1.heap.size, 1, none⟩ = some (.slice fo F.length fc) := (by rw [d9.cell (by first | omega | (simp; done) | (simp; omega))]; go_cell)
    have cl_9 : w1.heap.size < w9.heap.size := (by have := d9.size; omega)
    have t0_9 : w9.cell? ⟨w1.heap.size + 1, 0, none⟩ = some (.int .i64 k) := (by rw [d9.cell (by first | omega | (simp; done) | (simp; omega))]; go_cell)
    have t1_9 : w9.cell? ⟨w1.heap.size + 1, 1, none⟩ = some (.int .i64 p) := (by rw [d9.cell (by first | omega | (simp; done) | (simp; omega))]; go_cell)
    have t2_9 : w9.cell? ⟨w1.heap.size + 1, 2, none⟩ = some (.int .i64 m) := (by rw [d9.cell (by first | omega | (simp; done) | (simp; omega))]; go_cell)
    have t3_9 : w9.cell? ⟨w1.heap.size + 1, 3, none⟩ = some (.slice uo l.length uc) := (by rw [d9.cell (by first | omega | (simp; done) | (simp; omega))]; go_cell)
    have tl_9 : w1.heap.size + 1 < w9.heap.size := (by have := d9.size; omega)
    have x0_9 : w9.cell? ⟨w4.heap.size, 0, none⟩ = some (.slice (some ⟨bx, ox, none⟩) X.length xc) := (by rw [d9.cell (by first | omega | (simp; done) | (simp; omega))]; go_cell)
    have x1_9 : w9.cell? ⟨w4.heap.size, 1, none⟩ = some (.slice xg G.length xd) := (by rw [d9.cell (by first | omega | (simp; done) | (simp; omega))]; go_cell)
    have xl_9 : w4.heap.size < w9.heap.size := (by have := d9.size; omega)
    clear c0_8 c1_8 cl_8 t0_8 t1_8 t2_8 t3_8 tl_8 x0_8 x1_8 xl_8
    have HC_9 := hid (HC_8.out.later d9)
    have HU_9 := hid (HU_8.out.later d9)
    have HX_9 := hid (HX_8.out.later d9)
    have HY_9 := hid (HY_8.out.later d9)
    have kc_9 := (d9.cell (p := ⟨bx, ox, none⟩) kl_8).trans kc_8
    have kl_9 : (⟨bx, ox, none⟩ : Addr).block < w9.heap.size := Nat.lt_of_lt_of_le kl_8 d9.size
    clear d9 HC_8 HU_8 HX_8 HY_8 kc_8 kl_8
    refine (J2 _ _ _ HX_9.out).mono ?_
    rintro e w10 ⟨⟨do_, dg, dc, dd, rfl, hy⟩, b10⟩
    have d10 : Below w9.heap.size w9 w10 := (Below.trans (by go_grown) (b10.mono (by first | omega | (simp; done) | (simp; omega))))
    have c10 : Below w.heap.size w w10 := c9.trans (d10.mono c9.size)
    have c0_10 : w10.cell? ⟨w1.heap.size, 0, none⟩ = some (.slice io I.length ic) := (by rw [b10.cell (by first | omega | (simp; done) | (simp; omega))]; go_cell)
    have c1_10 : w10.cell? ⟨w1.heap.size, 1, none⟩ = some (.slice fo F.length fc) := (by rw [b10.cell (by first | omega | (simp; done) | (simp; omega))]; go_cell)
    have cl_10 : w1.heap.size < w10.heap.size := (by have := b10.size; first | omega | (revert this; simp; done) | (revert this; simp; omega))
    have t0_10 : w10.cell? ⟨w1.heap.size + 1, 0, none⟩ = some (.int .i64 k) := (by rw [b10.cell (by first | omega | (simp; done) | (simp; omega))]; go_cell)
    have t1_10 : w10.cell? ⟨w1.heap.size + 1, 1, none⟩ = some (.int .i64 p) := (by rw [b10.cell (by first | omega | (simp; done) | (simp; omega))]; go_cell)
    have t2_10 : w10.cell? ⟨w1.heap.size + 1, 2, none⟩ = some (.int .i64 m) := (by rw [b10.cell (by first | omega | (simp; done) | (simp; omega))]; go_cell)
    have t3_10 : w10.cell? ⟨w1.heap.size + 1, 3, none⟩ = some (.slice uo l.length uc) := (by rw [b10.cell (by first | omega | (simp; done) | (simp; omega))]; go_cell)
    have tl_10 : w1.heap.size + 1 < w10.heap.size := (by have := b10.size; first | omega | (revert this; simp; done) | (revert this; simp; omega))
    have x0_10 : w10.cell? ⟨w4.heap.size, 0, none⟩ = some (.slice (some ⟨bx, ox, none⟩) X.length xc) := (by rw [b10.cell (by first | omega | (simp; done) | (simp; omega))]; go_cell)
    have x1_10 : w10.cell? ⟨w4.heap.size, 1, none⟩ = some (.slice xg G.length xd) := (by rw [b10.cell (by first | omega | (simp; done) | (simp; omega))]; go_cell)
    have xl_10 : w4.heap.size < w10.heap.size := (by have := b10.size; first | omega | (revert this; simp; done) | (revert this; simp; omega))
    have y0_10 : w10.cell? ⟨w8.heap.size, 0, none⟩ = some (.slice yo X.length yc) := (by rw [b10.cell (by first | omega | (simp; done) | (simp; omega))]; go_cell)
    have y1_10 : w10.cell? ⟨w8.heap.size, 1, none⟩ = some (.slice yg G.length yd) := (by rw [b10.cell (by first | omega | (simp; done) | (simp; omega))]; go_cell)
    have yl_10 : w8.heap.size < w10.heap.size := (by have := b10.size; first | omega | (revert this; simp; done) | (revert this; simp; omega))
    clear c0_9 c1_9 cl_9 t0_9 t1_9 t2_9 t3_9 tl_9 x0_9 x1_9 xl_9 y0_9 y1_9 yl_9
    have HC_10 := hid (HC_9.out.later d10)
    have HU_10 := hid (HU_9.out.later d10)
    have HX_10 := hid (HX_9.out.later d10)
    have HY_10 := hid (HY_9.out.later d10)
    have kc_10 := (d10.cell (p := ⟨bx, ox, none⟩) kl_9).trans kc_9
    have kl_10 : (⟨bx, ox, none⟩ : Addr).block < w10.heap.size := Nat.lt_of_lt_of_le kl_9 d10.size
    clear d10 b10 HC_9 HU_9 HX_9 HY_9 kc_9 kl_9
    have HE_10 := hid hy
    clear hy
    go_wp2_with fail
    have e0_11 : (w10.alloc (.cells #[.slice do_ (dropI k X).length dc, .slice dg G.length dd] 26)).cell? ⟨w10.heap.size, 0, none⟩ = some (.slice do_ (dropI k X).length dc) := by go_cell
    have e1_11 : (w10.alloc (.cells #[.slice do_ (dropI k X).length dc, .slice dg G.length dd] 26)).cell? ⟨w10.heap.size, 1, none⟩ = some (.slice dg G.length dd) := by go_cell
    have el_11 : w10.heap.size < (w10.alloc (.cells #[.slice do_ (dropI k X).length dc, .slice dg G.length dd] 26)).heap.size := by simp
    have d11 : Below w10.heap.size w10 (w10.alloc (.cells #[.slice do_ (dropI k X).length dc, .slice dg G.length dd] 26)) := by go_grown
    generalize (w10.alloc (.cells #[.slice do_ (dropI k X).length dc, .slice dg G.length dd] 26)) = w11 at e0_11 e1_11 el_11 d11 ⊢
    have c11 : Below w.heap.size w w11 := c10.trans (d11.mono c10.size)
    have c0_11 : w11.cell? ⟨w1.heap.size, 0, none⟩ = some (.slice io I.length ic) := (by rw [d11.cell (by first | omega | (simp; done) | (simp; omega))]; go_cell)
    have c1_11 : w11.cell? ⟨w1.heap.size, 1, none⟩ = some (.slice fo F.length fc) := (by rw [d11.cell (by first | omega | (simp; done) | (simp; omega))]; go_cell)
    have cl_11 : w1.heap.size < w11.heap.size := (by have := d11.size; omega)
    have t0_11 : w11.cell? ⟨w1.heap.size + 1, 0, none⟩ = some (.int .i64 k) := (by rw [d11.cell (by first | omega | (simp; done) | (simp; omega))]; go_cell)
    have t1_11 : w11.cell? ⟨w1.heap.size + 1, 1, none⟩ = some (.int .i64 p) := (by rw [d11.cell (by first | omega | (simp; done) | (simp; omega))]; go_cell)
    have t2_11 : w11.cell? ⟨w1.heap.size + 1, 2, none⟩ = some (.int .i64 m) := (by rw [d11.cell (by first | omega | (simp; done) | (simp; omega))]; go_cell)
    have t3_11 : w11.cell? ⟨w1.heap.size + 1, 3, none⟩ = some (.slice uo l.length uc) := (by rw [d11.cell (by first | omega | (simp; done) | (simp; omega))]; go_cell)
    have tl_11 : w1.heap.size + 1 < w11.heap.size := (by have := d11.size; omega)
    have x0_11 : w11.cell? ⟨w4.heap.size, 0, none⟩ = some (.slice (some ⟨bx, ox, none⟩) X.length xc) := (by rw [d11.cell (by first | omega | (simp; done) | (simp; omega))]; go_cell)
    have x1_11 : w11.cell? ⟨w4.heap.size, 1, none⟩ = some (.slice xg G.length xd) := (by rw [d11.cell (by first | omega | (simp; done) | (simp; omega))]; go_cell)
    have xl_11 : w4.heap.size < w11.heap.size := (by have := d11.size; omega)
    have y0_11 : w11.cell? ⟨w8.heap.size, 0, none⟩ = some (.slice yo X.length yc) := (by rw [d11.cell (by first | omega | (simp; done) | (simp; omega))]; go_cell)
    have y1_11 : w11.cell? ⟨w8.heap.size, 1, none⟩ = some (.slice yg G.length yd) := (by rw [d11.cell (by first | omega | (simp; done) | (simp; omega))]; go_cell)
    have yl_11 : w8.heap.size < w11.heap.size := (by have := d11.size; omega)
    clear c0_10 c1_10 cl_10 t0_10 t1_10 t2_10 t3_10 tl_10 x0_10 x1_10 xl_10 y0_10 y1_10 yl_10
    have HC_11 := hid (HC_10.out.later d11)
    have HU_11 := hid (HU_10.out.later d11)
    have HX_11 := hid (HX_10.out.later d11)
    have HY_11 := hid (HY_10.out.later d11)
    have HE_11 := hid (HE_10.out.later d11)
    have kc_11 := (d11.cell (p := ⟨bx, ox, none⟩) kl_10).trans kc_10
    have kl_11 : (⟨bx, ox, none⟩ : Addr).block < w11.heap.size := Nat.lt_of_lt_of_le kl_10 d11.size
    clear d11 HC_10 HU_10 HX_10 HY_10 HE_10 kc_10 kl_10
    refine (J3 _ _ _ HE_11.out HU_11.out).mono ?_
    rintro e w12 ⟨⟨zo, zg, zc, zd, rfl, hy⟩, b12⟩
    have d12 : Below w11.heap.size w11 w12 := (Below.trans (by go_grown) (b12.mono (by first | omega | (simp; done) | (simp; omega))))
    have c12 : Below w.heap.size w w12 := c11.trans (d12.mono c11.size)
    have c0_12 : w12.cell? ⟨w1.heap.size, 0, none⟩ = some (.slice io I.length ic) := (by rw [b12.cell (by first | omega | (simp; done) | (simp; omega))]; go_cell)
    have c1_12 : w12.cell? ⟨w1.heap.size, 1, none⟩ = some (.slice fo F.length fc) := (by rw [b12.cell (by first | omega | (simp; done) | (simp; omega))]; go_cell)
    have cl_12 : w1.heap.size < w12.heap.size := (by have := b12.size; first | omega | (revert this; simp; done) | (revert this; simp; omega))
    have t0_12 : w12.cell? ⟨w1.heap.size + 1, 0, none⟩ = some (.int .i64 k) := (by rw [b12.cell (by first | omega | (simp; done) | (simp; omega))]; go_cell)
    have t1_12 : w12.cell? ⟨w1.heap.size + 1, 1, none⟩ = some (.int .i64 p) := (by rw [b12.cell (by first | omega | (simp; done) | (simp; omega))]; go_cell)
    have t2_12 : w12.cell? ⟨w1.heap.size + 1, 2, none⟩ = some (.int .i64 m) := (by rw [b12.cell (by first | omega | (simp; done) | (simp; omega))]; go_cell)
    have t3_12 : w12.cell? ⟨w1.heap.size + 1, 3, none⟩ = some (.slice uo l.length uc) := (by rw [b12.cell (by first | omega | (simp; done) | (simp; omega))]; go_cell)
    have tl_12 : w1.heap.size + 1 < w12.heap.size := (by have := b12.size; first | omega | (revert this; simp; done) | (revert this; simp; omega))
    have x0_12 : w12.cell? ⟨w4.heap.size, 0, none⟩ = some (.slice (some ⟨bx, ox, none⟩) X.length xc) := (by rw [b12.cell (by first | omega | (simp; done) | (simp; omega))]; go_cell)
    have x1_12 : w12.cell? ⟨w4.heap.size, 1, none⟩ = some (.slice xg G.length xd) := (by rw [b12.cell (by first | omega | (simp; done) | (simp; omega))]; go_cell)
    have xl_12 : w4.heap.size < w12.heap.size := (by have := b12.size; first | omega | (revert this; simp; done) | (revert this; simp; omega))
    have y0_12 : w12.cell? ⟨w8.heap.size, 0, none⟩ = some (.slice yo X.length yc) := (by rw [b12.cell (by first | omega | (simp; done) | (simp; omega))]; go_cell)
    have y1_12 : w12.cell? ⟨w8.heap.size, 1, none⟩ = some (.slice yg G.length yd) := (by rw [b12.cell (by first | omega | (simp; done) | (simp; omega))]; go_cell)
    have yl_12 : w8.heap.size < w12.heap.size := (by have := b12.size; first | omega | (revert this; simp; done) | (revert this; simp; omega))
    have e0_12 : w12.cell? ⟨w10.heap.size, 0, none⟩ = some (.slice do_ (dropI k X).length dc) := (by rw [b12.cell (by first | omega | (simp; done) | (simp; omega))]; go_cell)
    have e1_12 : w12.cell? ⟨w10.heap.size, 1, none⟩ = some (.slice dg G.length dd) := (by rw [b12.cell (by first | omega | (simp; done) | (simp; omega))]; go_cell)
    have el_12 : w10.heap.size < w12.heap.size := (by have := b12.size; first | omega | (revert this; simp; done) | (revert this; simp; omega))
    clear c0_11 c1_11 cl_11 t0_11 t1_11 t2_11 t3_11 tl_11 x0_11 x1_11 xl_11 y0_11 y1_11 yl_11 e0_11 e1_11 el_11
    have HC_12 := hid (HC_11.out.later d12)
    have HU_12 := hid (HU_11.out.later d12)
    have HX_12 := hid (HX_11.out.later d12)
    have HY_12 := hid (HY_11.out.later d12)
    have HE_12 := hid (HE_11.out.later d12)
    have kc_12 := (d12.cell (p := ⟨bx, ox, none⟩) kl_11).trans kc_11
    have kl_12 : (⟨bx, ox, none⟩ : Addr).block < w12.heap.size := Nat.lt_of_lt_of_le kl_11 d12.size
    clear d12 b12 HC_11 HU_11 HX_11 HY_11 HE_11 kc_11 kl_11
    have HZ_12 := hid hy
    clear hy
    go_wp2_with fail
    have z0_13 : (w12.alloc (.cells #[.slice zo X.length zc, .slice zg G.length zd] 26)).cell? ⟨w12.heap.size, 0, none⟩ = some (.slice zo X.length zc) := by go_cell
    have z1_13 : (w12.alloc (.cells #[.slice zo X.length zc, .slice zg G.length zd] 26)).cell? ⟨w12.heap.size, 1, none⟩ = some (.slice zg G.length zd) := by go_cell
    have zl_13 : w12.heap.size < (w12.alloc (.cells #[.slice zo X.length zc, .slice zg G.length zd] 26)).heap.size := by simp
    have d13 : Below w12.heap.size w12 (w12.alloc (.cells #[.slice zo X.length zc, .slice zg G.length zd] 26)) := by go_grown
    generalize (w12.alloc (.cells #[.slice zo X.length zc, .slice zg G.length zd] 26)) = w13 at z0_13 z1_13 zl_13 d13 ⊢
    have c13 : Below w.heap.size w w13 := c12.trans (d13.mono c12.size)
    have c0_13 : w13.cell? ⟨w1.heap.size, 0, none⟩ = some (.slice io I.length ic) := (by rw [d13.cell (by first | omega | (simp; done) | (simp; omega))]; go_cell)
    have c1_13 : w13.cell? ⟨w1.heap.size, 1, none⟩ = some (.slice fo F.length fc) := (by rw [d13.cell (by first | omega | (simp; done) | (simp; omega))]; go_cell)
    have cl_13 : w1.heap.size < w13.heap.size := (by have := d13.size; omega)
    have t0_13 : w13.cell? ⟨w1.heap.size + 1, 0, none⟩ = some (.int .i64 k) := (by rw [d13.cell (by first | omega | (simp; done) | (simp; omega))]; go_cell)
    have t1_13 : w13.cell? ⟨w1.heap.size + 1, 1, none⟩ = some (.int .i64 p) := (by rw [d13.cell (by first | omega | (simp; done) | (simp; omega))]; go_cell)
    have t2_13 : w13.cell? ⟨w1.heap.size + 1, 2, none⟩ = some (.int .i64 m) := (by rw [d13.cell (by first | omega | (simp; done) | (simp; omega))]; go_cell)
    have t3_13 : w13.cell? ⟨w1.heap.size + 1, 3, none⟩ = some (.slice uo l.length uc) := (by rw [d13.cell (by first | omega | (simp; done) | (simp; omega))]; go_cell)
    have tl_13 : w1.heap.size + 1 < w13.heap.size := (by have := d13.size; omega)
    have x0_13 : w13.cell? ⟨w4.heap.size, 0, none⟩ = some (.slice (some ⟨bx, ox, none⟩) X.length xc) := (by rw [d13.cell (by first | omega | (simp; done) | (simp; omega))]; go_cell)
    have x1_13 : w13.cell? ⟨w4.heap.size, 1, none⟩ = some (.slice xg G.length xd) := (by rw [d13.cell (by first | omega | (simp; done) | (simp; omega))]; go_cell)
    have xl_13 : w4.heap.size < w13.heap.size := (by have := d13.size; omega)
    have y0_13 : w13.cell? ⟨w8.heap.size, 0, none⟩ = some (.slice yo X.length yc) := (by rw [d13.cell (by first | omega | (simp; done) | (simp; omega))]; go_cell)
    have y1_13 : w13.cell? ⟨w8.heap.size, 1, none⟩ = some (.slice yg G.length yd) := (by rw [d13.cell (by first | omega | (simp; done) | (simp; omega))]; go_cell)
    have yl_13 : w8.heap.size < w13.heap.size := (by have := d13.size; omega)
    have e0_13 : w13.cell? ⟨w10.heap.size, 0, none⟩ = some (.slice do_ (dropI k X).length dc) := (by rw [d13.cell (by first | omega | (simp; done) | (simp; omega))]; go_cell)
    have e1_13 : w13.cell? ⟨w10.heap.size, 1, none⟩ = some (.slice dg G.length dd) := (by rw [d13.cell (by first | omega | (simp; done) | (simp; omega))]; go_cell)
    have el_13 : w10.heap.size < w13.heap.size := (by have := d13.size; omega)
    clear c0_12 c1_12 cl_12 t0_12 t1_12 t2_12 t3_12 tl_12 x0_12 x1_12 xl_12 y0_12 y1_12 yl_12 e0_12 e1_12 el_12
    have HC_13 := hid (HC_12.out.later d13)
    have HU_13 := hid (HU_12.out.later d13)
    have HX_13 := hid (HX_12.out.later d13)
    have HY_13 := hid (HY_12.out.later d13)
    have HE_13 := hid (HE_12.out.later d13)
    have HZ_13 := hid (HZ_12.out.later d13)
    have kc_13 := (d13.cell (p := ⟨bx, ox, none⟩) kl_12).trans kc_12
    have kl_13 : (⟨bx, ox, none⟩ : Addr).block < w13.heap.size := Nat.lt_of_lt_of_le kl_12 d13.size
    clear d13 HC_12 HU_12 HX_12 HY_12 HE_12 HZ_12 kc_12 kl_12
    refine (J4 _ _ _ HE_13.out).mono ?_
    rintro e w14 ⟨⟨qa, qc, rfl⟩, b14⟩
    have d14 : Below w13.heap.size w13 w14 := (Below.trans (by go_grown) (b14.mono (by first | omega | (simp; done) | (simp; omega))))
    have c14 : Below w.heap.size w w14 := c13.trans (d14.mono c13.size)
    have c0_14 : w14.cell? ⟨w1.heap.size, 0, none⟩ = some (.slice io I.length ic) := (by rw [b14.cell (by first | omega | (simp; done) | (simp; omega))]; go_cell)
    have c1_14 : w14.cell? ⟨w1.heap.size, 1, none⟩ = some (.slice fo F.length fc) := (by rw [b14.cell (by first | omega | (simp; done) | (simp; omega))]; go_cell)
    have cl_14 : w1.heap.size < w14.heap.size := (by have := b14.size; first | omega | (revert this; simp; done) | (revert this; simp; omega))
    have t0_14 : w14.cell? ⟨w1.heap.size + 1, 0, none⟩ = some (.int .i64 k) := (by rw [b14.cell (by first | omega | (simp; done) | (simp; omega))]; go_cell)
    have t1_14 : w14.cell? ⟨w1.heap.size + 1, 1, none⟩ = some (.int .i64 p) := (by rw [b14.cell (by first | omega | (simp; done) | (simp; omega))]; go_cell)
    have t2_14 : w14.cell? ⟨w1.heap.size + 1, 2, none⟩ = some (.int .i64 m) := (by rw [b14.cell (by first | omega | (simp; done) | (simp; omega))]; go_cell)
    have t3_14 : w14.cell? ⟨w1.heap.size + 1, 3, none⟩ = some (.slice uo l.length uc) := (by rw [b14.cell (by first | omega | (simp; done) | (simp; omega))]; go_cell)
    have tl_14 : w1.heap.size + 1 < w14.heap.size := (by have := b14.size; first | omega | (revert this; simp; done) | (revert this; simp; omega))
    have x0_14 : w14.cell? ⟨w4.heap.size, 0, none⟩ = some (.slice (some ⟨bx, ox, none⟩) X.length xc) := (by rw [b14.cell (by first | omega | (simp; done) | (simp; omega))]; go_cell)
    have x1_14 : w14.cell? ⟨w4.heap.size, 1, none⟩ = some (.slice xg G.length xd) := (by rw [b14.cell (by first | omega | (simp; done) | (simp; omega))]; go_cell)
    have xl_14 : w4.heap.size < w14.heap.size := (by have := b14.size; first | omega | (revert this; simp; done) | (revert this; simp; omega))
    have y0_14 : w14.cell? ⟨w8.heap.size, 0, none⟩ = some (.slice yo X.length yc) := (by rw [b14.cell (by first | omega | (simp; done) | (simp; omega))]; go_cell)
    have y1_14 : w14.cell? ⟨w8.heap.size, 1, none⟩ = some (.slice yg G.length yd) := (by rw [b14.cell (by first | omega | (simp; done) | (simp; omega))]; go_cell)
    have yl_14 : w8.heap.size < w14.heap.size := (by have := b14.size; first | omega | (revert this; simp; done) | (revert this; simp; omega))
    have e0_14 : w14.cell? ⟨w10.heap.size, 0, none⟩ = some (.slice do_ (dropI k X).length dc) := (by rw [b14.cell (by first | omega | (simp; done) | (simp; omega))]; go_cell)
    have e1_14 : w14.cell? ⟨w10.heap.size, 1, none⟩ = some (.slice dg G.length dd) := (by rw [b14.cell (by first | omega | (simp; done) | (simp; omega))]; go_cell)
    have el_14 : w10.heap.size < w14.heap.size := (by have := b14.size; first | omega | (revert this; simp; done) | (revert this; simp; omega))
    have z0_14 : w14.cell? ⟨w12.heap.size, 0, none⟩ = some (.slice zo X.length zc) := (by rw [b14.cell (by first | omega | (simp; done) | (simp; omega))]; go_cell)
    have z1_14 : w14.cell? ⟨w12.heap.size, 1, none⟩ = some (.slice zg G.length zd) := (by rw [b14.cell (by first | omega | (simp; done) | (simp; omega))]; go_cell)
    have zl_14 : w12.heap.size < w14.heap.size := (by have := b14.size; first | omega | (revert this; simp; done) | (revert this; simp; omega))
    clear c0_13 c1_13 cl_13 t0_13 t1_13 t2_13 t3_13 tl_13 x0_13 x1_13 xl_13 y0_13 y1_13 yl_13 e0_13 e1_13 el_13 z0_13 z1_13 zl_13
    have HC_14 := hid (HC_13.out.later d14)
    have HU_14 := hid (HU_13.out.later d14)
    have HX_14 := hid (HX_13.out.later d14)
    have HY_14 := hid (HY_13.out.later d14)
    have HE_14 := hid (HE_13.out.later d14)
    have HZ_14 := hid (HZ_13.out.later d14)
    have kc_14 := (d14.cell (p := ⟨bx, ox, none⟩) kl_13).trans kc_13
    have kl_14 : (⟨bx, ox, none⟩ : Addr).block < w14.heap.size := Nat.lt_of_lt_of_le kl_13 d14.size
    clear d14 b14 HC_13 HU_13 HX_13 HY_13 HE_13 HZ_13 kc_13 kl_13
    clear J1 J2 J3 J4
    go_upto_region 12 with fail
    have q0_15 : (w14.alloc (.cells #[.int .i64 0, .int .i64 0, .int .i64 0, .slice qa 0 qc] 33)).cell? ⟨w14.heap.size, 0, none⟩ = some (.int .i64 0) := by go_cell
    have q1_15 : (w14.alloc (.cells #[.int .i64 0, .int .i64 0, .int .i64 0, .slice qa 0 qc] 33)).cell? ⟨w14.heap.size, 1, none⟩ = some (.int .i64 0) := by go_cell
    have q2_15 : (w14.alloc (.cells #[.int .i64 0, .int .i64 0, .int .i64 0, .slice qa 0 qc] 33)).cell? ⟨w14.heap.size, 2, none⟩ = some (.int .i64 0) := by go_cell
    have q3_15 : (w14.alloc (.cells #[.int .i64 0, .int .i64 0, .int .i64 0, .slice qa 0 qc] 33)).cell? ⟨w14.heap.size, 3, none⟩ = some (.slice qa 0 qc) := by go_cell
    have ql_15 : w14.heap.size < (w14.alloc (.cells #[.int .i64 0, .int .i64 0, .int .i64 0, .slice qa 0 qc] 33)).heap.size := by simp
    have d15 : Below w14.heap.size w14 (w14.alloc (.cells #[.int .i64 0, .int .i64 0, .int .i64 0, .slice qa 0 qc] 33)) := by go_grown
    generalize (w14.alloc (.cells #[.int .i64 0, .int .i64 0, .int .i64 0, .slice qa 0 qc] 33)) = w15 at q0_15 q1_15 q2_15 q3_15 ql_15 d15 ⊢
    have c15 : Below w.heap.size w w15 := c14.trans (d15.mono c14.size)
    have c0_15 : w15.cell? ⟨w1.heap.size, 0, none⟩ = some (.slice io I.length ic) := (by rw [d15.cell (by first | omega | (simp; done) | (simp; omega))]; go_cell)
    have c1_15 : w15.cell? ⟨w1.heap.size, 1, none⟩ = some (.slice fo F.length fc) := (by rw [d15.cell (by first | omega | (simp; done) | (simp; omega))]; go_cell)
    have cl_15 : w1.heap.size < w15.heap.size := (by have := d15.size; omega)
    have t0_15 : w15.cell? ⟨w1.heap.size + 1, 0, none⟩ = some (.int .i64 k) := (by rw [d15.cell (by first | omega | (simp; done) | (simp; omega))]; go_cell)
    have t1_15 : w15.cell? ⟨w1.heap.size + 1, 1, none⟩ = some (.int .i64 p) := (by rw [d15.cell (by first | omega | (simp; done) | (simp; omega))]; go_cell)
    have t2_15 : w15.cell? ⟨w1.heap.size + 1, 2, none⟩ = some (.int .i64 m) := (by rw [d15.cell (by first | omega | (simp; done) | (simp; omega))]; go_cell)
    have t3_15 : w15.cell? ⟨w1.heap.size + 1, 3, none⟩ = some (.slice uo l.length uc) := (by rw [d15.cell (by first | omega | (simp; done) | (simp; omega))]; go_cell)
    have tl_15 : w1.heap.size + 1 < w15.heap.size := (by have := d15.size; omega)
    have x0_15 : w15.cell? ⟨w4.heap.size, 0, none⟩ = some (.slice (some ⟨bx, ox, none⟩) X.length xc) := (by rw [d15.cell (by first | omega | (simp; done) | (simp; omega))]; go_cell)
    have x1_15 : w15.cell? ⟨w4.heap.size, 1, none⟩ = some (.slice xg G.length xd) := (by rw [d15.cell (by first | omega | (simp; done) | (simp; omega))]; go_cell)
    have xl_15 : w4.heap.size < w15.heap.size := (by have := d15.size; omega)
    have y0_15 : w15.cell? ⟨w8.heap.size, 0, none⟩ = some (.slice yo X.length yc) := (by rw [d15.cell (by first | omega | (simp; done) | (simp; omega))]; go_cell)
    have y1_15 : w15.cell? ⟨w8.heap.size, 1, none⟩ = some (.slice yg G.length yd) := (by rw [d15.cell (by first | omega | (simp; done) | (simp; omega))]; go_cell)
    have yl_15 : w8.heap.size < w15.heap.size := (by have := d15.size; omega)
    have e0_15 : w15.cell? ⟨w10.heap.size, 0, none⟩ = some (.slice do_ (dropI k X).length dc) := (by rw [d15.cell (by first | omega | (simp; done) | (simp; omega))]; go_cell)
    have e1_15 : w15.cell? ⟨w10.heap.size, 1, none⟩ = some (.slice dg G.length dd) := (by rw [d15.cell (by first | omega | (simp; done) | (simp; omega))]; go_cell)
    have el_15 : w10.heap.size < w15.heap.size := (by have := d15.size; omega)
    have z0_15 : w15.cell? ⟨w12.heap.size, 0, none⟩ = some (.slice zo X.length zc) := (by rw [d15.cell (by first | omega | (simp; done) | (simp; omega))]; go_cell)
    have z1_15 : w15.cell? ⟨w12.heap.size, 1, none⟩ = some (.slice zg G.length zd) := (by rw [d15.cell (by first | omega | (simp; done) | (simp; omega))]; go_cell)
    have zl_15 : w12.heap.size < w15.heap.size := (by have := d15.size; omega)
    clear c0_14 c1_14 cl_14 t0_14 t1_14 t2_14 t3_14 tl_14 x0_14 x1_14 xl_14 y0_14 y1_14 yl_14 e0_14 e1_14 el_14 z0_14 z1_14 zl_14
    have HC_15 := hid (HC_14.out.later d15)
    have HU_15 := hid (HU_14.out.later d15)
    have HX_15 := hid (HX_14.out.later d15)
    have HY_15 := hid (HY_14.out.later d15)
    have HE_15 := hid (HE_14.out.later d15)
    have HZ_15 := hid (HZ_14.out.later d15)
    have kc_15 := (d15.cell (p := ⟨bx, ox, none⟩) kl_14).trans kc_14
    have kl_15 : (⟨bx, ox, none⟩ : Addr).block < w15.heap.size := Nat.lt_of_lt_of_le kl_14 d15.size
    clear d15 HC_14 HU_14 HX_14 HY_14 HE_14 HZ_14 kc_14 kl_14
    have Qx0 := cell_regrown x0_15
    have Qx1 := cell_regrown x1_15
    have Qy0 := cell_regrown y0_15
    have Qy1 := cell_regrown y1_15
    have Qz0 := cell_regrown z0_15
    have Qz1 := cell_regrown z1_15
    have Qt0 := cell_regrown t0_15
    have Qkc := cell_regrown kc_15
    refine wp_region_quiet_below (by kernel_rfl) (by kernel_rfl) ?_
    repeat (first | go_big_quiet_skip | (go_big_quiet_want; go_big_quiet_op; first | go_big_quiet_on | go_big_quiet_call (first | (go_at_call 17; with_reducible exact Calls.regrown_of (csame_is (HX_15.out.later (below_regrown _ _ _)) (HY_15.out.later (below_regrown _ _ _)))) | (go_at_call 17; exact Calls.regrown_of (csame_is (HX_15.out.later (below_regrown _ _ _)) (HZ_15.out.later (below_regrown _ _ _)))))))
    refine wpQuiet_nil ?_
    rintro wq ⟨pq, hwq⟩
    have hq : Below w15.heap.size w15 wq := by rw [hwq]; exact below_regrown _ _ _
    clear hwq pq
    have cz : Below w.heap.size w wq := c15.trans (hq.mono c15.size)
    go_wp2
    go_ret
    exact ⟨by simp, cz⟩
end Go.Proofs.Ytiebfechhgapiaa
