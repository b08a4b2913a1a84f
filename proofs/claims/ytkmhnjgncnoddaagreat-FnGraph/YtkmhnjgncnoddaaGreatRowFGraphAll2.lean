/- Proved here: FnGraph returns true for every slice of bytes (no condition); what it was handed reads as before. -/
import Derived.Test.YtkmhnjgncnoddaaGreatRowFGraphAll1
import Derived.Test.YtkmhnjgncnoddaaGreatRowFGraphAll0
import Derived.BigQuiet
import Derived.Lib.QuietBelow
import Derived.Test.YtkmhnjgncnoddaaGreatRows
import Derived.WalkKit
import Derived.ProofKit
import Derived.Test.YtkmhnjgncnoddaaGreatDk
import Derived.OpenShut
import Derived.Deep.SlicePairs
/- Part: The law FnGraph: its walk. Written by a program (gfg.py). -/
namespace Go.Proofs.YtkmhnjgncnoddaaGreat
open Go.RowKit
attribute [local go_sem ↓] Go.wp_at_zero Go.wp_at_succ

set_option maxRecDepth 100000 in
set_option maxHeartbeats 8000000 in
theorem lawFGraph_any (v : Value) (n : Nat) (w : World) (h : Bs w v n) :
    Calls Tryz.prog 3 #[v] w fun e w' => e = .returned (.bool true) ∧ Below w.heap.size w w' := by
  have HB1 := hid h
  obtain ⟨ao, cap, hv, h0, _⟩ := h
  subst hv
  unfold maxLen at h0
  by_cases hbig : 1048576 < n
  · go_enter Tryz.func3, Tryz.ntmps3
    go_wp2
    go_ret
    exact ⟨rfl, Below.refl _ _⟩
  go_enter Tryz.func3, Tryz.ntmps3
  go_wp2_with fail
  refine (drawGraphDo_any _ n _ HB1.out).mono ?_
  rintro e w1 ⟨⟨L, uo, uc, k, a, b, x, rfl, hg⟩, c1⟩
  have HL_1 := hid hg
  clear hg
  go_wp2_with fail
  have g0_2 : (w1.alloc (.cells #[.slice uo L.length uc] 25)).cell? ⟨w1.heap.size, 0, none⟩ = some (.slice uo L.length uc) := by go_cell
  have gl_2 : w1.heap.size < (w1.alloc (.cells #[.slice uo L.length uc] 25)).heap.size := by simp
  have d2 : Below w1.heap.size w1 (w1.alloc (.cells #[.slice uo L.length uc] 25)) := by go_grown
  have sz2 : (w1.alloc (.cells #[.slice uo L.length uc] 25)).heap.size = w1.heap.size + 1 := by simp
  generalize (w1.alloc (.cells #[.slice uo L.length uc] 25)) = w2 at g0_2 gl_2 d2 sz2 ⊢
  have c2 : Below w.heap.size w w2 := c1.trans (d2.mono c1.size)
  have HL_2 := hid (HL_1.out.later d2)
  clear d2 HL_1
  have o0_3 : (w2.alloc (.cells #[.int .i64 k, .int .i64 a, .int .i64 b, .int .i64 x] 27)).cell? ⟨w2.heap.size, 0, none⟩ = some (.int .i64 k) := by go_cell
  have o1_3 : (w2.alloc (.cells #[.int .i64 k, .int .i64 a, .int .i64 b, .int .i64 x] 27)).cell? ⟨w2.heap.size, 1, none⟩ = some (.int .i64 a) := by go_cell
  have o2_3 : (w2.alloc (.cells #[.int .i64 k, .int .i64 a, .int .i64 b, .int .i64 x] 27)).cell? ⟨w2.heap.size, 2, none⟩ = some (.int .i64 b) := by go_cell
  have o3_3 : (w2.alloc (.cells #[.int .i64 k, .int .i64 a, .int .i64 b, .int .i64 x] 27)).cell? ⟨w2.heap.size, 3, none⟩ = some (.int .i64 x) := by go_cell
  have ol_3 : w2.heap.size < (w2.alloc (.cells #[.int .i64 k, .int .i64 a, .int .i64 b, .int .i64 x] 27)).heap.size := by simp
  have d3 : Below w2.heap.size w2 (w2.alloc (.cells #[.int .i64 k, .int .i64 a, .int .i64 b, .int .i64 x] 27)) := by go_grown
  generalize (w2.alloc (.cells #[.int .i64 k, .int .i64 a, .int .i64 b, .int .i64 x] 27)) = w3 at o0_3 o1_3 o2_3 o3_3 ol_3 d3 ⊢
  have c3 : Below w.heap.size w w3 := c2.trans (d3.mono c2.size)
  have g0_3 : w3.cell? ⟨w1.heap.size, 0, none⟩ = some (.slice uo L.length uc) := (by rw [d3.cell (by first | omega | (simp; done) | (simp; omega))]; go_cell)
  have gl_3 : w1.heap.size < w3.heap.size := (by have := d3.size; omega)
  clear g0_2 gl_2
  have HL_3 := hid (HL_2.out.later d3)
  clear d3 HL_2
  rw [sz2] at o0_3 o1_3 o2_3 o3_3 ol_3
  clear sz2
  clear HB1
  cases hok : okG L with
  | false =>
    have hokh := hid hok
    clear hok
    go_wp2_with fail
    refine (implGDo_not _ L k a b x _ HL_3.out hokh.out).mono ?_
    rintro e w4 ⟨rfl, b4⟩
    have d4 : Below w3.heap.size w3 w4 := (Below.trans (by go_grown) (b4.mono (by first | omega | (simp; done) | (simp; omega))))
    have c4 : Below w.heap.size w w4 := c3.trans (d4.mono c3.size)
    have g0_4 : w4.cell? ⟨w1.heap.size, 0, none⟩ = some (.slice uo L.length uc) := (by rw [b4.cell (by first | omega | (simp; done) | (simp; omega))]; go_cell)
    have gl_4 : w1.heap.size < w4.heap.size := (by have := b4.size; first | omega | (revert this; simp; done) | (revert this; simp; omega))
    have o0_4 : w4.cell? ⟨w1.heap.size + 1, 0, none⟩ = some (.int .i64 k) := (by rw [b4.cell (by first | omega | (simp; done) | (simp; omega))]; go_cell)
    have o1_4 : w4.cell? ⟨w1.heap.size + 1, 1, none⟩ = some (.int .i64 a) := (by rw [b4.cell (by first | omega | (simp; done) | (simp; omega))]; go_cell)
    have o2_4 : w4.cell? ⟨w1.heap.size + 1, 2, none⟩ = some (.int .i64 b) := (by rw [b4.cell (by first | omega | (simp; done) | (simp; omega))]; go_cell)
    have o3_4 : w4.cell? ⟨w1.heap.size + 1, 3, none⟩ = some (.int .i64 x) := (by rw [b4.cell (by first | omega | (simp; done) | (simp; omega))]; go_cell)
    have ol_4 : w1.heap.size + 1 < w4.heap.size := (by have := b4.size; first | omega | (revert this; simp; done) | (revert this; simp; omega))
    clear g0_3 gl_3 o0_3 o1_3 o2_3 o3_3 ol_3
    have HL_4 := hid (HL_3.out.later d4)
    clear d4 b4 HL_3
    go_wp2_with fail
    have x0_5 : (w4.alloc (.cells #[.slice none 0 0] 25)).cell? ⟨w4.heap.size, 0, none⟩ = some (.slice none 0 0) := by go_cell
    have xl_5 : w4.heap.size < (w4.alloc (.cells #[.slice none 0 0] 25)).heap.size := by simp
    have d5 : Below w4.heap.size w4 (w4.alloc (.cells #[.slice none 0 0] 25)) := by go_grown
    generalize (w4.alloc (.cells #[.slice none 0 0] 25)) = w5 at x0_5 xl_5 d5 ⊢
    have c5 : Below w.heap.size w w5 := c4.trans (d5.mono c4.size)
    have g0_5 : w5.cell? ⟨w1.heap.size, 0, none⟩ = some (.slice uo L.length uc) := (by rw [d5.cell (by first | omega | (simp; done) | (simp; omega))]; go_cell)
    have gl_5 : w1.heap.size < w5.heap.size := (by have := d5.size; omega)
    have o0_5 : w5.cell? ⟨w1.heap.size + 1, 0, none⟩ = some (.int .i64 k) := (by rw [d5.cell (by first | omega | (simp; done) | (simp; omega))]; go_cell)
    have o1_5 : w5.cell? ⟨w1.heap.size + 1, 1, none⟩ = some (.int .i64 a) := (by rw [d5.cell (by first | omega | (simp; done) | (simp; omega))]; go_cell)
    have o2_5 : w5.cell? ⟨w1.heap.size + 1, 2, none⟩ = some (.int .i64 b) := (by rw [d5.cell (by first | omega | (simp; done) | (simp; omega))]; go_cell)
    have o3_5 : w5.cell? ⟨w1.heap.size + 1, 3, none⟩ = some (.int .i64 x) := (by rw [d5.cell (by first | omega | (simp; done) | (simp; omega))]; go_cell)
    have ol_5 : w1.heap.size + 1 < w5.heap.size := (by have := d5.size; omega)
    clear g0_4 gl_4 o0_4 o1_4 o2_4 o3_4 ol_4
    have HL_5 := hid (HL_4.out.later d5)
    clear d5 HL_4
    refine (specGDo_not _ L k a b x _ HL_5.out hokh.out).mono ?_
    rintro e w6 ⟨rfl, b6⟩
    have d6 : Below w5.heap.size w5 w6 := (Below.trans (by go_grown) (b6.mono (by first | omega | (simp; done) | (simp; omega))))
    have c6 : Below w.heap.size w w6 := c5.trans (d6.mono c5.size)
    have g0_6 : w6.cell? ⟨w1.heap.size, 0, none⟩ = some (.slice uo L.length uc) := (by rw [b6.cell (by first | omega | (simp; done) | (simp; omega))]; go_cell)
    have gl_6 : w1.heap.size < w6.heap.size := (by have := b6.size; first | omega | (revert this; simp; done) | (revert this; simp; omega))
    have o0_6 : w6.cell? ⟨w1.heap.size + 1, 0, none⟩ = some (.int .i64 k) := (by rw [b6.cell (by first | omega | (simp; done) | (simp; omega))]; go_cell)
    have o1_6 : w6.cell? ⟨w1.heap.size + 1, 1, none⟩ = some (.int .i64 a) := (by rw [b6.cell (by first | omega | (simp; done) | (simp; omega))]; go_cell)
    have o2_6 : w6.cell? ⟨w1.heap.size + 1, 2, none⟩ = some (.int .i64 b) := (by rw [b6.cell (by first | omega | (simp; done) | (simp; omega))]; go_cell)
    have o3_6 : w6.cell? ⟨w1.heap.size + 1, 3, none⟩ = some (.int .i64 x) := (by rw [b6.cell (by first | omega | (simp; done) | (simp; omega))]; go_cell)
    have ol_6 : w1.heap.size + 1 < w6.heap.size := (by have := b6.size; first | omega | (revert this; simp; done) | (revert this; simp; omega))
    have x0_6 : w6.cell? ⟨w4.heap.size, 0, none⟩ = some (.slice none 0 0) := (by rw [b6.cell (by first | omega | (simp; done) | (simp; omega))]; go_cell)
    have xl_6 : w4.heap.size < w6.heap.size := (by have := b6.size; first | omega | (revert this; simp; done) | (revert this; simp; omega))
    clear g0_5 gl_5 o0_5 o1_5 o2_5 o3_5 ol_5 x0_5 xl_5
    have HL_6 := hid (HL_5.out.later d6)
    clear d6 b6 HL_5
    go_wp2_with fail
    have y0_7 : (w6.alloc (.cells #[.slice none 0 0] 25)).cell? ⟨w6.heap.size, 0, none⟩ = some (.slice none 0 0) := by go_cell
    have yl_7 : w6.heap.size < (w6.alloc (.cells #[.slice none 0 0] 25)).heap.size := by simp
    have d7 : Below w6.heap.size w6 (w6.alloc (.cells #[.slice none 0 0] 25)) := by go_grown
    generalize (w6.alloc (.cells #[.slice none 0 0] 25)) = w7 at y0_7 yl_7 d7 ⊢
    have c7 : Below w.heap.size w w7 := c6.trans (d7.mono c6.size)
    have g0_7 : w7.cell? ⟨w1.heap.size, 0, none⟩ = some (.slice uo L.length uc) := (by rw [d7.cell (by first | omega | (simp; done) | (simp; omega))]; go_cell)
    have gl_7 : w1.heap.size < w7.heap.size := (by have := d7.size; omega)
    have o0_7 : w7.cell? ⟨w1.heap.size + 1, 0, none⟩ = some (.int .i64 k) := (by rw [d7.cell (by first | omega | (simp; done) | (simp; omega))]; go_cell)
    have o1_7 : w7.cell? ⟨w1.heap.size + 1, 1, none⟩ = some (.int .i64 a) := (by rw [d7.cell (by first | omega | (simp; done) | (simp; omega))]; go_cell)
    have o2_7 : w7.cell? ⟨w1.heap.size + 1, 2, none⟩ = some (.int .i64 b) := (by rw [d7.cell (by first | omega | (simp; done) | (simp; omega))]; go_cell)
    have o3_7 : w7.cell? ⟨w1.heap.size + 1, 3, none⟩ = some (.int .i64 x) := (by rw [d7.cell (by first | omega | (simp; done) | (simp; omega))]; go_cell)
    have ol_7 : w1.heap.size + 1 < w7.heap.size := (by have := d7.size; omega)
    have x0_7 : w7.cell? ⟨w4.heap.size, 0, none⟩ = some (.slice none 0 0) := (by rw [d7.cell (by first | omega | (simp; done) | (simp; omega))]; go_cell)
    have xl_7 : w4.heap.size < w7.heap.size := (by have := d7.size; omega)
    clear g0_6 gl_6 o0_6 o1_6 o2_6 o3_6 ol_6 x0_6 xl_6
    have HL_7 := hid (HL_6.out.later d7)
    clear d7 HL_6
    go_upto_region 6 with fail
    have Qg0 := cell_regrown g0_7
    have Qo0 := cell_regrown o0_7
    have Qo1 := cell_regrown o1_7
    have Qo2 := cell_regrown o2_7
    have Qo3 := cell_regrown o3_7
    have Qx0 := cell_regrown x0_7
    have Qy0 := cell_regrown y0_7
    refine wp_region_quiet_below (by kernel_rfl) (by kernel_rfl) ?_
    repeat (first | go_big_quiet_skip | (go_big_quiet_want; go_big_quiet_op; first | go_big_quiet_on | go_big_quiet_call (first | (go_at_call 10; exact Calls.regrown_of (gsame_is (RdG.nil _ _ _) (RdG.nil _ _ _) rfl)) | (go_at_call 11; exact Calls.regrown_of (implGOk_is hokh.out _ _ (HL_7.out.later (below_regrown _ _ _)))) | (go_at_call 12; exact Calls.regrown_of (specGOk_is hokh.out _ _ (HL_7.out.later (below_regrown _ _ _)))))))
    refine wpQuiet_nil ?_
    rintro wq ⟨pq, hwq⟩
    have hq : Below w7.heap.size w7 wq := by rw [hwq]; exact below_regrown _ _ _
    clear hwq pq
    clear Qg0 Qo0 Qo1 Qo2 Qo3 Qx0 Qy0
    obtain ⟨w8, hw8⟩ : ∃ y, y = wq := ⟨_, rfl⟩
    subst hw8
    have b8 := hq
    have d8 : Below w7.heap.size w7 w8 := (Below.trans (by go_grown) (b8.mono (by first | omega | (simp; done) | (simp; omega))))
    have c8 : Below w.heap.size w w8 := c7.trans (d8.mono c7.size)
    have g0_8 : w8.cell? ⟨w1.heap.size, 0, none⟩ = some (.slice uo L.length uc) := (by rw [b8.cell (by first | omega | (simp; done) | (simp; omega))]; go_cell)
    have gl_8 : w1.heap.size < w8.heap.size := (by have := b8.size; first | omega | (revert this; simp; done) | (revert this; simp; omega))
    have o0_8 : w8.cell? ⟨w1.heap.size + 1, 0, none⟩ = some (.int .i64 k) := (by rw [b8.cell (by first | omega | (simp; done) | (simp; omega))]; go_cell)
    have o1_8 : w8.cell? ⟨w1.heap.size + 1, 1, none⟩ = some (.int .i64 a) := (by rw [b8.cell (by first | omega | (simp; done) | (simp; omega))]; go_cell)
    have o2_8 : w8.cell? ⟨w1.heap.size + 1, 2, none⟩ = some (.int .i64 b) := (by rw [b8.cell (by first | omega | (simp; done) | (simp; omega))]; go_cell)
    have o3_8 : w8.cell? ⟨w1.heap.size + 1, 3, none⟩ = some (.int .i64 x) := (by rw [b8.cell (by first | omega | (simp; done) | (simp; omega))]; go_cell)
    have ol_8 : w1.heap.size + 1 < w8.heap.size := (by have := b8.size; first | omega | (revert this; simp; done) | (revert this; simp; omega))
    have x0_8 : w8.cell? ⟨w4.heap.size, 0, none⟩ = some (.slice none 0 0) := (by rw [b8.cell (by first | omega | (simp; done) | (simp; omega))]; go_cell)
    have xl_8 : w4.heap.size < w8.heap.size := (by have := b8.size; first | omega | (revert this; simp; done) | (revert this; simp; omega))
    have y0_8 : w8.cell? ⟨w6.heap.size, 0, none⟩ = some (.slice none 0 0) := (by rw [b8.cell (by first | omega | (simp; done) | (simp; omega))]; go_cell)
    have yl_8 : w6.heap.size < w8.heap.size := (by have := b8.size; first | omega | (revert this; simp; done) | (revert this; simp; omega))
    clear g0_7 gl_7 o0_7 o1_7 o2_7 o3_7 ol_7 x0_7 xl_7 y0_7 yl_7
    have HL_8 := hid (HL_7.out.later d8)
    clear d8 b8 hq HL_7
    go_wp2_with fail
    refine (specGOk_is hokh.out _ _ HL_8.out).mono ?_
    rintro e w9 ⟨rfl, b9⟩
    have d9 : Below w8.heap.size w8 w9 := (Below.trans (by go_grown) (b9.mono (by first | omega | (simp; done) | (simp; omega))))
    have c9 : Below w.heap.size w w9 := c8.trans (d9.mono c8.size)
    have g0_9 : w9.cell? ⟨w1.heap.size, 0, none⟩ = some (.slice uo L.length uc) := (by rw [b9.cell (by first | omega | (simp; done) | (simp; omega))]; go_cell)
    have gl_9 : w1.heap.size < w9.heap.size := (by have := b9.size; first | omega | (revert this; simp; done) | (revert this; simp; omega))
    have o0_9 : w9.cell? ⟨w1.heap.size + 1, 0, none⟩ = some (.int .i64 k) := (by rw [b9.cell (by first | omega | (simp; done) | (simp; omega))]; go_cell)
    have o1_9 : w9.cell? ⟨w1.heap.size + 1, 1, none⟩ = some (.int .i64 a) := (by rw [b9.cell (by first | omega | (simp; done) | (simp; omega))]; go_cell)
    have o2_9 : w9.cell? ⟨w1.heap.size + 1, 2, none⟩ = some (.int .i64 b) := (by rw [b9.cell (by first | omega | (simp; done) | (simp; omega))]; go_cell)
    have o3_9 : w9.cell? ⟨w1.heap.size + 1, 3, none⟩ = some (.int .i64 x) := (by rw [b9.cell (by first | omega | (simp; done) | (simp; omega))]; go_cell)
    have ol_9 : w1.heap.size + 1 < w9.heap.size := (by have := b9.size; first | omega | (revert this; simp; done) | (revert this; simp; omega))
    have x0_9 : w9.cell? ⟨w4.heap.size, 0, none⟩ = some (.slice none 0 0) := (by rw [b9.cell (by first | omega | (simp; done) | (simp; omega))]; go_cell)
    have xl_9 : w4.heap.size < w9.heap.size := (by have := b9.size; first | omega | (revert this; simp; done) | (revert this; simp; omega))
    have y0_9 : w9.cell? ⟨w6.heap.size, 0, none⟩ = some (.slice none 0 0) := (by rw [b9.cell (by first | omega | (simp; done) | (simp; omega))]; go_cell)
    have yl_9 : w6.heap.size < w9.heap.size := (by have := b9.size; first | omega | (revert this; simp; done) | (revert this; simp; omega))
    clear g0_8 gl_8 o0_8 o1_8 o2_8 o3_8 ol_8 x0_8 xl_8 y0_8 yl_8
    have HL_9 := hid (HL_8.out.later d9)
    clear d9 b9 HL_8
    go_wp2
    go_ret
    exact ⟨by simp, (by first | exact c9 | exact Below.trans c9 (Below.mono (by go_grown) c9.size))⟩
  | true =>
    have hokh := hid hok
    clear hok
    have hokA := hid (okG_do hokh.out k a b x)
    cases hA : opOk k a b x with
    | false =>
      go_wp2_with fail
      refine (implGDo_rd _ L k a b x _ HL_3.out hokh.out hA).mono ?_
      rintro e w4 ⟨⟨gx, rfl, hx⟩, b4⟩
      have d4 : Below w3.heap.size w3 w4 := (Below.trans (by go_grown) (b4.mono (by first | omega | (simp; done) | (simp; omega))))
      have c4 : Below w.heap.size w w4 := c3.trans (d4.mono c3.size)
      have g0_4 : w4.cell? ⟨w1.heap.size, 0, none⟩ = some (.slice uo L.length uc) := (by rw [b4.cell (by first | omega | (simp; done) | (simp; omega))]; go_cell)
      have gl_4 : w1.heap.size < w4.heap.size := (by have := b4.size; first | omega | (revert this; simp; done) | (revert this; simp; omega))
      have o0_4 : w4.cell? ⟨w1.heap.size + 1, 0, none⟩ = some (.int .i64 k) := (by rw [b4.cell (by first | omega | (simp; done) | (simp; omega))]; go_cell)
      have o1_4 : w4.cell? ⟨w1.heap.size + 1, 1, none⟩ = some (.int .i64 a) := (by rw [b4.cell (by first | omega | (simp; done) | (simp; omega))]; go_cell)
      have o2_4 : w4.cell? ⟨w1.heap.size + 1, 2, none⟩ = some (.int .i64 b) := (by rw [b4.cell (by first | omega | (simp; done) | (simp; omega))]; go_cell)
      have o3_4 : w4.cell? ⟨w1.heap.size + 1, 3, none⟩ = some (.int .i64 x) := (by rw [b4.cell (by first | omega | (simp; done) | (simp; omega))]; go_cell)
      have ol_4 : w1.heap.size + 1 < w4.heap.size := (by have := b4.size; first | omega | (revert this; simp; done) | (revert this; simp; omega))
      clear g0_3 gl_3 o0_3 o1_3 o2_3 o3_3 ol_3
      have HL_4 := hid (HL_3.out.later d4)
      clear d4 b4 HL_3
      have HX_4 := hid hx
      clear hx
      go_wp2_with fail
      have x0_5 : (w4.alloc (.cells #[.slice (some ⟨gx, 0, none⟩) 24 24] 25)).cell? ⟨w4.heap.size, 0, none⟩ = some (.slice (some ⟨gx, 0, none⟩) 24 24) := by go_cell
      have xl_5 : w4.heap.size < (w4.alloc (.cells #[.slice (some ⟨gx, 0, none⟩) 24 24] 25)).heap.size := by simp
      have d5 : Below w4.heap.size w4 (w4.alloc (.cells #[.slice (some ⟨gx, 0, none⟩) 24 24] 25)) := by go_grown
      generalize (w4.alloc (.cells #[.slice (some ⟨gx, 0, none⟩) 24 24] 25)) = w5 at x0_5 xl_5 d5 ⊢
      have c5 : Below w.heap.size w w5 := c4.trans (d5.mono c4.size)
      have g0_5 : w5.cell? ⟨w1.heap.size, 0, none⟩ = some (.slice uo L.length uc) := (by rw [d5.cell (by first | omega | (simp; done) | (simp; omega))]; go_cell)
      have gl_5 : w1.heap.size < w5.heap.size := (by have := d5.size; omega)
      have o0_5 : w5.cell? ⟨w1.heap.size + 1, 0, none⟩ = some (.int .i64 k) := (by rw [d5.cell (by first | omega | (simp; done) | (simp; omega))]; go_cell)
      have o1_5 : w5.cell? ⟨w1.heap.size + 1, 1, none⟩ = some (.int .i64 a) := (by rw [d5.cell (by first | omega | (simp; done) | (simp; omega))]; go_cell)
      have o2_5 : w5.cell? ⟨w1.heap.size + 1, 2, none⟩ = some (.int .i64 b) := (by rw [d5.cell (by first | omega | (simp; done) | (simp; omega))]; go_cell)
      have o3_5 : w5.cell? ⟨w1.heap.size + 1, 3, none⟩ = some (.int .i64 x) := (by rw [d5.cell (by first | omega | (simp; done) | (simp; omega))]; go_cell)
      have ol_5 : w1.heap.size + 1 < w5.heap.size := (by have := d5.size; omega)
      clear g0_4 gl_4 o0_4 o1_4 o2_4 o3_4 ol_4
      have HL_5 := hid (HL_4.out.later d5)
      have HX_5 := hid (HX_4.out.later d5)
      clear d5 HL_4 HX_4
      refine (specGDo_rd _ L k a b x _ HL_5.out hokh.out hA).mono ?_
      rintro e w6 ⟨⟨gs, cs, rfl, hx⟩, b6⟩
      have d6 : Below w5.heap.size w5 w6 := (Below.trans (by go_grown) (b6.mono (by first | omega | (simp; done) | (simp; omega))))
      have c6 : Below w.heap.size w w6 := c5.trans (d6.mono c5.size)
      have g0_6 : w6.cell? ⟨w1.heap.size, 0, none⟩ = some (.slice uo L.length uc) := (by rw [b6.cell (by first | omega | (simp; done) | (simp; omega))]; go_cell)
      have gl_6 : w1.heap.size < w6.heap.size := (by have := b6.size; first | omega | (revert this; simp; done) | (revert this; simp; omega))
      have o0_6 : w6.cell? ⟨w1.heap.size + 1, 0, none⟩ = some (.int .i64 k) := (by rw [b6.cell (by first | omega | (simp; done) | (simp; omega))]; go_cell)
      have o1_6 : w6.cell? ⟨w1.heap.size + 1, 1, none⟩ = some (.int .i64 a) := (by rw [b6.cell (by first | omega | (simp; done) | (simp; omega))]; go_cell)
      have o2_6 : w6.cell? ⟨w1.heap.size + 1, 2, none⟩ = some (.int .i64 b) := (by rw [b6.cell (by first | omega | (simp; done) | (simp; omega))]; go_cell)
      have o3_6 : w6.cell? ⟨w1.heap.size + 1, 3, none⟩ = some (.int .i64 x) := (by rw [b6.cell (by first | omega | (simp; done) | (simp; omega))]; go_cell)
      have ol_6 : w1.heap.size + 1 < w6.heap.size := (by have := b6.size; first | omega | (revert this; simp; done) | (revert this; simp; omega))
      have x0_6 : w6.cell? ⟨w4.heap.size, 0, none⟩ = some (.slice (some ⟨gx, 0, none⟩) 24 24) := (by rw [b6.cell (by first | omega | (simp; done) | (simp; omega))]; go_cell)
      have xl_6 : w4.heap.size < w6.heap.size := (by have := b6.size; first | omega | (revert this; simp; done) | (revert this; simp; omega))
      clear g0_5 gl_5 o0_5 o1_5 o2_5 o3_5 ol_5 x0_5 xl_5
      have HL_6 := hid (HL_5.out.later d6)
      have HX_6 := hid (HX_5.out.later d6)
      clear d6 b6 HL_5 HX_5
      have HY_6 := hid hx
      clear hx
      go_wp2_with fail
      have y0_7 : (w6.alloc (.cells #[.slice (some ⟨gs, 0, none⟩) 24 cs] 25)).cell? ⟨w6.heap.size, 0, none⟩ = some (.slice (some ⟨gs, 0, none⟩) 24 cs) := by go_cell
      have yl_7 : w6.heap.size < (w6.alloc (.cells #[.slice (some ⟨gs, 0, none⟩) 24 cs] 25)).heap.size := by simp
      have d7 : Below w6.heap.size w6 (w6.alloc (.cells #[.slice (some ⟨gs, 0, none⟩) 24 cs] 25)) := by go_grown
      generalize (w6.alloc (.cells #[.slice (some ⟨gs, 0, none⟩) 24 cs] 25)) = w7 at y0_7 yl_7 d7 ⊢
      have c7 : Below w.heap.size w w7 := c6.trans (d7.mono c6.size)
      have g0_7 : w7.cell? ⟨w1.heap.size, 0, none⟩ = some (.slice uo L.length uc) := (by rw [d7.cell (by first | omega | (simp; done) | (simp; omega))]; go_cell)
      have gl_7 : w1.heap.size < w7.heap.size := (by have := d7.size; omega)
      have o0_7 : w7.cell? ⟨w1.heap.size + 1, 0, none⟩ = some (.int .i64 k) := (by rw [d7.cell (by first | omega | (simp; done) | (simp; omega))]; go_cell)
      have o1_7 : w7.cell? ⟨w1.heap.size + 1, 1, none⟩ = some (.int .i64 a) := (by rw [d7.cell (by first | omega | (simp; done) | (simp; omega))]; go_cell)
      have o2_7 : w7.cell? ⟨w1.heap.size + 1, 2, none⟩ = some (.int .i64 b) := (by rw [d7.cell (by first | omega | (simp; done) | (simp; omega))]; go_cell)
      have o3_7 : w7.cell? ⟨w1.heap.size + 1, 3, none⟩ = some (.int .i64 x) := (by rw [d7.cell (by first | omega | (simp; done) | (simp; omega))]; go_cell)
      have ol_7 : w1.heap.size + 1 < w7.heap.size := (by have := d7.size; omega)
      have x0_7 : w7.cell? ⟨w4.heap.size, 0, none⟩ = some (.slice (some ⟨gx, 0, none⟩) 24 24) := (by rw [d7.cell (by first | omega | (simp; done) | (simp; omega))]; go_cell)
      have xl_7 : w4.heap.size < w7.heap.size := (by have := d7.size; omega)
      clear g0_6 gl_6 o0_6 o1_6 o2_6 o3_6 ol_6 x0_6 xl_6
      have HL_7 := hid (HL_6.out.later d7)
      have HX_7 := hid (HX_6.out.later d7)
      have HY_7 := hid (HY_6.out.later d7)
      clear d7 HL_6 HX_6 HY_6
      go_upto_region 6 with fail
      have Qg0 := cell_regrown g0_7
      have Qo0 := cell_regrown o0_7
      have Qo1 := cell_regrown o1_7
      have Qo2 := cell_regrown o2_7
      have Qo3 := cell_regrown o3_7
      have Qx0 := cell_regrown x0_7
      have Qy0 := cell_regrown y0_7
      refine wp_region_quiet_below (by kernel_rfl) (by kernel_rfl) ?_
      repeat (first | go_big_quiet_skip | (go_big_quiet_want; go_big_quiet_op; first | go_big_quiet_on | go_big_quiet_call (first | (go_at_call 10; exact Calls.regrown_of (gsame_is (HX_7.out.later (below_regrown _ _ _)) (HY_7.out.later (below_regrown _ _ _)) rfl)) | (go_at_call 11; exact Calls.regrown_of (implGOk_is hokh.out _ _ (HL_7.out.later (below_regrown _ _ _)))) | (go_at_call 12; exact Calls.regrown_of (specGOk_is hokh.out _ _ (HL_7.out.later (below_regrown _ _ _)))))))
      refine wpQuiet_nil ?_
      rintro wq ⟨pq, hwq⟩
      have hq : Below w7.heap.size w7 wq := by rw [hwq]; exact below_regrown _ _ _
      clear hwq pq
      clear Qg0 Qo0 Qo1 Qo2 Qo3 Qx0 Qy0
      obtain ⟨w8, hw8⟩ : ∃ y, y = wq := ⟨_, rfl⟩
      subst hw8
      have b8 := hq
      have d8 : Below w7.heap.size w7 w8 := (Below.trans (by go_grown) (b8.mono (by first | omega | (simp; done) | (simp; omega))))
      have c8 : Below w.heap.size w w8 := c7.trans (d8.mono c7.size)
      have g0_8 : w8.cell? ⟨w1.heap.size, 0, none⟩ = some (.slice uo L.length uc) := (by rw [b8.cell (by first | omega | (simp; done) | (simp; omega))]; go_cell)
      have gl_8 : w1.heap.size < w8.heap.size := (by have := b8.size; first | omega | (revert this; simp; done) | (revert this; simp; omega))
      have o0_8 : w8.cell? ⟨w1.heap.size + 1, 0, none⟩ = some (.int .i64 k) := (by rw [b8.cell (by first | omega | (simp; done) | (simp; omega))]; go_cell)
      have o1_8 : w8.cell? ⟨w1.heap.size + 1, 1, none⟩ = some (.int .i64 a) := (by rw [b8.cell (by first | omega | (simp; done) | (simp; omega))]; go_cell)
      have o2_8 : w8.cell? ⟨w1.heap.size + 1, 2, none⟩ = some (.int .i64 b) := (by rw [b8.cell (by first | omega | (simp; done) | (simp; omega))]; go_cell)
      have o3_8 : w8.cell? ⟨w1.heap.size + 1, 3, none⟩ = some (.int .i64 x) := (by rw [b8.cell (by first | omega | (simp; done) | (simp; omega))]; go_cell)
      have ol_8 : w1.heap.size + 1 < w8.heap.size := (by have := b8.size; first | omega | (revert this; simp; done) | (revert this; simp; omega))
      have x0_8 : w8.cell? ⟨w4.heap.size, 0, none⟩ = some (.slice (some ⟨gx, 0, none⟩) 24 24) := (by rw [b8.cell (by first | omega | (simp; done) | (simp; omega))]; go_cell)
      have xl_8 : w4.heap.size < w8.heap.size := (by have := b8.size; first | omega | (revert this; simp; done) | (revert this; simp; omega))
      have y0_8 : w8.cell? ⟨w6.heap.size, 0, none⟩ = some (.slice (some ⟨gs, 0, none⟩) 24 cs) := (by rw [b8.cell (by first | omega | (simp; done) | (simp; omega))]; go_cell)
      have yl_8 : w6.heap.size < w8.heap.size := (by have := b8.size; first | omega | (revert this; simp; done) | (revert this; simp; omega))
      clear g0_7 gl_7 o0_7 o1_7 o2_7 o3_7 ol_7 x0_7 xl_7 y0_7 yl_7
      have HL_8 := hid (HL_7.out.later d8)
      have HX_8 := hid (HX_7.out.later d8)
      have HY_8 := hid (HY_7.out.later d8)
      clear d8 b8 hq HL_7 HX_7 HY_7
      go_wp2_with fail
      refine (gsame_is HX_8.out HL_8.out (doG_not hA)).mono ?_
      rintro e w9 ⟨rfl, b9⟩
      have d9 : Below w8.heap.size w8 w9 := (Below.trans (by go_grown) (b9.mono (by first | omega | (simp; done) | (simp; omega))))
      have c9 : Below w.heap.size w w9 := c8.trans (d9.mono c8.size)
      have g0_9 : w9.cell? ⟨w1.heap.size, 0, none⟩ = some (.slice uo L.length uc) := (by rw [b9.cell (by first | omega | (simp; done) | (simp; omega))]; go_cell)
      have gl_9 : w1.heap.size < w9.heap.size := (by have := b9.size; first | omega | (revert this; simp; done) | (revert this; simp; omega))
      have o0_9 : w9.cell? ⟨w1.heap.size + 1, 0, none⟩ = some (.int .i64 k) := (by rw [b9.cell (by first | omega | (simp; done) | (simp; omega))]; go_cell)
      have o1_9 : w9.cell? ⟨w1.heap.size + 1, 1, none⟩ = some (.int .i64 a) := (by rw [b9.cell (by first | omega | (simp; done) | (simp; omega))]; go_cell)
      have o2_9 : w9.cell? ⟨w1.heap.size + 1, 2, none⟩ = some (.int .i64 b) := (by rw [b9.cell (by first | omega | (simp; done) | (simp; omega))]; go_cell)
      have o3_9 : w9.cell? ⟨w1.heap.size + 1, 3, none⟩ = some (.int .i64 x) := (by rw [b9.cell (by first | omega | (simp; done) | (simp; omega))]; go_cell)
      have ol_9 : w1.heap.size + 1 < w9.heap.size := (by have := b9.size; first | omega | (revert this; simp; done) | (revert this; simp; omega))
      have x0_9 : w9.cell? ⟨w4.heap.size, 0, none⟩ = some (.slice (some ⟨gx, 0, none⟩) 24 24) := (by rw [b9.cell (by first | omega | (simp; done) | (simp; omega))]; go_cell)
      have xl_9 : w4.heap.size < w9.heap.size := (by have := b9.size; first | omega | (revert this; simp; done) | (revert this; simp; omega))
      clear g0_8 gl_8 o0_8 o1_8 o2_8 o3_8 ol_8 x0_8 xl_8
      have HL_9 := hid (HL_8.out.later d9)
      have HX_9 := hid (HX_8.out.later d9)
      clear d9 b9 HL_8 HX_8
      go_wp2
      go_ret
      exact ⟨by simp, (by first | exact c9 | exact Below.trans c9 (Below.mono (by go_grown) c9.size))⟩
    | true =>
      go_wp2_with fail
      refine (implGDo_rd _ L k a b x _ HL_3.out hokh.out hA).mono ?_
      rintro e w4 ⟨⟨gx, rfl, hx⟩, b4⟩
      have d4 : Below w3.heap.size w3 w4 := (Below.trans (by go_grown) (b4.mono (by first | omega | (simp; done) | (simp; omega))))
      have c4 : Below w.heap.size w w4 := c3.trans (d4.mono c3.size)
      have g0_4 : w4.cell? ⟨w1.heap.size, 0, none⟩ = some (.slice uo L.length uc) := (by rw [b4.cell (by first | omega | (simp; done) | (simp; omega))]; go_cell)
      have gl_4 : w1.heap.size < w4.heap.size := (by have := b4.size; first | omega | (revert this; simp; done) | (revert this; simp; omega))
      have o0_4 : w4.cell? ⟨w1.heap.size + 1, 0, none⟩ = some (.int .i64 k) := (by rw [b4.cell (by first | omega | (simp; done) | (simp; omega))]; go_cell)
      have o1_4 : w4.cell? ⟨w1.heap.size + 1, 1, none⟩ = some (.int .i64 a) := (by rw [b4.cell (by first | omega | (simp; done) | (simp; omega))]; go_cell)
      have o2_4 : w4.cell? ⟨w1.heap.size + 1, 2, none⟩ = some (.int .i64 b) := (by rw [b4.cell (by first | omega | (simp; done) | (simp; omega))]; go_cell)
      have o3_4 : w4.cell? ⟨w1.heap.size + 1, 3, none⟩ = some (.int .i64 x) := (by rw [b4.cell (by first | omega | (simp; done) | (simp; omega))]; go_cell)
      have ol_4 : w1.heap.size + 1 < w4.heap.size := (by have := b4.size; first | omega | (revert this; simp; done) | (revert this; simp; omega))
      clear g0_3 gl_3 o0_3 o1_3 o2_3 o3_3 ol_3
      have HL_4 := hid (HL_3.out.later d4)
      clear d4 b4 HL_3
      have HX_4 := hid hx
      clear hx
      go_wp2_with fail
      have x0_5 : (w4.alloc (.cells #[.slice (some ⟨gx, 0, none⟩) 24 24] 25)).cell? ⟨w4.heap.size, 0, none⟩ = some (.slice (some ⟨gx, 0, none⟩) 24 24) := by go_cell
      have xl_5 : w4.heap.size < (w4.alloc (.cells #[.slice (some ⟨gx, 0, none⟩) 24 24] 25)).heap.size := by simp
      have d5 : Below w4.heap.size w4 (w4.alloc (.cells #[.slice (some ⟨gx, 0, none⟩) 24 24] 25)) := by go_grown
      generalize (w4.alloc (.cells #[.slice (some ⟨gx, 0, none⟩) 24 24] 25)) = w5 at x0_5 xl_5 d5 ⊢
      have c5 : Below w.heap.size w w5 := c4.trans (d5.mono c4.size)
      have g0_5 : w5.cell? ⟨w1.heap.size, 0, none⟩ = some (.slice uo L.length uc) := (by rw [d5.cell (by first | omega | (simp; done) | (simp; omega))]; go_cell)
      have gl_5 : w1.heap.size < w5.heap.size := (by have := d5.size; omega)
      have o0_5 : w5.cell? ⟨w1.heap.size + 1, 0, none⟩ = some (.int .i64 k) := (by rw [d5.cell (by first | omega | (simp; done) | (simp; omega))]; go_cell)
      have o1_5 : w5.cell? ⟨w1.heap.size + 1, 1, none⟩ = some (.int .i64 a) := (by rw [d5.cell (by first | omega | (simp; done) | (simp; omega))]; go_cell)
      have o2_5 : w5.cell? ⟨w1.heap.size + 1, 2, none⟩ = some (.int .i64 b) := (by rw [d5.cell (by first | omega | (simp; done) | (simp; omega))]; go_cell)
      have o3_5 : w5.cell? ⟨w1.heap.size + 1, 3, none⟩ = some (.int .i64 x) := (by rw [d5.cell (by first | omega | (simp; done) | (simp; omega))]; go_cell)
      have ol_5 : w1.heap.size + 1 < w5.heap.size := (by have := d5.size; omega)
      clear g0_4 gl_4 o0_4 o1_4 o2_4 o3_4 ol_4
      have HL_5 := hid (HL_4.out.later d5)
      have HX_5 := hid (HX_4.out.later d5)
      clear d5 HL_4 HX_4
      refine (specGDo_rd _ L k a b x _ HL_5.out hokh.out hA).mono ?_
      rintro e w6 ⟨⟨gs, cs, rfl, hx⟩, b6⟩
      have d6 : Below w5.heap.size w5 w6 := (Below.trans (by go_grown) (b6.mono (by first | omega | (simp; done) | (simp; omega))))
      have c6 : Below w.heap.size w w6 := c5.trans (d6.mono c5.size)
      have g0_6 : w6.cell? ⟨w1.heap.size, 0, none⟩ = some (.slice uo L.length uc) := (by rw [b6.cell (by first | omega | (simp; done) | (simp; omega))]; go_cell)
      have gl_6 : w1.heap.size < w6.heap.size := (by have := b6.size; first | omega | (revert this; simp; done) | (revert this; simp; omega))
      have o0_6 : w6.cell? ⟨w1.heap.size + 1, 0, none⟩ = some (.int .i64 k) := (by rw [b6.cell (by first | omega | (simp; done) | (simp; omega))]; go_cell)
      have o1_6 : w6.cell? ⟨w1.heap.size + 1, 1, none⟩ = some (.int .i64 a) := (by rw [b6.cell (by first | omega | (simp; done) | (simp; omega))]; go_cell)
      have o2_6 : w6.cell? ⟨w1.heap.size + 1, 2, none⟩ = some (.int .i64 b) := (by rw [b6.cell (by first | omega | (simp; done) | (simp; omega))]; go_cell)
      have o3_6 : w6.cell? ⟨w1.heap.size + 1, 3, none⟩ = some (.int .i64 x) := (by rw [b6.cell (by first | omega | (simp; done) | (simp; omega))]; go_cell)
      have ol_6 : w1.heap.size + 1 < w6.heap.size := (by have := b6.size; first | omega | (revert this; simp; done) | (revert this; simp; omega))
      have x0_6 : w6.cell? ⟨w4.heap.size, 0, none⟩ = some (.slice (some ⟨gx, 0, none⟩) 24 24) := (by rw [b6.cell (by first | omega | (simp; done) | (simp; omega))]; go_cell)
      have xl_6 : w4.heap.size < w6.heap.size := (by have := b6.size; first | omega | (revert this; simp; done) | (revert this; simp; omega))
      clear g0_5 gl_5 o0_5 o1_5 o2_5 o3_5 ol_5 x0_5 xl_5
      have HL_6 := hid (HL_5.out.later d6)
      have HX_6 := hid (HX_5.out.later d6)
      clear d6 b6 HL_5 HX_5
      have HY_6 := hid hx
      clear hx
      go_wp2_with fail
      have y0_7 : (w6.alloc (.cells #[.slice (some ⟨gs, 0, none⟩) 24 cs] 25)).cell? ⟨w6.heap.size, 0, none⟩ = some (.slice (some ⟨gs, 0, none⟩) 24 cs) := by go_cell
      have yl_7 : w6.heap.size < (w6.alloc (.cells #[.slice (some ⟨gs, 0, none⟩) 24 cs] 25)).heap.size := by simp
      have d7 : Below w6.heap.size w6 (w6.alloc (.cells #[.slice (some ⟨gs, 0, none⟩) 24 cs] 25)) := by go_grown
      generalize (w6.alloc (.cells #[.slice (some ⟨gs, 0, none⟩) 24 cs] 25)) = w7 at y0_7 yl_7 d7 ⊢
      have c7 : Below w.heap.size w w7 := c6.trans (d7.mono c6.size)
      have g0_7 : w7.cell? ⟨w1.heap.size, 0, none⟩ = some (.slice uo L.length uc) := (by rw [d7.cell (by first | omega | (simp; done) | (simp; omega))]; go_cell)
      have gl_7 : w1.heap.size < w7.heap.size := (by have := d7.size; omega)
      have o0_7 : w7.cell? ⟨w1.heap.size + 1, 0, none⟩ = some (.int .i64 k) := (by rw [d7.cell (by first | omega | (simp; done) | (simp; omega))]; go_cell)
      have o1_7 : w7.cell? ⟨w1.heap.size + 1, 1, none⟩ = some (.int .i64 a) := (by rw [d7.cell (by first | omega | (simp; done) | (simp; omega))]; go_cell)
      have o2_7 : w7.cell? ⟨w1.heap.size + 1, 2, none⟩ = some (.int .i64 b) := (by rw [d7.cell (by first | omega | (simp; done) | (simp; omega))]; go_cell)
      have o3_7 : w7.cell? ⟨w1.heap.size + 1, 3, none⟩ = some (.int .i64 x) := (by rw [d7.cell (by first | omega | (simp; done) | (simp; omega))]; go_cell)
      have ol_7 : w1.heap.size + 1 < w7.heap.size := (by have := d7.size; omega)
      have x0_7 : w7.cell? ⟨w4.heap.size, 0, none⟩ = some (.slice (some ⟨gx, 0, none⟩) 24 24) := (by rw [d7.cell (by first | omega | (simp; done) | (simp; omega))]; go_cell)
      have xl_7 : w4.heap.size < w7.heap.size := (by have := d7.size; omega)
      clear g0_6 gl_6 o0_6 o1_6 o2_6 o3_6 ol_6 x0_6 xl_6
      have HL_7 := hid (HL_6.out.later d7)
      have HX_7 := hid (HX_6.out.later d7)
      have HY_7 := hid (HY_6.out.later d7)
      clear d7 HL_6 HX_6 HY_6
      go_upto_region 6 with fail
      have Qg0 := cell_regrown g0_7
      have Qo0 := cell_regrown o0_7
      have Qo1 := cell_regrown o1_7
      have Qo2 := cell_regrown o2_7
      have Qo3 := cell_regrown o3_7
      have Qx0 := cell_regrown x0_7
      have Qy0 := cell_regrown y0_7
      refine wp_region_quiet_below (by kernel_rfl) (by kernel_rfl) ?_
      repeat (first | go_big_quiet_skip | (go_big_quiet_want; go_big_quiet_op; first | go_big_quiet_on | go_big_quiet_call (first | (go_at_call 10; exact Calls.regrown_of (gsame_is (HX_7.out.later (below_regrown _ _ _)) (HY_7.out.later (below_regrown _ _ _)) rfl)) | (go_at_call 11; exact Calls.regrown_of (implGOk_is hokh.out _ _ (HL_7.out.later (below_regrown _ _ _)))) | (go_at_call 12; exact Calls.regrown_of (specGOk_is hokh.out _ _ (HL_7.out.later (below_regrown _ _ _)))))))
      refine wpQuiet_nil ?_
      rintro wq ⟨pq, hwq⟩
      have hq : Below w7.heap.size w7 wq := by rw [hwq]; exact below_regrown _ _ _
      clear hwq pq
      clear Qg0 Qo0 Qo1 Qo2 Qo3 Qx0 Qy0
      obtain ⟨w8, hw8⟩ : ∃ y, y = wq := ⟨_, rfl⟩
      subst hw8
      have b8 := hq
      have d8 : Below w7.heap.size w7 w8 := (Below.trans (by go_grown) (b8.mono (by first | omega | (simp; done) | (simp; omega))))
      have c8 : Below w.heap.size w w8 := c7.trans (d8.mono c7.size)
      have g0_8 : w8.cell? ⟨w1.heap.size, 0, none⟩ = some (.slice uo L.length uc) := (by rw [b8.cell (by first | omega | (simp; done) | (simp; omega))]; go_cell)
      have gl_8 : w1.heap.size < w8.heap.size := (by have := b8.size; first | omega | (revert this; simp; done) | (revert this; simp; omega))
      have o0_8 : w8.cell? ⟨w1.heap.size + 1, 0, none⟩ = some (.int .i64 k) := (by rw [b8.cell (by first | omega | (simp; done) | (simp; omega))]; go_cell)
      have o1_8 : w8.cell? ⟨w1.heap.size + 1, 1, none⟩ = some (.int .i64 a) := (by rw [b8.cell (by first | omega | (simp; done) | (simp; omega))]; go_cell)
      have o2_8 : w8.cell? ⟨w1.heap.size + 1, 2, none⟩ = some (.int .i64 b) := (by rw [b8.cell (by first | omega | (simp; done) | (simp; omega))]; go_cell)
      have o3_8 : w8.cell? ⟨w1.heap.size + 1, 3, none⟩ = some (.int .i64 x) := (by rw [b8.cell (by first | omega | (simp; done) | (simp; omega))]; go_cell)
      have ol_8 : w1.heap.size + 1 < w8.heap.size := (by have := b8.size; first | omega | (revert this; simp; done) | (revert this; simp; omega))
      have x0_8 : w8.cell? ⟨w4.heap.size, 0, none⟩ = some (.slice (some ⟨gx, 0, none⟩) 24 24) := (by rw [b8.cell (by first | omega | (simp; done) | (simp; omega))]; go_cell)
      have xl_8 : w4.heap.size < w8.heap.size := (by have := b8.size; first | omega | (revert this; simp; done) | (revert this; simp; omega))
      have y0_8 : w8.cell? ⟨w6.heap.size, 0, none⟩ = some (.slice (some ⟨gs, 0, none⟩) 24 cs) := (by rw [b8.cell (by first | omega | (simp; done) | (simp; omega))]; go_cell)
      have yl_8 : w6.heap.size < w8.heap.size := (by have := b8.size; first | omega | (revert this; simp; done) | (revert this; simp; omega))
      clear g0_7 gl_7 o0_7 o1_7 o2_7 o3_7 ol_7 x0_7 xl_7 y0_7 yl_7
      have HL_8 := hid (HL_7.out.later d8)
      have HX_8 := hid (HX_7.out.later d8)
      have HY_8 := hid (HY_7.out.later d8)
      clear d8 b8 hq HL_7 HX_7 HY_7
      go_wp2_with fail
      refine (implGDo_rd _ (doG L k a b x) k a b x _ HX_8.out hokA.out hA).mono ?_
      rintro e w9 ⟨⟨ga, rfl, hx⟩, b9⟩
      have d9 : Below w8.heap.size w8 w9 := (Below.trans (by go_grown) (b9.mono (by first | omega | (simp; done) | (simp; omega))))
      have c9 : Below w.heap.size w w9 := c8.trans (d9.mono c8.size)
      have g0_9 : w9.cell? ⟨w1.heap.size, 0, none⟩ = some (.slice uo L.length uc) := (by rw [b9.cell (by first | omega | (simp; done) | (simp; omega))]; go_cell)
      have gl_9 : w1.heap.size < w9.heap.size := (by have := b9.size; first | omega | (revert this; simp; done) | (revert this; simp; omega))
      have o0_9 : w9.cell? ⟨w1.heap.size + 1, 0, none⟩ = some (.int .i64 k) := (by rw [b9.cell (by first | omega | (simp; done) | (simp; omega))]; go_cell)
      have o1_9 : w9.cell? ⟨w1.heap.size + 1, 1, none⟩ = some (.int .i64 a) := (by rw [b9.cell (by first | omega | (simp; done) | (simp; omega))]; go_cell)
      have o2_9 : w9.cell? ⟨w1.heap.size + 1, 2, none⟩ = some (.int .i64 b) := (by rw [b9.cell (by first | omega | (simp; done) | (simp; omega))]; go_cell)
      have o3_9 : w9.cell? ⟨w1.heap.size + 1, 3, none⟩ = some (.int .i64 x) := (by rw [b9.cell (by first | omega | (simp; done) | (simp; omega))]; go_cell)
      have ol_9 : w1.heap.size + 1 < w9.heap.size := (by have := b9.size; first | omega | (revert this; simp; done) | (revert this; simp; omega))
      have x0_9 : w9.cell? ⟨w4.heap.size, 0, none⟩ = some (.slice (some ⟨gx, 0, none⟩) 24 24) := (by rw [b9.cell (by first | omega | (simp; done) | (simp; omega))]; go_cell)
      have xl_9 : w4.heap.size < w9.heap.size := (by have := b9.size; first | omega | (revert this; simp; done) | (revert this; simp; omega))
      clear g0_8 gl_8 o0_8 o1_8 o2_8 o3_8 ol_8 x0_8 xl_8
      have HL_9 := hid (HL_8.out.later d9)
      have HX_9 := hid (HX_8.out.later d9)
      clear d9 b9 HL_8 HX_8
      have HA_9 := hid hx
      clear hx
      go_wp2_with fail
      have m0_10 : (w9.alloc (.cells #[.slice (some ⟨ga, 0, none⟩) 24 24] 25)).cell? ⟨w9.heap.size, 0, none⟩ = some (.slice (some ⟨ga, 0, none⟩) 24 24) := by go_cell
      have ml_10 : w9.heap.size < (w9.alloc (.cells #[.slice (some ⟨ga, 0, none⟩) 24 24] 25)).heap.size := by simp
      have d10 : Below w9.heap.size w9 (w9.alloc (.cells #[.slice (some ⟨ga, 0, none⟩) 24 24] 25)) := by go_grown
      generalize (w9.alloc (.cells #[.slice (some ⟨ga, 0, none⟩) 24 24] 25)) = w10 at m0_10 ml_10 d10 ⊢
      have c10 : Below w.heap.size w w10 := c9.trans (d10.mono c9.size)
      have g0_10 : w10.cell? ⟨w1.heap.size, 0, none⟩ = some (.slice uo L.length uc) := (by rw [d10.cell (by first | omega | (simp; done) | (simp; omega))]; go_cell)
      have gl_10 : w1.heap.size < w10.heap.size := (by have := d10.size; omega)
      have o0_10 : w10.cell? ⟨w1.heap.size + 1, 0, none⟩ = some (.int .i64 k) := (by rw [d10.cell (by first | omega | (simp; done) | (simp; omega))]; go_cell)
      have o1_10 : w10.cell? ⟨w1.heap.size + 1, 1, none⟩ = some (.int .i64 a) := (by rw [d10.cell (by first | omega | (simp; done) | (simp; omega))]; go_cell)
      have o2_10 : w10.cell? ⟨w1.heap.size + 1, 2, none⟩ = some (.int .i64 b) := (by rw [d10.cell (by first | omega | (simp; done) | (simp; omega))]; go_cell)
      have o3_10 : w10.cell? ⟨w1.heap.size + 1, 3, none⟩ = some (.int .i64 x) := (by rw [d10.cell (by first | omega | (simp; done) | (simp; omega))]; go_cell)
      have ol_10 : w1.heap.size + 1 < w10.heap.size := (by have := d10.size; omega)
      have x0_10 : w10.cell? ⟨w4.heap.size, 0, none⟩ = some (.slice (some ⟨gx, 0, none⟩) 24 24) := (by rw [d10.cell (by first | omega | (simp; done) | (simp; omega))]; go_cell)
      have xl_10 : w4.heap.size < w10.heap.size := (by have := d10.size; omega)
      clear g0_9 gl_9 o0_9 o1_9 o2_9 o3_9 ol_9 x0_9 xl_9
      have HL_10 := hid (HL_9.out.later d10)
      have HX_10 := hid (HX_9.out.later d10)
      have HA_10 := hid (HA_9.out.later d10)
      clear d10 HL_9 HX_9 HA_9
      refine (implGOk_is hokA.out _ _ HX_10.out).mono ?_
      rintro e w11 ⟨rfl, b11⟩
      have d11 : Below w10.heap.size w10 w11 := (Below.trans (by go_grown) (b11.mono (by first | omega | (simp; done) | (simp; omega))))
      have c11 : Below w.heap.size w w11 := c10.trans (d11.mono c10.size)
      have g0_11 : w11.cell? ⟨w1.heap.size, 0, none⟩ = some (.slice uo L.length uc) := (by rw [b11.cell (by first | omega | (simp; done) | (simp; omega))]; go_cell)
      have gl_11 : w1.heap.size < w11.heap.size := (by have := b11.size; first | omega | (revert this; simp; done) | (revert this; simp; omega))
      have o0_11 : w11.cell? ⟨w1.heap.size + 1, 0, none⟩ = some (.int .i64 k) := (by rw [b11.cell (by first | omega | (simp; done) | (simp; omega))]; go_cell)
      have o1_11 : w11.cell? ⟨w1.heap.size + 1, 1, none⟩ = some (.int .i64 a) := (by rw [b11.cell (by first | omega | (simp; done) | (simp; omega))]; go_cell)
      have o2_11 : w11.cell? ⟨w1.heap.size + 1, 2, none⟩ = some (.int .i64 b) := (by rw [b11.cell (by first | omega | (simp; done) | (simp; omega))]; go_cell)
      have o3_11 : w11.cell? ⟨w1.heap.size + 1, 3, none⟩ = some (.int .i64 x) := (by rw [b11.cell (by first | omega | (simp; done) | (simp; omega))]; go_cell)
      have ol_11 : w1.heap.size + 1 < w11.heap.size := (by have := b11.size; first | omega | (revert this; simp; done) | (revert this; simp; omega))
      have x0_11 : w11.cell? ⟨w4.heap.size, 0, none⟩ = some (.slice (some ⟨gx, 0, none⟩) 24 24) := (by rw [b11.cell (by first | omega | (simp; done) | (simp; omega))]; go_cell)
      have xl_11 : w4.heap.size < w11.heap.size := (by have := b11.size; first | omega | (revert this; simp; done) | (revert this; simp; omega))
      have m0_11 : w11.cell? ⟨w9.heap.size, 0, none⟩ = some (.slice (some ⟨ga, 0, none⟩) 24 24) := (by rw [b11.cell (by first | omega | (simp; done) | (simp; omega))]; go_cell)
      have ml_11 : w9.heap.size < w11.heap.size := (by have := b11.size; first | omega | (revert this; simp; done) | (revert this; simp; omega))
      clear g0_10 gl_10 o0_10 o1_10 o2_10 o3_10 ol_10 x0_10 xl_10 m0_10 ml_10
      have HL_11 := hid (HL_10.out.later d11)
      have HX_11 := hid (HX_10.out.later d11)
      have HA_11 := hid (HA_10.out.later d11)
      clear d11 b11 HL_10 HX_10 HA_10
      go_wp2_with fail
      refine (gsame_is HA_11.out HX_11.out (doG_twice hokh.out k a b x)).mono ?_
      rintro e w12 ⟨rfl, b12⟩
      have d12 : Below w11.heap.size w11 w12 := (Below.trans (by go_grown) (b12.mono (by first | omega | (simp; done) | (simp; omega))))
      have c12 : Below w.heap.size w w12 := c11.trans (d12.mono c11.size)
      have g0_12 : w12.cell? ⟨w1.heap.size, 0, none⟩ = some (.slice uo L.length uc) := (by rw [b12.cell (by first | omega | (simp; done) | (simp; omega))]; go_cell)
      have gl_12 : w1.heap.size < w12.heap.size := (by have := b12.size; first | omega | (revert this; simp; done) | (revert this; simp; omega))
      have o0_12 : w12.cell? ⟨w1.heap.size + 1, 0, none⟩ = some (.int .i64 k) := (by rw [b12.cell (by first | omega | (simp; done) | (simp; omega))]; go_cell)
      have o1_12 : w12.cell? ⟨w1.heap.size + 1, 1, none⟩ = some (.int .i64 a) := (by rw [b12.cell (by first | omega | (simp; done) | (simp; omega))]; go_cell)
      have o2_12 : w12.cell? ⟨w1.heap.size + 1, 2, none⟩ = some (.int .i64 b) := (by rw [b12.cell (by first | omega | (simp; done) | (simp; omega))]; go_cell)
      have o3_12 : w12.cell? ⟨w1.heap.size + 1, 3, none⟩ = some (.int .i64 x) := (by rw [b12.cell (by first | omega | (simp; done) | (simp; omega))]; go_cell)
      have ol_12 : w1.heap.size + 1 < w12.heap.size := (by have := b12.size; first | omega | (revert this; simp; done) | (revert this; simp; omega))
      have x0_12 : w12.cell? ⟨w4.heap.size, 0, none⟩ = some (.slice (some ⟨gx, 0, none⟩) 24 24) := (by rw [b12.cell (by first | omega | (simp; done) | (simp; omega))]; go_cell)
      have xl_12 : w4.heap.size < w12.heap.size := (by have := b12.size; first | omega | (revert this; simp; done) | (revert this; simp; omega))
      have m0_12 : w12.cell? ⟨w9.heap.size, 0, none⟩ = some (.slice (some ⟨ga, 0, none⟩) 24 24) := (by rw [b12.cell (by first | omega | (simp; done) | (simp; omega))]; go_cell)
      have ml_12 : w9.heap.size < w12.heap.size := (by have := b12.size; first | omega | (revert this; simp; done) | (revert this; simp; omega))
      clear g0_11 gl_11 o0_11 o1_11 o2_11 o3_11 ol_11 x0_11 xl_11 m0_11 ml_11
      have HL_12 := hid (HL_11.out.later d12)
      have HX_12 := hid (HX_11.out.later d12)
      have HA_12 := hid (HA_11.out.later d12)
      clear d12 b12 HL_11 HX_11 HA_11
      go_wp2_with fail
      go_loopw [11] (fun i wr => ∃ j : Nat, j ≤ 24 ∧ i = .int .i64 j ∧ Below w12.heap.size w12 wr) (fun i _ => 24 - (intOf i).toNat)
      case atStart => exact ⟨0, by omega, rfl, Below.refl _ _⟩
      case round =>
        obtain ⟨j, hj, rfl, hbel⟩ := hrel
        obtain ⟨w90, hw90⟩ : ∃ y, y = wr := ⟨_, rfl⟩
        subst hw90
        have b90 := hbel
        have d90 : Below w12.heap.size w12 w90 := (Below.trans (by go_grown) (b90.mono (by first | omega | (simp; done) | (simp; omega))))
        have c90 : Below w.heap.size w w90 := c12.trans (d90.mono c12.size)
        have g0_90 : w90.cell? ⟨w1.heap.size, 0, none⟩ = some (.slice uo L.length uc) := (by rw [b90.cell (by first | omega | (simp; done) | (simp; omega))]; go_cell)
        have gl_90 : w1.heap.size < w90.heap.size := (by have := b90.size; first | omega | (revert this; simp; done) | (revert this; simp; omega))
        have o0_90 : w90.cell? ⟨w1.heap.size + 1, 0, none⟩ = some (.int .i64 k) := (by rw [b90.cell (by first | omega | (simp; done) | (simp; omega))]; go_cell)
        have o1_90 : w90.cell? ⟨w1.heap.size + 1, 1, none⟩ = some (.int .i64 a) := (by rw [b90.cell (by first | omega | (simp; done) | (simp; omega))]; go_cell)
        have o2_90 : w90.cell? ⟨w1.heap.size + 1, 2, none⟩ = some (.int .i64 b) := (by rw [b90.cell (by first | omega | (simp; done) | (simp; omega))]; go_cell)
        have o3_90 : w90.cell? ⟨w1.heap.size + 1, 3, none⟩ = some (.int .i64 x) := (by rw [b90.cell (by first | omega | (simp; done) | (simp; omega))]; go_cell)
        have ol_90 : w1.heap.size + 1 < w90.heap.size := (by have := b90.size; first | omega | (revert this; simp; done) | (revert this; simp; omega))
        have x0_90 : w90.cell? ⟨w4.heap.size, 0, none⟩ = some (.slice (some ⟨gx, 0, none⟩) 24 24) := (by rw [b90.cell (by first | omega | (simp; done) | (simp; omega))]; go_cell)
        have xl_90 : w4.heap.size < w90.heap.size := (by have := b90.size; first | omega | (revert this; simp; done) | (revert this; simp; omega))
        clear g0_12 gl_12 o0_12 o1_12 o2_12 o3_12 ol_12 x0_12 xl_12
        have HL_90 := hid (HL_12.out.later d90)
        have HX_90 := hid (HX_12.out.later d90)
        clear d90 b90 HL_12 HX_12
        have hlen := hid (okG_true hokh.out).1
        by_cases hlt : j < 24
        · have CK := fun W => implOpKey_any k a b x W
          have CN := fun W => implOther_any k a b x W
          have HO := hid (fun (h1 : (j : Int) ≠ opKey k a b x) (h2 : (j : Int) ≠ opOther k a b x) => doG_other hlen.out k a b x h1 h2)
          obtain ⟨ux, cx0, cx1, hux⟩ := HX_90.out.at24 hlt
          have HUX := hid hux
          obtain ⟨_, _, hlv, _, hlc⟩ := id HL_90.out
          obtain ⟨bl, ol, hla, hlb, hlcc⟩ := hlc (by rw [hlen.out]; omega)
          injection hlv with hl1 hl2 hl3
          rw [← hl1] at hla
          subst hla
          obtain ⟨cl0, ul, cl1, hul⟩ := hlcc j (by rw [hlen.out]; omega)
          have HUL := hid hul
          have hjl : (j : Int) < (L.length : Int) := by rw [hlen.out]; omega
          have hj24 : (j : Int) < 24 := by omega
          clear hux hlc hlcc hul hl1 hl2 hl3
          generalize opKey k a b x = K1 at *
          generalize opOther k a b x = N1 at *
          have X0 := cell_regrown cx0
          have X1 := cell_regrown cx1
          have L0 := cell_regrown cl0
          have L1 := cell_regrown cl1
          have Qg0 := cell_regrown g0_90
          have Qo0 := cell_regrown o0_90
          have Qo1 := cell_regrown o1_90
          have Qo2 := cell_regrown o2_90
          have Qo3 := cell_regrown o3_90
          have Qx0 := cell_regrown x0_90
          have hsz := hbel.size
          by_cases h1 : (j : Int) = K1
          · have h1' : ((j : Int) != K1) = false := by simp [h1]
            go_wp2_with fail
            refine wp_region_quiet_below (by kernel_rfl) (by kernel_rfl) ?_
            repeat (first | go_big_quiet_skip | (go_big_quiet_want; go_big_quiet_op; first | go_big_quiet_on | go_big_quiet_call (first | (go_at_call 13; exact Calls.regrown_of (CK _)))))
            refine wpQuiet_nil ?_
            rintro wq ⟨pq, hwq⟩
            have hq : Below w90.heap.size w90 wq := by rw [hwq]; exact below_regrown _ _ _
            clear hwq pq
            go_wp2
            go_roundw
            case rel => exact ⟨j + 1, by omega, by go_num, hbel.trans (hq.mono hsz)⟩
            case measure => simp [intOf]; omega
          · have h1' : ((j : Int) != K1) = true := by simp [h1]
            by_cases h2 : (j : Int) = N1
            · have h2' : ((j : Int) != N1) = false := by simp [h2]
              clear h2 h1 HO
              go_wp2_with fail
              refine wp_region_quiet_below (by kernel_rfl) (by kernel_rfl) ?_
              repeat (first | go_big_quiet_skip | (go_big_quiet_want; go_big_quiet_op; first | go_big_quiet_on | go_big_quiet_call (first | (go_at_call 13; exact Calls.regrown_of (CK _)) | (go_at_call 14; exact Calls.regrown_of (CN _)))))
              refine wpQuiet_nil ?_
              rintro wq ⟨pq, hwq⟩
              have hq : Below w90.heap.size w90 wq := by rw [hwq]; exact below_regrown _ _ _
              clear hwq pq
              go_wp2
              go_roundw
              case rel => exact ⟨j + 1, by omega, by go_num, hbel.trans (hq.mono hsz)⟩
              case measure => simp [intOf]; omega
            · have h2' : ((j : Int) != N1) = true := by simp [h2]
              have HE := hid (HO.out h1 h2)
              clear HO
              generalize (doG L k a b x).getD j valD0 = X at *
              generalize L.getD j valD0 = Y at *
              go_wp2_with fail
              refine wp_region_quiet_below (by kernel_rfl) (by kernel_rfl) ?_
              repeat (first | go_big_quiet_skip | (go_big_quiet_want; go_big_quiet_op; first | go_big_quiet_on | go_big_quiet_call (first | (go_at_call 13; exact Calls.regrown_of (CK _)) | (go_at_call 14; exact Calls.regrown_of (CN _)) | (go_at_call 15; exact Calls.regrown_of (isame_is (HUX.out.later (below_regrown _ _ _)) (HUL.out.later (below_regrown _ _ _)) HE.out)))))
              refine wpQuiet_nil ?_
              rintro wq ⟨pq, hwq⟩
              have hq : Below w90.heap.size w90 wq := by rw [hwq]; exact below_regrown _ _ _
              clear hwq pq
              go_wp2
              go_roundw
              case rel => exact ⟨j + 1, by omega, by go_num, hbel.trans (hq.mono hsz)⟩
              case measure => simp [intOf]; omega
        · have hj24 : j = 24 := by omega
          subst hj24
          by_cases hk : k = 2
          · subst hk
            have hs : bindOk 2 a b x := by
              rcases op_ways 2 a b x with ⟨h, _⟩ | ⟨h, _⟩ | ⟨h, _⟩ | ⟨_, _, _, e, _⟩
              · exact absurd h.1 (by decide)
              · exact h
              · exact absurd h.1 (by decide)
              · rw [hA] at e; cases e
            have hs := hid hs
            go_wp2_with fail
            have p0_91 : (w90.alloc (.cells #[.int .i64 3, .int .i64 a, .int .i64 b, .int .i64 0] 27)).cell? ⟨w90.heap.size, 0, none⟩ = some (.int .i64 3) := by go_cell
            have p1_91 : (w90.alloc (.cells #[.int .i64 3, .int .i64 a, .int .i64 b, .int .i64 0] 27)).cell? ⟨w90.heap.size, 1, none⟩ = some (.int .i64 a) := by go_cell
            have p2_91 : (w90.alloc (.cells #[.int .i64 3, .int .i64 a, .int .i64 b, .int .i64 0] 27)).cell? ⟨w90.heap.size, 2, none⟩ = some (.int .i64 b) := by go_cell
            have p3_91 : (w90.alloc (.cells #[.int .i64 3, .int .i64 a, .int .i64 b, .int .i64 0] 27)).cell? ⟨w90.heap.size, 3, none⟩ = some (.int .i64 0) := by go_cell
            have pl_91 : w90.heap.size < (w90.alloc (.cells #[.int .i64 3, .int .i64 a, .int .i64 b, .int .i64 0] 27)).heap.size := by simp
            have d91 : Below w90.heap.size w90 (w90.alloc (.cells #[.int .i64 3, .int .i64 a, .int .i64 b, .int .i64 0] 27)) := by go_grown
            generalize (w90.alloc (.cells #[.int .i64 3, .int .i64 a, .int .i64 b, .int .i64 0] 27)) = w91 at p0_91 p1_91 p2_91 p3_91 pl_91 d91 ⊢
            have c91 : Below w.heap.size w w91 := c90.trans (d91.mono c90.size)
            have g0_91 : w91.cell? ⟨w1.heap.size, 0, none⟩ = some (.slice uo L.length uc) := (by rw [d91.cell (by first | omega | (simp; done) | (simp; omega))]; go_cell)
            have gl_91 : w1.heap.size < w91.heap.size := (by have := d91.size; omega)
            have o0_91 : w91.cell? ⟨w1.heap.size + 1, 0, none⟩ = some (.int .i64 2) := (by rw [d91.cell (by first | omega | (simp; done) | (simp; omega))]; go_cell)
            have o1_91 : w91.cell? ⟨w1.heap.size + 1, 1, none⟩ = some (.int .i64 a) := (by rw [d91.cell (by first | omega | (simp; done) | (simp; omega))]; go_cell)
            have o2_91 : w91.cell? ⟨w1.heap.size + 1, 2, none⟩ = some (.int .i64 b) := (by rw [d91.cell (by first | omega | (simp; done) | (simp; omega))]; go_cell)
            have o3_91 : w91.cell? ⟨w1.heap.size + 1, 3, none⟩ = some (.int .i64 x) := (by rw [d91.cell (by first | omega | (simp; done) | (simp; omega))]; go_cell)
            have ol_91 : w1.heap.size + 1 < w91.heap.size := (by have := d91.size; omega)
            have x0_91 : w91.cell? ⟨w4.heap.size, 0, none⟩ = some (.slice (some ⟨gx, 0, none⟩) 24 24) := (by rw [d91.cell (by first | omega | (simp; done) | (simp; omega))]; go_cell)
            have xl_91 : w4.heap.size < w91.heap.size := (by have := d91.size; omega)
            clear g0_90 gl_90 o0_90 o1_90 o2_90 o3_90 ol_90 x0_90 xl_90
            have HL_91 := hid (HL_90.out.later d91)
            have HX_91 := hid (HX_90.out.later d91)
            clear d91 HL_90 HX_90
            refine (implGDo_rd _ (doG L 2 a b x) 3 a b 0 _ HX_91.out hokA.out rfl).mono ?_
            rintro e w92 ⟨⟨gp, rfl, hx⟩, b92⟩
            have d92 : Below w91.heap.size w91 w92 := (Below.trans (by go_grown) (b92.mono (by first | omega | (simp; done) | (simp; omega))))
            have c92 : Below w.heap.size w w92 := c91.trans (d92.mono c91.size)
            have g0_92 : w92.cell? ⟨w1.heap.size, 0, none⟩ = some (.slice uo L.length uc) := (by rw [b92.cell (by first | omega | (simp; done) | (simp; omega))]; go_cell)
            have gl_92 : w1.heap.size < w92.heap.size := (by have := b92.size; first | omega | (revert this; simp; done) | (revert this; simp; omega))
            have o0_92 : w92.cell? ⟨w1.heap.size + 1, 0, none⟩ = some (.int .i64 2) := (by rw [b92.cell (by first | omega | (simp; done) | (simp; omega))]; go_cell)
            have o1_92 : w92.cell? ⟨w1.heap.size + 1, 1, none⟩ = some (.int .i64 a) := (by rw [b92.cell (by first | omega | (simp; done) | (simp; omega))]; go_cell)
            have o2_92 : w92.cell? ⟨w1.heap.size + 1, 2, none⟩ = some (.int .i64 b) := (by rw [b92.cell (by first | omega | (simp; done) | (simp; omega))]; go_cell)
            have o3_92 : w92.cell? ⟨w1.heap.size + 1, 3, none⟩ = some (.int .i64 x) := (by rw [b92.cell (by first | omega | (simp; done) | (simp; omega))]; go_cell)
            have ol_92 : w1.heap.size + 1 < w92.heap.size := (by have := b92.size; first | omega | (revert this; simp; done) | (revert this; simp; omega))
            have x0_92 : w92.cell? ⟨w4.heap.size, 0, none⟩ = some (.slice (some ⟨gx, 0, none⟩) 24 24) := (by rw [b92.cell (by first | omega | (simp; done) | (simp; omega))]; go_cell)
            have xl_92 : w4.heap.size < w92.heap.size := (by have := b92.size; first | omega | (revert this; simp; done) | (revert this; simp; omega))
            have p0_92 : w92.cell? ⟨w90.heap.size, 0, none⟩ = some (.int .i64 3) := (by rw [b92.cell (by first | omega | (simp; done) | (simp; omega))]; go_cell)
            have p1_92 : w92.cell? ⟨w90.heap.size, 1, none⟩ = some (.int .i64 a) := (by rw [b92.cell (by first | omega | (simp; done) | (simp; omega))]; go_cell)
            have p2_92 : w92.cell? ⟨w90.heap.size, 2, none⟩ = some (.int .i64 b) := (by rw [b92.cell (by first | omega | (simp; done) | (simp; omega))]; go_cell)
            have p3_92 : w92.cell? ⟨w90.heap.size, 3, none⟩ = some (.int .i64 0) := (by rw [b92.cell (by first | omega | (simp; done) | (simp; omega))]; go_cell)
            have pl_92 : w90.heap.size < w92.heap.size := (by have := b92.size; first | omega | (revert this; simp; done) | (revert this; simp; omega))
            clear g0_91 gl_91 o0_91 o1_91 o2_91 o3_91 ol_91 x0_91 xl_91 p0_91 p1_91 p2_91 p3_91 pl_91
            have HL_92 := hid (HL_91.out.later d92)
            have HX_92 := hid (HX_91.out.later d92)
            clear d92 b92 HL_91 HX_91
            have HP_92 := hid hx
            clear hx
            go_wp2_with fail
            have e0_93 : (w92.alloc (.cells #[.slice (some ⟨gp, 0, none⟩) 24 24] 25)).cell? ⟨w92.heap.size, 0, none⟩ = some (.slice (some ⟨gp, 0, none⟩) 24 24) := by go_cell
            have el_93 : w92.heap.size < (w92.alloc (.cells #[.slice (some ⟨gp, 0, none⟩) 24 24] 25)).heap.size := by simp
            have d93 : Below w92.heap.size w92 (w92.alloc (.cells #[.slice (some ⟨gp, 0, none⟩) 24 24] 25)) := by go_grown
            generalize (w92.alloc (.cells #[.slice (some ⟨gp, 0, none⟩) 24 24] 25)) = w93 at e0_93 el_93 d93 ⊢
            have c93 : Below w.heap.size w w93 := c92.trans (d93.mono c92.size)
            have g0_93 : w93.cell? ⟨w1.heap.size, 0, none⟩ = some (.slice uo L.length uc) := (by rw [d93.cell (by first | omega | (simp; done) | (simp; omega))]; go_cell)
            have gl_93 : w1.heap.size < w93.heap.size := (by have := d93.size; omega)
            have o0_93 : w93.cell? ⟨w1.heap.size + 1, 0, none⟩ = some (.int .i64 2) := (by rw [d93.cell (by first | omega | (simp; done) | (simp; omega))]; go_cell)
            have o1_93 : w93.cell? ⟨w1.heap.size + 1, 1, none⟩ = some (.int .i64 a) := (by rw [d93.cell (by first | omega | (simp; done) | (simp; omega))]; go_cell)
            have o2_93 : w93.cell? ⟨w1.heap.size + 1, 2, none⟩ = some (.int .i64 b) := (by rw [d93.cell (by first | omega | (simp; done) | (simp; omega))]; go_cell)
            have o3_93 : w93.cell? ⟨w1.heap.size + 1, 3, none⟩ = some (.int .i64 x) := (by rw [d93.cell (by first | omega | (simp; done) | (simp; omega))]; go_cell)
            have ol_93 : w1.heap.size + 1 < w93.heap.size := (by have := d93.size; omega)
            have x0_93 : w93.cell? ⟨w4.heap.size, 0, none⟩ = some (.slice (some ⟨gx, 0, none⟩) 24 24) := (by rw [d93.cell (by first | omega | (simp; done) | (simp; omega))]; go_cell)
            have xl_93 : w4.heap.size < w93.heap.size := (by have := d93.size; omega)
            have p0_93 : w93.cell? ⟨w90.heap.size, 0, none⟩ = some (.int .i64 3) := (by rw [d93.cell (by first | omega | (simp; done) | (simp; omega))]; go_cell)
            have p1_93 : w93.cell? ⟨w90.heap.size, 1, none⟩ = some (.int .i64 a) := (by rw [d93.cell (by first | omega | (simp; done) | (simp; omega))]; go_cell)
            have p2_93 : w93.cell? ⟨w90.heap.size, 2, none⟩ = some (.int .i64 b) := (by rw [d93.cell (by first | omega | (simp; done) | (simp; omega))]; go_cell)
            have p3_93 : w93.cell? ⟨w90.heap.size, 3, none⟩ = some (.int .i64 0) := (by rw [d93.cell (by first | omega | (simp; done) | (simp; omega))]; go_cell)
            have pl_93 : w90.heap.size < w93.heap.size := (by have := d93.size; omega)
            clear g0_92 gl_92 o0_92 o1_92 o2_92 o3_92 ol_92 x0_92 xl_92 p0_92 p1_92 p2_92 p3_92 pl_92
            have HL_93 := hid (HL_92.out.later d93)
            have HX_93 := hid (HX_92.out.later d93)
            have HP_93 := hid (HP_92.out.later d93)
            clear d93 HL_92 HX_92 HP_92
            refine (implGDo_rd _ L 3 a b 0 _ HL_93.out hokh.out rfl).mono ?_
            rintro e w94 ⟨⟨gq, rfl, hx⟩, b94⟩
            have d94 : Below w93.heap.size w93 w94 := (Below.trans (by go_grown) (b94.mono (by first | omega | (simp; done) | (simp; omega))))
            have c94 : Below w.heap.size w w94 := c93.trans (d94.mono c93.size)
            have g0_94 : w94.cell? ⟨w1.heap.size, 0, none⟩ = some (.slice uo L.length uc) := (by rw [b94.cell (by first | omega | (simp; done) | (simp; omega))]; go_cell)
            have gl_94 : w1.heap.size < w94.heap.size := (by have := b94.size; first | omega | (revert this; simp; done) | (revert this; simp; omega))
            have o0_94 : w94.cell? ⟨w1.heap.size + 1, 0, none⟩ = some (.int .i64 2) := (by rw [b94.cell (by first | omega | (simp; done) | (simp; omega))]; go_cell)
            have o1_94 : w94.cell? ⟨w1.heap.size + 1, 1, none⟩ = some (.int .i64 a) := (by rw [b94.cell (by first | omega | (simp; done) | (simp; omega))]; go_cell)
            have o2_94 : w94.cell? ⟨w1.heap.size + 1, 2, none⟩ = some (.int .i64 b) := (by rw [b94.cell (by first | omega | (simp; done) | (simp; omega))]; go_cell)
            have o3_94 : w94.cell? ⟨w1.heap.size + 1, 3, none⟩ = some (.int .i64 x) := (by rw [b94.cell (by first | omega | (simp; done) | (simp; omega))]; go_cell)
            have ol_94 : w1.heap.size + 1 < w94.heap.size := (by have := b94.size; first | omega | (revert this; simp; done) | (revert this; simp; omega))
            have x0_94 : w94.cell? ⟨w4.heap.size, 0, none⟩ = some (.slice (some ⟨gx, 0, none⟩) 24 24) := (by rw [b94.cell (by first | omega | (simp; done) | (simp; omega))]; go_cell)
            have xl_94 : w4.heap.size < w94.heap.size := (by have := b94.size; first | omega | (revert this; simp; done) | (revert this; simp; omega))
            have p0_94 : w94.cell? ⟨w90.heap.size, 0, none⟩ = some (.int .i64 3) := (by rw [b94.cell (by first | omega | (simp; done) | (simp; omega))]; go_cell)
            have p1_94 : w94.cell? ⟨w90.heap.size, 1, none⟩ = some (.int .i64 a) := (by rw [b94.cell (by first | omega | (simp; done) | (simp; omega))]; go_cell)
            have p2_94 : w94.cell? ⟨w90.heap.size, 2, none⟩ = some (.int .i64 b) := (by rw [b94.cell (by first | omega | (simp; done) | (simp; omega))]; go_cell)
            have p3_94 : w94.cell? ⟨w90.heap.size, 3, none⟩ = some (.int .i64 0) := (by rw [b94.cell (by first | omega | (simp; done) | (simp; omega))]; go_cell)
            have pl_94 : w90.heap.size < w94.heap.size := (by have := b94.size; first | omega | (revert this; simp; done) | (revert this; simp; omega))
            have e0_94 : w94.cell? ⟨w92.heap.size, 0, none⟩ = some (.slice (some ⟨gp, 0, none⟩) 24 24) := (by rw [b94.cell (by first | omega | (simp; done) | (simp; omega))]; go_cell)
            have el_94 : w92.heap.size < w94.heap.size := (by have := b94.size; first | omega | (revert this; simp; done) | (revert this; simp; omega))
            clear g0_93 gl_93 o0_93 o1_93 o2_93 o3_93 ol_93 x0_93 xl_93 p0_93 p1_93 p2_93 p3_93 pl_93 e0_93 el_93
            have HL_94 := hid (HL_93.out.later d94)
            have HX_94 := hid (HX_93.out.later d94)
            have HP_94 := hid (HP_93.out.later d94)
            clear d94 b94 HL_93 HX_93 HP_93
            have HQ_94 := hid hx
            clear hx
            go_wp2_with fail
            have f0_95 : (w94.alloc (.cells #[.slice (some ⟨gq, 0, none⟩) 24 24] 25)).cell? ⟨w94.heap.size, 0, none⟩ = some (.slice (some ⟨gq, 0, none⟩) 24 24) := by go_cell
            have fl_95 : w94.heap.size < (w94.alloc (.cells #[.slice (some ⟨gq, 0, none⟩) 24 24] 25)).heap.size := by simp
            have d95 : Below w94.heap.size w94 (w94.alloc (.cells #[.slice (some ⟨gq, 0, none⟩) 24 24] 25)) := by go_grown
            generalize (w94.alloc (.cells #[.slice (some ⟨gq, 0, none⟩) 24 24] 25)) = w95 at f0_95 fl_95 d95 ⊢
            have c95 : Below w.heap.size w w95 := c94.trans (d95.mono c94.size)
            have g0_95 : w95.cell? ⟨w1.heap.size, 0, none⟩ = some (.slice uo L.length uc) := (by rw [d95.cell (by first | omega | (simp; done) | (simp; omega))]; go_cell)
            have gl_95 : w1.heap.size < w95.heap.size := (by have := d95.size; omega)
            have o0_95 : w95.cell? ⟨w1.heap.size + 1, 0, none⟩ = some (.int .i64 2) := (by rw [d95.cell (by first | omega | (simp; done) | (simp; omega))]; go_cell)
            have o1_95 : w95.cell? ⟨w1.heap.size + 1, 1, none⟩ = some (.int .i64 a) := (by rw [d95.cell (by first | omega | (simp; done) | (simp; omega))]; go_cell)
            have o2_95 : w95.cell? ⟨w1.heap.size + 1, 2, none⟩ = some (.int .i64 b) := (by rw [d95.cell (by first | omega | (simp; done) | (simp; omega))]; go_cell)
            have o3_95 : w95.cell? ⟨w1.heap.size + 1, 3, none⟩ = some (.int .i64 x) := (by rw [d95.cell (by first | omega | (simp; done) | (simp; omega))]; go_cell)
            have ol_95 : w1.heap.size + 1 < w95.heap.size := (by have := d95.size; omega)
            have x0_95 : w95.cell? ⟨w4.heap.size, 0, none⟩ = some (.slice (some ⟨gx, 0, none⟩) 24 24) := (by rw [d95.cell (by first | omega | (simp; done) | (simp; omega))]; go_cell)
            have xl_95 : w4.heap.size < w95.heap.size := (by have := d95.size; omega)
            have p0_95 : w95.cell? ⟨w90.heap.size, 0, none⟩ = some (.int .i64 3) := (by rw [d95.cell (by first | omega | (simp; done) | (simp; omega))]; go_cell)
            have p1_95 : w95.cell? ⟨w90.heap.size, 1, none⟩ = some (.int .i64 a) := (by rw [d95.cell (by first | omega | (simp; done) | (simp; omega))]; go_cell)
            have p2_95 : w95.cell? ⟨w90.heap.size, 2, none⟩ = some (.int .i64 b) := (by rw [d95.cell (by first | omega | (simp; done) | (simp; omega))]; go_cell)
            have p3_95 : w95.cell? ⟨w90.heap.size, 3, none⟩ = some (.int .i64 0) := (by rw [d95.cell (by first | omega | (simp; done) | (simp; omega))]; go_cell)
            have pl_95 : w90.heap.size < w95.heap.size := (by have := d95.size; omega)
            have e0_95 : w95.cell? ⟨w92.heap.size, 0, none⟩ = some (.slice (some ⟨gp, 0, none⟩) 24 24) := (by rw [d95.cell (by first | omega | (simp; done) | (simp; omega))]; go_cell)
            have el_95 : w92.heap.size < w95.heap.size := (by have := d95.size; omega)
            clear g0_94 gl_94 o0_94 o1_94 o2_94 o3_94 ol_94 x0_94 xl_94 p0_94 p1_94 p2_94 p3_94 pl_94 e0_94 el_94
            have HL_95 := hid (HL_94.out.later d95)
            have HX_95 := hid (HX_94.out.later d95)
            have HP_95 := hid (HP_94.out.later d95)
            have HQ_95 := hid (HQ_94.out.later d95)
            clear d95 HL_94 HX_94 HP_94 HQ_94
            refine (gsame_is HP_95.out HQ_95.out (doG_part hokh.out hs.out)).mono ?_
            rintro e w96 ⟨rfl, b96⟩
            have d96 : Below w95.heap.size w95 w96 := (Below.trans (by go_grown) (b96.mono (by first | omega | (simp; done) | (simp; omega))))
            have c96 : Below w.heap.size w w96 := c95.trans (d96.mono c95.size)
            have g0_96 : w96.cell? ⟨w1.heap.size, 0, none⟩ = some (.slice uo L.length uc) := (by rw [b96.cell (by first | omega | (simp; done) | (simp; omega))]; go_cell)
            have gl_96 : w1.heap.size < w96.heap.size := (by have := b96.size; first | omega | (revert this; simp; done) | (revert this; simp; omega))
            have o0_96 : w96.cell? ⟨w1.heap.size + 1, 0, none⟩ = some (.int .i64 2) := (by rw [b96.cell (by first | omega | (simp; done) | (simp; omega))]; go_cell)
            have o1_96 : w96.cell? ⟨w1.heap.size + 1, 1, none⟩ = some (.int .i64 a) := (by rw [b96.cell (by first | omega | (simp; done) | (simp; omega))]; go_cell)
            have o2_96 : w96.cell? ⟨w1.heap.size + 1, 2, none⟩ = some (.int .i64 b) := (by rw [b96.cell (by first | omega | (simp; done) | (simp; omega))]; go_cell)
            have o3_96 : w96.cell? ⟨w1.heap.size + 1, 3, none⟩ = some (.int .i64 x) := (by rw [b96.cell (by first | omega | (simp; done) | (simp; omega))]; go_cell)
            have ol_96 : w1.heap.size + 1 < w96.heap.size := (by have := b96.size; first | omega | (revert this; simp; done) | (revert this; simp; omega))
            have x0_96 : w96.cell? ⟨w4.heap.size, 0, none⟩ = some (.slice (some ⟨gx, 0, none⟩) 24 24) := (by rw [b96.cell (by first | omega | (simp; done) | (simp; omega))]; go_cell)
            have xl_96 : w4.heap.size < w96.heap.size := (by have := b96.size; first | omega | (revert this; simp; done) | (revert this; simp; omega))
            have p0_96 : w96.cell? ⟨w90.heap.size, 0, none⟩ = some (.int .i64 3) := (by rw [b96.cell (by first | omega | (simp; done) | (simp; omega))]; go_cell)
            have p1_96 : w96.cell? ⟨w90.heap.size, 1, none⟩ = some (.int .i64 a) := (by rw [b96.cell (by first | omega | (simp; done) | (simp; omega))]; go_cell)
            have p2_96 : w96.cell? ⟨w90.heap.size, 2, none⟩ = some (.int .i64 b) := (by rw [b96.cell (by first | omega | (simp; done) | (simp; omega))]; go_cell)
            have p3_96 : w96.cell? ⟨w90.heap.size, 3, none⟩ = some (.int .i64 0) := (by rw [b96.cell (by first | omega | (simp; done) | (simp; omega))]; go_cell)
            have pl_96 : w90.heap.size < w96.heap.size := (by have := b96.size; first | omega | (revert this; simp; done) | (revert this; simp; omega))
            have e0_96 : w96.cell? ⟨w92.heap.size, 0, none⟩ = some (.slice (some ⟨gp, 0, none⟩) 24 24) := (by rw [b96.cell (by first | omega | (simp; done) | (simp; omega))]; go_cell)
            have el_96 : w92.heap.size < w96.heap.size := (by have := b96.size; first | omega | (revert this; simp; done) | (revert this; simp; omega))
            have f0_96 : w96.cell? ⟨w94.heap.size, 0, none⟩ = some (.slice (some ⟨gq, 0, none⟩) 24 24) := (by rw [b96.cell (by first | omega | (simp; done) | (simp; omega))]; go_cell)
            have fl_96 : w94.heap.size < w96.heap.size := (by have := b96.size; first | omega | (revert this; simp; done) | (revert this; simp; omega))
            clear g0_95 gl_95 o0_95 o1_95 o2_95 o3_95 ol_95 x0_95 xl_95 p0_95 p1_95 p2_95 p3_95 pl_95 e0_95 el_95 f0_95 fl_95
            have HL_96 := hid (HL_95.out.later d96)
            have HX_96 := hid (HX_95.out.later d96)
            have HP_96 := hid (HP_95.out.later d96)
            have HQ_96 := hid (HQ_95.out.later d96)
            clear d96 b96 HL_95 HX_95 HP_95 HQ_95
            go_wp2
            go_ret
            exact ⟨by simp, (by first | exact c96 | exact Below.trans c96 (Below.mono (by go_grown) c96.size))⟩
          · have hk' : (k != 2) = true := by simpa using hk
            go_wp2
            go_ret
            exact ⟨by simp, c90⟩
end Go.Proofs.YtkmhnjgncnoddaaGreat

/- Part: What every row here asks of the program: two closed facts. -/
namespace Go.Proofs.YtkmhnjgncnoddaaGreat
open Go.ChangeShapes Go.WideShapes Go.ChangeAt Go.RowKit
theorem Tryz.own : ownKnob Tryz.prog.godebug = none := by kernel_rfl
theorem Tryz.laidOut : laidOutB Tryz.prog = true := by kernel_rfl
end Go.Proofs.YtkmhnjgncnoddaaGreat

/- Part: An argument that is a slice of bytes. -/
namespace Go.Proofs.YtkmhnjgncnoddaaGreat
open Go.ChangeShapes Go.WideShapes Go.ChangeAt Go.RowKit Go.Deep

theorem Tryz.cells5 : Tryz.prog.cellsOf 5 = 1 := by kernel_rfl

set_option maxRecDepth 100000 in
theorem by_of {H : Type} {enc : TypeId × Value → H} {W : World} {base : Nat} {v : Value} {d : DataW H} {p : List MemPlace} (hv : Value.okWide Tryz.prog W .any base 22 v)
    (h : DataW.Trod enc Tryz.prog W 0 (fun _ => true) true 22 v d p) (hlt : ∀ x ∈ p, x.block < W.heap.size) : ∃ n, Bs W v n := by
  obtain ⟨a0, len, cap, rfl⟩ := okWide_slice Tryz.underlying22 hv
  obtain ⟨fuel, hf⟩ := h
  rcases open_ints Tryz.underlying22 Tryz.underlying5 Tryz.cells5 hf with ⟨hcs, _⟩ | ⟨a, len', cap', zs, hcs, hh, hl, hm, hz, hx, hcell, hwz⟩
  · simp [Value.cells] at hcs
    obtain ⟨rfl, rfl, rfl⟩ := hcs
    exact ⟨0, none, 0, rfl, Nat.zero_le _, Nat.le_refl _, Nat.zero_le _, fun h0 => absurd h0 (Nat.lt_irrefl 0)⟩
  · simp [Value.cells] at hcs
    obtain ⟨rfl, rfl, rfl⟩ := hcs
    simp only [if_true] at hz
    refine ⟨len, some a, cap, rfl, Nat.le_trans hl hm, hl, hm, fun h0 => ?_⟩
    obtain ⟨b, off, spot⟩ := a
    have hs : spot = none := by
      have := hcell 0 (by omega)
      simpa [Addr.add] using World.cell?_spot this
    subst hs
    refine ⟨b, off, rfl, ?_, fun i hi => ?_⟩
    · simp only [Prod.mk.injEq] at hx
      exact hlt (.cell b off) (by rw [hx.2]; exact MemPlace.mem_row.2 ⟨0, by omega, by simp⟩)
    · have hc := hcell i (by omega)
      rw [add_plain] at hc
      have hw := bounds_u8 (hwz (zs.getD i 0) (by rw [List.getD_eq_getElem?_getD, List.getElem?_eq_getElem (by omega)]; exact List.getElem_mem _))
      exact ⟨_, hc, hw.1, by omega⟩
end Go.Proofs.YtkmhnjgncnoddaaGreat

/- Part: Proved here: FnGraph returns true for every slice of bytes (no condition); what it was handed reads as before. -/
namespace Go.Proofs.YtkmhnjgncnoddaaGreat
open Go.ChangeShapes Go.WideShapes Go.ChangeAt Go.RowKit

set_option maxRecDepth 100000 in
theorem fGraph_lifted (os : Os) (started : os.Started) (H : Type) (enc : TypeId × Value → H) :
    ReturnsInHanded {} Tryz.checked os 3 .any (Rows.fnGraphSpec.pre6 enc Tryz.prog Tryz.f3 Rows.fnGraphRow.domain false) (Rows.fnGraphSpec.post enc Tryz.prog Tryz.f3 false true false false) := by
  refine returnsInHanded_of_change (C := Tryz.checked) Tryz.own started (by kernel_rfl) Tryz.func3
    (ChangeSpec.witness6 (enc := enc) (C := Tryz.checked) false ⟨#[], #[.slice none 0 0], []⟩ 8 (by kernel_rfl) (by kernel_rfl) (by kernel_rfl) (by kernel_rfl)) ?_
  intro W base args ds gs before hval0 hW _ _
  have hval : ∀ (j : Nat) t v, Tryz.f3.params[j]? = some t → args[j]? = some v → Value.okWide Tryz.prog W .any base t v := hval0
  have hW' := hW
  obtain ⟨p, q, hA0, hV, rfl, _, _⟩ := hW
  have hA : DataW.TrodAll enc Tryz.prog W 0 (fun _ => true) true Tryz.f3.params.toList args.toList ds p := hA0
  rw [Tryz.params3] at hA hval
  obtain ⟨v0, d0, rfl, rfl, h0⟩ := trodAll_one hA
  obtain ⟨rfl, rfl⟩ := trodVars_none hV
  clear hA0 hval0
  simp only [List.append_nil] at hW'
  have hlt0 : ∀ x ∈ p, x.block < W.heap.size := fun x hx => by have := hW'.lt x (by first | exact hx | (simp; first | exact hx | exact Or.inl hx | exact Or.inr hx | exact Or.inr (Or.inl hx))); exact this
  obtain ⟨l0, hl0⟩ := by_of (hval 0 22 v0 rfl rfl) h0 hlt0
  have hargs0 : ∀ (W' : World), Below W.heap.size W W' → DataW.Trod enc Tryz.prog W' 0 (fun b => decide (b < W.heap.size)) true 22 v0 d0 p :=
    fun W' hn => Below.trod Tryz.laidOut (by kernel_rfl) (of_decide_eq_true (by kernel_rfl)) h0 hn hlt0
  refine (lawFGraph_any v0 l0 W hl0).mono fun e W' ⟨he, hnx⟩ => ?_
  subst he
  exact ⟨_, rfl, _, _, _, [], p, [], hW', trodAll_mk1 (shut_bool Tryz.underlying4 _), trodAll_mk1 (hargs0 _ hnx), rfl, hnx.frame _, fun h => by cases h⟩

theorem fGraph_holds : Rows.FnGraphSaid :=
  OpenClaim.holds_of_wide 3 Tryz.f3 rfl rfl rfl rfl rfl rfl rfl ⟨rfl, rfl, rfl, rfl, rfl⟩ rfl rfl rfl rfl rfl (by kernel_rfl) Tryz.func3 (by kernel_rfl)
    (of_decide_eq_true (by kernel_rfl)) (by unfold Func.isWrapper; first | (rw [if_pos (by decide +kernel)]; kernel_rfl) | (rw [if_neg (by decide +kernel)]; exact ⟨rfl, rfl⟩))
    (fun os started H enc _ => fGraph_lifted os started H enc)
#print axioms fGraph_holds

end Go.Proofs.YtkmhnjgncnoddaaGreat
