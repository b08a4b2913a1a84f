/- An argument that is a slice of bytes. -/
import Derived.Test.YtkmhnjgncnoddaaRowFGOrdAll1
import Derived.Test.YtkmhnjgncnoddaaRows
import Derived.WalkKit
import Derived.ProofKit
import Derived.Test.YtkmhnjgncnoddaaDk
import Derived.OpenShut
import Derived.Deep.SlicePairs
/- Part: The law FnGraphOrder: its walk. Written by a program (gfg.py). -/
namespace Go.Proofs.Ytkmhnjgncnoddaa
open Go.RowKit
attribute [local go_sem ↓] Go.wp_at_zero Go.wp_at_succ

set_option maxRecDepth 100000 in
set_option maxHeartbeats 8000000 in
theorem lawFGOrd_any (v : Value) (n : Nat) (v2 : Value) (n2 : Nat) (w : World) (h : Bs w v n) (h2 : Bs w v2 n2) :
    Calls Try.prog 3 #[v, v2] w fun e w' => e = .returned (.bool true) ∧ Below w.heap.size w w' := by
  have HB1 := hid h
  have HB2 := hid h2
  obtain ⟨ao, cap, hv, h0, _⟩ := h
  subst hv
  obtain ⟨ao2, cap2, hv, h20, _⟩ := h2
  subst hv
  unfold maxLen at h0 h20
  by_cases hbig : 1048576 < n
  · go_enter Try.func3, Try.ntmps3
    go_wp2
    go_ret
    exact ⟨rfl, Below.refl _ _⟩
  by_cases hbig2 : 1048576 < n2
  · go_enter Try.func3, Try.ntmps3
    go_wp2
    go_ret
    exact ⟨rfl, Below.refl _ _⟩
  go_enter Try.func3, Try.ntmps3
  go_wp2_with fail
  refine (drawGraphDo_any _ n _ HB1.out).mono ?_
  rintro e w1 ⟨⟨L, uo, uc, k, a, b, x, rfl, hg⟩, c1⟩
  have HL_1 := hid hg
  clear hg
  go_wp2_with fail
  have g0_2 : (w1.alloc (.cells #[.slice uo L.length uc] 25)).cell? ⟨w1.heap.size, 0, none⟩ = some (.slice uo L.length uc) := by go_cell
  have gl_2 : w1.heap.size < (w1.alloc (.cells #[.slice uo L.length uc] 25)).heap.size := by simp
  have d2 : Below w1.heap.size w1 (w1.alloc (.cells #[.slice uo L.length uc] 25)) := by go_grown
  have sz2 : (w1.alloc (.cells #[.slice uo L.length uc] 25)).heap.size = w1.heap.size + 1 := by simp
  generalize (w1.alloc (.cells #[.slice uo L.length uc] 25)) = w2 at g0_2 gl_2 d2 sz2 ⊢
  have c2 : Below w.heap.size w w2 := c1.trans (d2.mono c1.size)
  have HL_2 := hid (HL_1.out.later d2)
  clear d2 HL_1
  have o0_3 : (w2.alloc (.cells #[.int .i64 k, .int .i64 a, .int .i64 b, .int .i64 x] 27)).cell? ⟨w2.heap.size, 0, none⟩ = some (.int .i64 k) := by go_cell
  have o1_3 : (w2.alloc (.cells #[.int .i64 k, .int .i64 a, .int .i64 b, .int .i64 x] 27)).cell? ⟨w2.heap.size, 1, none⟩ = some (.int .i64 a) := by go_cell
  have o2_3 : (w2.alloc (.cells #[.int .i64 k, .int .i64 a, .int .i64 b, .int .i64 x] 27)).cell? ⟨w2.heap.size, 2, none⟩ = some (.int .i64 b) := by go_cell
  have o3_3 : (w2.alloc (.cells #[.int .i64 k, .int .i64 a, .int .i64 b, .int .i64 x] 27)).cell? ⟨w2.heap.size, 3, none⟩ = some (.int .i64 x) := by go_cell
  have ol_3 : w2.heap.size < (w2.alloc (.cells #[.int .i64 k, .int .i64 a, .int .i64 b, .int .i64 x] 27)).heap.size := by simp
  have d3 : Below w2.heap.size w2 (w2.alloc (.cells #[.int .i64 k, .int .i64 a, .int .i64 b, .int .i64 x] 27)) := by go_grown
  generalize (w2.alloc (.cells #[.int .i64 k, .int .i64 a, .int .i64 b, .int .i64 x] 27)) = w3 at o0_3 o1_3 o2_3 o3_3 ol_3 d3 ⊢
  have c3 : Below w.heap.size w w3 := c2.trans (d3.mono c2.size)
  have g0_3 : w3.cell? ⟨w1.heap.size, 0, none⟩ = some (.slice uo L.length uc) := (by rw [d3.cell (by first | omega | (simp; done) | (simp; omega))]; go_cell)
  have gl_3 : w1.heap.size < w3.heap.size := (by have := d3.size; omega)
  clear g0_2 gl_2
  have HL_3 := hid (HL_2.out.later d3)
  clear d3 HL_2
  rw [sz2] at o0_3 o1_3 o2_3 o3_3 ol_3
  clear sz2
  go_wp2_with fail
  refine (drawGraphDo_any _ n2 _ (HB2.out.later c3)).mono ?_
  rintro e w4 ⟨⟨M, mo, mc, k2, a2, b2, x2, rfl, hg⟩, b4⟩
  have d4 : Below w3.heap.size w3 w4 := (Below.trans (by go_grown) (b4.mono (by first | omega | (simp; done) | (simp; omega))))
  have c4 : Below w.heap.size w w4 := c3.trans (d4.mono c3.size)
  have g0_4 : w4.cell? ⟨w1.heap.size, 0, none⟩ = some (.slice uo L.length uc) := (by rw [b4.cell (by first | omega | (simp; done) | (simp; omega))]; go_cell)
  have gl_4 : w1.heap.size < w4.heap.size := (by have := b4.size; first | omega | (revert this; simp; done) | (revert this; simp; omega))
  have o0_4 : w4.cell? ⟨w1.heap.size + 1, 0, none⟩ = some (.int .i64 k) := (by rw [b4.cell (by first | omega | (simp; done) | (simp; omega))]; go_cell)
  have o1_4 : w4.cell? ⟨w1.heap.size + 1, 1, none⟩ = some (.int .i64 a) := (by rw [b4.cell (by first | omega | (simp; done) | (simp; omega))]; go_cell)
  have o2_4 : w4.cell? ⟨w1.heap.size + 1, 2, none⟩ = some (.int .i64 b) := (by rw [b4.cell (by first | omega | (simp; done) | (simp; omega))]; go_cell)
  have o3_4 : w4.cell? ⟨w1.heap.size + 1, 3, none⟩ = some (.int .i64 x) := (by rw [b4.cell (by first | omega | (simp; done) | (simp; omega))]; go_cell)
  have ol_4 : w1.heap.size + 1 < w4.heap.size := (by have := b4.size; first | omega | (revert this; simp; done) | (revert this; simp; omega))
  clear g0_3 gl_3 o0_3 o1_3 o2_3 o3_3 ol_3
  have HL_4 := hid (HL_3.out.later d4)
  clear d4 b4 HL_3
  have HM_4 := hid hg
  clear hg
  go_wp2_with fail
  have m0_5 : (w4.alloc (.cells #[.slice mo M.length mc] 25)).cell? ⟨w4.heap.size, 0, none⟩ = some (.slice mo M.length mc) := by go_cell
  have ml_5 : w4.heap.size < (w4.alloc (.cells #[.slice mo M.length mc] 25)).heap.size := by simp
  have d5 : Below w4.heap.size w4 (w4.alloc (.cells #[.slice mo M.length mc] 25)) := by go_grown
  have sz5 : (w4.alloc (.cells #[.slice mo M.length mc] 25)).heap.size = w4.heap.size + 1 := by simp
  generalize (w4.alloc (.cells #[.slice mo M.length mc] 25)) = w5 at m0_5 ml_5 d5 sz5 ⊢
  have c5 : Below w.heap.size w w5 := c4.trans (d5.mono c4.size)
  have g0_5 : w5.cell? ⟨w1.heap.size, 0, none⟩ = some (.slice uo L.length uc) := (by rw [d5.cell (by first | omega | (simp; done) | (simp; omega))]; go_cell)
  have gl_5 : w1.heap.size < w5.heap.size := (by have := d5.size; omega)
  have o0_5 : w5.cell? ⟨w1.heap.size + 1, 0, none⟩ = some (.int .i64 k) := (by rw [d5.cell (by first | omega | (simp; done) | (simp; omega))]; go_cell)
  have o1_5 : w5.cell? ⟨w1.heap.size + 1, 1, none⟩ = some (.int .i64 a) := (by rw [d5.cell (by first | omega | (simp; done) | (simp; omega))]; go_cell)
  have o2_5 : w5.cell? ⟨w1.heap.size + 1, 2, none⟩ = some (.int .i64 b) := (by rw [d5.cell (by first | omega | (simp; done) | (simp; omega))]; go_cell)
  have o3_5 : w5.cell? ⟨w1.heap.size + 1, 3, none⟩ = some (.int .i64 x) := (by rw [d5.cell (by first | omega | (simp; done) | (simp; omega))]; go_cell)
  have ol_5 : w1.heap.size + 1 < w5.heap.size := (by have := d5.size; omega)
  clear g0_4 gl_4 o0_4 o1_4 o2_4 o3_4 ol_4
  have HL_5 := hid (HL_4.out.later d5)
  have HM_5 := hid (HM_4.out.later d5)
  clear d5 HL_4 HM_4
  have p0_6 : (w5.alloc (.cells #[.int .i64 k2, .int .i64 a2, .int .i64 b2, .int .i64 x2] 27)).cell? ⟨w5.heap.size, 0, none⟩ = some (.int .i64 k2) := by go_cell
  have p1_6 : (w5.alloc (.cells #[.int .i64 k2, .int .i64 a2, .int .i64 b2, .int .i64 x2] 27)).cell? ⟨w5.heap.size, 1, none⟩ = some (.int .i64 a2) := by go_cell
  have p2_6 : (w5.alloc (.cells #[.int .i64 k2, .int .i64 a2, .int .i64 b2, .int .i64 x2] 27)).cell? ⟨w5.heap.size, 2, none⟩ = some (.int .i64 b2) := by go_cell
  have p3_6 : (w5.alloc (.cells #[.int .i64 k2, .int .i64 a2, .int .i64 b2, .int .i64 x2] 27)).cell? ⟨w5.heap.size, 3, none⟩ = some (.int .i64 x2) := by go_cell
  have pl_6 : w5.heap.size < (w5.alloc (.cells #[.int .i64 k2, .int .i64 a2, .int .i64 b2, .int .i64 x2] 27)).heap.size := by simp
  have d6 : Below w5.heap.size w5 (w5.alloc (.cells #[.int .i64 k2, .int .i64 a2, .int .i64 b2, .int .i64 x2] 27)) := by go_grown
  generalize (w5.alloc (.cells #[.int .i64 k2, .int .i64 a2, .int .i64 b2, .int .i64 x2] 27)) = w6 at p0_6 p1_6 p2_6 p3_6 pl_6 d6 ⊢
  have c6 : Below w.heap.size w w6 := c5.trans (d6.mono c5.size)
  have g0_6 : w6.cell? ⟨w1.heap.size, 0, none⟩ = some (.slice uo L.length uc) := (by rw [d6.cell (by first | omega | (simp; done) | (simp; omega))]; go_cell)
  have gl_6 : w1.heap.size < w6.heap.size := (by have := d6.size; omega)
  have o0_6 : w6.cell? ⟨w1.heap.size + 1, 0, none⟩ = some (.int .i64 k) := (by rw [d6.cell (by first | omega | (simp; done) | (simp; omega))]; go_cell)
  have o1_6 : w6.cell? ⟨w1.heap.size + 1, 1, none⟩ = some (.int .i64 a) := (by rw [d6.cell (by first | omega | (simp; done) | (simp; omega))]; go_cell)
  have o2_6 : w6.cell? ⟨w1.heap.size + 1, 2, none⟩ = some (.int .i64 b) := (by rw [d6.cell (by first | omega | (simp; done) | (simp; omega))]; go_cell)
  have o3_6 : w6.cell? ⟨w1.heap.size + 1, 3, none⟩ = some (.int .i64 x) := (by rw [d6.cell (by first | omega | (simp; done) | (simp; omega))]; go_cell)
  have ol_6 : w1.heap.size + 1 < w6.heap.size := (by have := d6.size; omega)
  have m0_6 : w6.cell? ⟨w4.heap.size, 0, none⟩ = some (.slice mo M.length mc) := (by rw [d6.cell (by first | omega | (simp; done) | (simp; omega))]; go_cell)
  have ml_6 : w4.heap.size < w6.heap.size := (by have := d6.size; omega)
  clear g0_5 gl_5 o0_5 o1_5 o2_5 o3_5 ol_5 m0_5 ml_5
  have HL_6 := hid (HL_5.out.later d6)
  have HM_6 := hid (HM_5.out.later d6)
  clear d6 HL_5 HM_5
  rw [sz5] at p0_6 p1_6 p2_6 p3_6 pl_6
  clear sz5
  clear HB1 HB2
  cases hok : okG L with
  | false =>
    have hokh := hid hok
    clear hok
    go_wp2_with fail
    refine (implGDo_not _ L k a b x _ HL_6.out hokh.out).mono ?_
    rintro e w7 ⟨rfl, b7⟩
    have d7 : Below w6.heap.size w6 w7 := (Below.trans (by go_grown) (b7.mono (by first | omega | (simp; done) | (simp; omega))))
    have c7 : Below w.heap.size w w7 := c6.trans (d7.mono c6.size)
    have g0_7 : w7.cell? ⟨w1.heap.size, 0, none⟩ = some (.slice uo L.length uc) := (by rw [b7.cell (by first | omega | (simp; done) | (simp; omega))]; go_cell)
    have gl_7 : w1.heap.size < w7.heap.size := (by have := b7.size; first | omega | (revert this; simp; done) | (revert this; simp; omega))
    have o0_7 : w7.cell? ⟨w1.heap.size + 1, 0, none⟩ = some (.int .i64 k) := (by rw [b7.cell (by first | omega | (simp; done) | (simp; omega))]; go_cell)
    have o1_7 : w7.cell? ⟨w1.heap.size + 1, 1, none⟩ = some (.int .i64 a) := (by rw [b7.cell (by first | omega | (simp; done) | (simp; omega))]; go_cell)
    have o2_7 : w7.cell? ⟨w1.heap.size + 1, 2, none⟩ = some (.int .i64 b) := (by rw [b7.cell (by first | omega | (simp; done) | (simp; omega))]; go_cell)
    have o3_7 : w7.cell? ⟨w1.heap.size + 1, 3, none⟩ = some (.int .i64 x) := (by rw [b7.cell (by first | omega | (simp; done) | (simp; omega))]; go_cell)
    have ol_7 : w1.heap.size + 1 < w7.heap.size := (by have := b7.size; first | omega | (revert this; simp; done) | (revert this; simp; omega))
    have p0_7 : w7.cell? ⟨w4.heap.size + 1, 0, none⟩ = some (.int .i64 k2) := (by rw [b7.cell (by first | omega | (simp; done) | (simp; omega))]; go_cell)
    have p1_7 : w7.cell? ⟨w4.heap.size + 1, 1, none⟩ = some (.int .i64 a2) := (by rw [b7.cell (by first | omega | (simp; done) | (simp; omega))]; go_cell)
    have p2_7 : w7.cell? ⟨w4.heap.size + 1, 2, none⟩ = some (.int .i64 b2) := (by rw [b7.cell (by first | omega | (simp; done) | (simp; omega))]; go_cell)
    have p3_7 : w7.cell? ⟨w4.heap.size + 1, 3, none⟩ = some (.int .i64 x2) := (by rw [b7.cell (by first | omega | (simp; done) | (simp; omega))]; go_cell)
    have pl_7 : w4.heap.size + 1 < w7.heap.size := (by have := b7.size; first | omega | (revert this; simp; done) | (revert this; simp; omega))
    clear g0_6 gl_6 o0_6 o1_6 o2_6 o3_6 ol_6 p0_6 p1_6 p2_6 p3_6 pl_6
    have HL_7 := hid (HL_6.out.later d7)
    clear d7 b7 HL_6
    go_wp2_with fail
    have x0_8 : (w7.alloc (.cells #[.slice none 0 0] 25)).cell? ⟨w7.heap.size, 0, none⟩ = some (.slice none 0 0) := by go_cell
    have xl_8 : w7.heap.size < (w7.alloc (.cells #[.slice none 0 0] 25)).heap.size := by simp
    have d8 : Below w7.heap.size w7 (w7.alloc (.cells #[.slice none 0 0] 25)) := by go_grown
    generalize (w7.alloc (.cells #[.slice none 0 0] 25)) = w8 at x0_8 xl_8 d8 ⊢
    have c8 : Below w.heap.size w w8 := c7.trans (d8.mono c7.size)
    have g0_8 : w8.cell? ⟨w1.heap.size, 0, none⟩ = some (.slice uo L.length uc) := (by rw [d8.cell (by first | omega | (simp; done) | (simp; omega))]; go_cell)
    have gl_8 : w1.heap.size < w8.heap.size := (by have := d8.size; omega)
    have o0_8 : w8.cell? ⟨w1.heap.size + 1, 0, none⟩ = some (.int .i64 k) := (by rw [d8.cell (by first | omega | (simp; done) | (simp; omega))]; go_cell)
    have o1_8 : w8.cell? ⟨w1.heap.size + 1, 1, none⟩ = some (.int .i64 a) := (by rw [d8.cell (by first | omega | (simp; done) | (simp; omega))]; go_cell)
    have o2_8 : w8.cell? ⟨w1.heap.size + 1, 2, none⟩ = some (.int .i64 b) := (by rw [d8.cell (by first | omega | (simp; done) | (simp; omega))]; go_cell)
    have o3_8 : w8.cell? ⟨w1.heap.size + 1, 3, none⟩ = some (.int .i64 x) := (by rw [d8.cell (by first | omega | (simp; done) | (simp; omega))]; go_cell)
    have ol_8 : w1.heap.size + 1 < w8.heap.size := (by have := d8.size; omega)
    have p0_8 : w8.cell? ⟨w4.heap.size + 1, 0, none⟩ = some (.int .i64 k2) := (by rw [d8.cell (by first | omega | (simp; done) | (simp; omega))]; go_cell)
    have p1_8 : w8.cell? ⟨w4.heap.size + 1, 1, none⟩ = some (.int .i64 a2) := (by rw [d8.cell (by first | omega | (simp; done) | (simp; omega))]; go_cell)
    have p2_8 : w8.cell? ⟨w4.heap.size + 1, 2, none⟩ = some (.int .i64 b2) := (by rw [d8.cell (by first | omega | (simp; done) | (simp; omega))]; go_cell)
    have p3_8 : w8.cell? ⟨w4.heap.size + 1, 3, none⟩ = some (.int .i64 x2) := (by rw [d8.cell (by first | omega | (simp; done) | (simp; omega))]; go_cell)
    have pl_8 : w4.heap.size + 1 < w8.heap.size := (by have := d8.size; omega)
    clear g0_7 gl_7 o0_7 o1_7 o2_7 o3_7 ol_7 p0_7 p1_7 p2_7 p3_7 pl_7
    have HL_8 := hid (HL_7.out.later d8)
    clear d8 HL_7
    refine (specGDo_not _ L k a b x _ HL_8.out hokh.out).mono ?_
    rintro e w9 ⟨rfl, b9⟩
    have d9 : Below w8.heap.size w8 w9 := (Below.trans (by go_grown) (b9.mono (by first | omega | (simp; done) | (simp; omega))))
    have c9 : Below w.heap.size w w9 := c8.trans (d9.mono c8.size)
    have g0_9 : w9.cell? ⟨w1.heap.size, 0, none⟩ = some (.slice uo L.length uc) := (by rw [b9.cell (by first | omega | (simp; done) | (simp; omega))]; go_cell)
    have gl_9 : w1.heap.size < w9.heap.size := (by have := b9.size; first | omega | (revert this; simp; done) | (revert this; simp; omega))
    have o0_9 : w9.cell? ⟨w1.heap.size + 1, 0, none⟩ = some (.int .i64 k) := (by rw [b9.cell (by first | omega | (simp; done) | (simp; omega))]; go_cell)
    have o1_9 : w9.cell? ⟨w1.heap.size + 1, 1, none⟩ = some (.int .i64 a) := (by rw [b9.cell (by first | omega | (simp; done) | (simp; omega))]; go_cell)
    have o2_9 : w9.cell? ⟨w1.heap.size + 1, 2, none⟩ = some (.int .i64 b) := (by rw [b9.cell (by first | omega | (simp; done) | (simp; omega))]; go_cell)
    have o3_9 : w9.cell? ⟨w1.heap.size + 1, 3, none⟩ = some (.int .i64 x) := (by rw [b9.cell (by first | omega | (simp; done) | (simp; omega))]; go_cell)
    have ol_9 : w1.heap.size + 1 < w9.heap.size := (by have := b9.size; first | omega | (revert this; simp; done) | (revert this; simp; omega))
    have p0_9 : w9.cell? ⟨w4.heap.size + 1, 0, none⟩ = some (.int .i64 k2) := (by rw [b9.cell (by first | omega | (simp; done) | (simp; omega))]; go_cell)
    have p1_9 : w9.cell? ⟨w4.heap.size + 1, 1, none⟩ = some (.int .i64 a2) := (by rw [b9.cell (by first | omega | (simp; done) | (simp; omega))]; go_cell)
    have p2_9 : w9.cell? ⟨w4.heap.size + 1, 2, none⟩ = some (.int .i64 b2) := (by rw [b9.cell (by first | omega | (simp; done) | (simp; omega))]; go_cell)
    have p3_9 : w9.cell? ⟨w4.heap.size + 1, 3, none⟩ = some (.int .i64 x2) := (by rw [b9.cell (by first | omega | (simp; done) | (simp; omega))]; go_cell)
    have pl_9 : w4.heap.size + 1 < w9.heap.size := (by have := b9.size; first | omega | (revert this; simp; done) | (revert this; simp; omega))
    have x0_9 : w9.cell? ⟨w7.heap.size, 0, none⟩ = some (.slice none 0 0) := (by rw [b9.cell (by first | omega | (simp; done) | (simp; omega))]; go_cell)
    have xl_9 : w7.heap.size < w9.heap.size := (by have := b9.size; first | omega | (revert this; simp; done) | (revert this; simp; omega))
    clear g0_8 gl_8 o0_8 o1_8 o2_8 o3_8 ol_8 p0_8 p1_8 p2_8 p3_8 pl_8 x0_8 xl_8
    have HL_9 := hid (HL_8.out.later d9)
    clear d9 b9 HL_8
    go_wp2_with fail
    have y0_10 : (w9.alloc (.cells #[.slice none 0 0] 25)).cell? ⟨w9.heap.size, 0, none⟩ = some (.slice none 0 0) := by go_cell
    have yl_10 : w9.heap.size < (w9.alloc (.cells #[.slice none 0 0] 25)).heap.size := by simp
    have d10 : Below w9.heap.size w9 (w9.alloc (.cells #[.slice none 0 0] 25)) := by go_grown
    generalize (w9.alloc (.cells #[.slice none 0 0] 25)) = w10 at y0_10 yl_10 d10 ⊢
    have c10 : Below w.heap.size w w10 := c9.trans (d10.mono c9.size)
    have g0_10 : w10.cell? ⟨w1.heap.size, 0, none⟩ = some (.slice uo L.length uc) := (by rw [d10.cell (by first | omega | (simp; done) | (simp; omega))]; go_cell)
    have gl_10 : w1.heap.size < w10.heap.size := (by have := d10.size; omega)
    have o0_10 : w10.cell? ⟨w1.heap.size + 1, 0, none⟩ = some (.int .i64 k) := (by rw [d10.cell (by first | omega | (simp; done) | (simp; omega))]; go_cell)
    have o1_10 : w10.cell? ⟨w1.heap.size + 1, 1, none⟩ = some (.int .i64 a) := (by rw [d10.cell (by first | omega | (simp; done) | (simp; omega))]; go_cell)
    have o2_10 : w10.cell? ⟨w1.heap.size + 1, 2, none⟩ = some (.int .i64 b) := (by rw [d10.cell (by first | omega | (simp; done) | (simp; omega))]; go_cell)
    have o3_10 : w10.cell? ⟨w1.heap.size + 1, 3, none⟩ = some (.int .i64 x) := (by rw [d10.cell (by first | omega | (simp; done) | (simp; omega))]; go_cell)
    have ol_10 : w1.heap.size + 1 < w10.heap.size := (by have := d10.size; omega)
    have p0_10 : w10.cell? ⟨w4.heap.size + 1, 0, none⟩ = some (.int .i64 k2) := (by rw [d10.cell (by first | omega | (simp; done) | (simp; omega))]; go_cell)
    have p1_10 : w10.cell? ⟨w4.heap.size + 1, 1, none⟩ = some (.int .i64 a2) := (by rw [d10.cell (by first | omega | (simp; done) | (simp; omega))]; go_cell)
    have p2_10 : w10.cell? ⟨w4.heap.size + 1, 2, none⟩ = some (.int .i64 b2) := (by rw [d10.cell (by first | omega | (simp; done) | (simp; omega))]; go_cell)
    have p3_10 : w10.cell? ⟨w4.heap.size + 1, 3, none⟩ = some (.int .i64 x2) := (by rw [d10.cell (by first | omega | (simp; done) | (simp; omega))]; go_cell)
    have pl_10 : w4.heap.size + 1 < w10.heap.size := (by have := d10.size; omega)
    have x0_10 : w10.cell? ⟨w7.heap.size, 0, none⟩ = some (.slice none 0 0) := (by rw [d10.cell (by first | omega | (simp; done) | (simp; omega))]; go_cell)
    have xl_10 : w7.heap.size < w10.heap.size := (by have := d10.size; omega)
    clear g0_9 gl_9 o0_9 o1_9 o2_9 o3_9 ol_9 p0_9 p1_9 p2_9 p3_9 pl_9 x0_9 xl_9
    have HL_10 := hid (HL_9.out.later d10)
    clear d10 HL_9
    refine (implGDo_not _ L k2 a2 b2 x2 _ HL_10.out hokh.out).mono ?_
    rintro e w11 ⟨rfl, b11⟩
    have d11 : Below w10.heap.size w10 w11 := (Below.trans (by go_grown) (b11.mono (by first | omega | (simp; done) | (simp; omega))))
    have c11 : Below w.heap.size w w11 := c10.trans (d11.mono c10.size)
    have g0_11 : w11.cell? ⟨w1.heap.size, 0, none⟩ = some (.slice uo L.length uc) := (by rw [b11.cell (by first | omega | (simp; done) | (simp; omega))]; go_cell)
    have gl_11 : w1.heap.size < w11.heap.size := (by have := b11.size; first | omega | (revert this; simp; done) | (revert this; simp; omega))
    have o0_11 : w11.cell? ⟨w1.heap.size + 1, 0, none⟩ = some (.int .i64 k) := (by rw [b11.cell (by first | omega | (simp; done) | (simp; omega))]; go_cell)
    have o1_11 : w11.cell? ⟨w1.heap.size + 1, 1, none⟩ = some (.int .i64 a) := (by rw [b11.cell (by first | omega | (simp; done) | (simp; omega))]; go_cell)
    have o2_11 : w11.cell? ⟨w1.heap.size + 1, 2, none⟩ = some (.int .i64 b) := (by rw [b11.cell (by first | omega | (simp; done) | (simp; omega))]; go_cell)
    have o3_11 : w11.cell? ⟨w1.heap.size + 1, 3, none⟩ = some (.int .i64 x) := (by rw [b11.cell (by first | omega | (simp; done) | (simp; omega))]; go_cell)
    have ol_11 : w1.heap.size + 1 < w11.heap.size := (by have := b11.size; first | omega | (revert this; simp; done) | (revert this; simp; omega))
    have p0_11 : w11.cell? ⟨w4.heap.size + 1, 0, none⟩ = some (.int .i64 k2) := (by rw [b11.cell (by first | omega | (simp; done) | (simp; omega))]; go_cell)
    have p1_11 : w11.cell? ⟨w4.heap.size + 1, 1, none⟩ = some (.int .i64 a2) := (by rw [b11.cell (by first | omega | (simp; done) | (simp; omega))]; go_cell)
    have p2_11 : w11.cell? ⟨w4.heap.size + 1, 2, none⟩ = some (.int .i64 b2) := (by rw [b11.cell (by first | omega | (simp; done) | (simp; omega))]; go_cell)
    have p3_11 : w11.cell? ⟨w4.heap.size + 1, 3, none⟩ = some (.int .i64 x2) := (by rw [b11.cell (by first | omega | (simp; done) | (simp; omega))]; go_cell)
    have pl_11 : w4.heap.size + 1 < w11.heap.size := (by have := b11.size; first | omega | (revert this; simp; done) | (revert this; simp; omega))
    have x0_11 : w11.cell? ⟨w7.heap.size, 0, none⟩ = some (.slice none 0 0) := (by rw [b11.cell (by first | omega | (simp; done) | (simp; omega))]; go_cell)
    have xl_11 : w7.heap.size < w11.heap.size := (by have := b11.size; first | omega | (revert this; simp; done) | (revert this; simp; omega))
    have y0_11 : w11.cell? ⟨w9.heap.size, 0, none⟩ = some (.slice none 0 0) := (by rw [b11.cell (by first | omega | (simp; done) | (simp; omega))]; go_cell)
    have yl_11 : w9.heap.size < w11.heap.size := (by have := b11.size; first | omega | (revert this; simp; done) | (revert this; simp; omega))
    clear g0_10 gl_10 o0_10 o1_10 o2_10 o3_10 ol_10 p0_10 p1_10 p2_10 p3_10 pl_10 x0_10 xl_10 y0_10 yl_10
    have HL_11 := hid (HL_10.out.later d11)
    clear d11 b11 HL_10
    go_wp2
    go_ret
    exact ⟨by simp, (by first | exact c11 | exact Below.trans c11 (Below.mono (by go_grown) c11.size))⟩
  | true =>
    have hokh := hid hok
    clear hok
    cases hA : opOk k a b x with
    | false =>
      cases hB : opOk k2 a2 b2 x2 <;> skip
      all_goals
        go_wp2_with fail
        refine (implGDo_rd _ L k a b x _ HL_6.out hokh.out hA).mono ?_
        rintro e w7 ⟨⟨gx, rfl, hx⟩, b7⟩
        have d7 : Below w6.heap.size w6 w7 := (Below.trans (by go_grown) (b7.mono (by first | omega | (simp; done) | (simp; omega))))
        have c7 : Below w.heap.size w w7 := c6.trans (d7.mono c6.size)
        have g0_7 : w7.cell? ⟨w1.heap.size, 0, none⟩ = some (.slice uo L.length uc) := (by rw [b7.cell (by first | omega | (simp; done) | (simp; omega))]; go_cell)
        have gl_7 : w1.heap.size < w7.heap.size := (by have := b7.size; first | omega | (revert this; simp; done) | (revert this; simp; omega))
        have o0_7 : w7.cell? ⟨w1.heap.size + 1, 0, none⟩ = some (.int .i64 k) := (by rw [b7.cell (by first | omega | (simp; done) | (simp; omega))]; go_cell)
        have o1_7 : w7.cell? ⟨w1.heap.size + 1, 1, none⟩ = some (.int .i64 a) := (by rw [b7.cell (by first | omega | (simp; done) | (simp; omega))]; go_cell)
        have o2_7 : w7.cell? ⟨w1.heap.size + 1, 2, none⟩ = some (.int .i64 b) := (by rw [b7.cell (by first | omega | (simp; done) | (simp; omega))]; go_cell)
        have o3_7 : w7.cell? ⟨w1.heap.size + 1, 3, none⟩ = some (.int .i64 x) := (by rw [b7.cell (by first | omega | (simp; done) | (simp; omega))]; go_cell)
        have ol_7 : w1.heap.size + 1 < w7.heap.size := (by have := b7.size; first | omega | (revert this; simp; done) | (revert this; simp; omega))
        have p0_7 : w7.cell? ⟨w4.heap.size + 1, 0, none⟩ = some (.int .i64 k2) := (by rw [b7.cell (by first | omega | (simp; done) | (simp; omega))]; go_cell)
        have p1_7 : w7.cell? ⟨w4.heap.size + 1, 1, none⟩ = some (.int .i64 a2) := (by rw [b7.cell (by first | omega | (simp; done) | (simp; omega))]; go_cell)
        have p2_7 : w7.cell? ⟨w4.heap.size + 1, 2, none⟩ = some (.int .i64 b2) := (by rw [b7.cell (by first | omega | (simp; done) | (simp; omega))]; go_cell)
        have p3_7 : w7.cell? ⟨w4.heap.size + 1, 3, none⟩ = some (.int .i64 x2) := (by rw [b7.cell (by first | omega | (simp; done) | (simp; omega))]; go_cell)
        have pl_7 : w4.heap.size + 1 < w7.heap.size := (by have := b7.size; first | omega | (revert this; simp; done) | (revert this; simp; omega))
        clear g0_6 gl_6 o0_6 o1_6 o2_6 o3_6 ol_6 p0_6 p1_6 p2_6 p3_6 pl_6
        have HL_7 := hid (HL_6.out.later d7)
        clear d7 b7 HL_6
        have HX_7 := hid hx
        clear hx
        go_wp2_with fail
        have x0_8 : (w7.alloc (.cells #[.slice (some ⟨gx, 0, none⟩) 24 24] 25)).cell? ⟨w7.heap.size, 0, none⟩ = some (.slice (some ⟨gx, 0, none⟩) 24 24) := by go_cell
        have xl_8 : w7.heap.size < (w7.alloc (.cells #[.slice (some ⟨gx, 0, none⟩) 24 24] 25)).heap.size := by simp
        have d8 : Below w7.heap.size w7 (w7.alloc (.cells #[.slice (some ⟨gx, 0, none⟩) 24 24] 25)) := by go_grown
        generalize (w7.alloc (.cells #[.slice (some ⟨gx, 0, none⟩) 24 24] 25)) = w8 at x0_8 xl_8 d8 ⊢
        have c8 : Below w.heap.size w w8 := c7.trans (d8.mono c7.size)
        have g0_8 : w8.cell? ⟨w1.heap.size, 0, none⟩ = some (.slice uo L.length uc) := (by rw [d8.cell (by first | omega | (simp; done) | (simp; omega))]; go_cell)
        have gl_8 : w1.heap.size < w8.heap.size := (by have := d8.size; omega)
        have o0_8 : w8.cell? ⟨w1.heap.size + 1, 0, none⟩ = some (.int .i64 k) := (by rw [d8.cell (by first | omega | (simp; done) | (simp; omega))]; go_cell)
        have o1_8 : w8.cell? ⟨w1.heap.size + 1, 1, none⟩ = some (.int .i64 a) := (by rw [d8.cell (by first | omega | (simp; done) | (simp; omega))]; go_cell)
        have o2_8 : w8.cell? ⟨w1.heap.size + 1, 2, none⟩ = some (.int .i64 b) := (by rw [d8.cell (by first | omega | (simp; done) | (simp; omega))]; go_cell)
        have o3_8 : w8.cell? ⟨w1.heap.size + 1, 3, none⟩ = some (.int .i64 x) := (by rw [d8.cell (by first | omega | (simp; done) | (simp; omega))]; go_cell)
        have ol_8 : w1.heap.size + 1 < w8.heap.size := (by have := d8.size; omega)
        have p0_8 : w8.cell? ⟨w4.heap.size + 1, 0, none⟩ = some (.int .i64 k2) := (by rw [d8.cell (by first | omega | (simp; done) | (simp; omega))]; go_cell)
        have p1_8 : w8.cell? ⟨w4.heap.size + 1, 1, none⟩ = some (.int .i64 a2) := (by rw [d8.cell (by first | omega | (simp; done) | (simp; omega))]; go_cell)
        have p2_8 : w8.cell? ⟨w4.heap.size + 1, 2, none⟩ = some (.int .i64 b2) := (by rw [d8.cell (by first | omega | (simp; done) | (simp; omega))]; go_cell)
        have p3_8 : w8.cell? ⟨w4.heap.size + 1, 3, none⟩ = some (.int .i64 x2) := (by rw [d8.cell (by first | omega | (simp; done) | (simp; omega))]; go_cell)
        have pl_8 : w4.heap.size + 1 < w8.heap.size := (by have := d8.size; omega)
        clear g0_7 gl_7 o0_7 o1_7 o2_7 o3_7 ol_7 p0_7 p1_7 p2_7 p3_7 pl_7
        have HL_8 := hid (HL_7.out.later d8)
        have HX_8 := hid (HX_7.out.later d8)
        clear d8 HL_7 HX_7
        refine (specGDo_rd _ L k a b x _ HL_8.out hokh.out hA).mono ?_
        rintro e w9 ⟨⟨gs, cs, rfl, hx⟩, b9⟩
        have d9 : Below w8.heap.size w8 w9 := (Below.trans (by go_grown) (b9.mono (by first | omega | (simp; done) | (simp; omega))))
        have c9 : Below w.heap.size w w9 := c8.trans (d9.mono c8.size)
        have g0_9 : w9.cell? ⟨w1.heap.size, 0, none⟩ = some (.slice uo L.length uc) := (by rw [b9.cell (by first | omega | (simp; done) | (simp; omega))]; go_cell)
        have gl_9 : w1.heap.size < w9.heap.size := (by have := b9.size; first | omega | (revert this; simp; done) | (revert this; simp; omega))
        have o0_9 : w9.cell? ⟨w1.heap.size + 1, 0, none⟩ = some (.int .i64 k) := (by rw [b9.cell (by first | omega | (simp; done) | (simp; omega))]; go_cell)
        have o1_9 : w9.cell? ⟨w1.heap.size + 1, 1, none⟩ = some (.int .i64 a) := (by rw [b9.cell (by first | omega | (simp; done) | (simp; omega))]; go_cell)
        have o2_9 : w9.cell? ⟨w1.heap.size + 1, 2, none⟩ = some (.int .i64 b) := (by rw [b9.cell (by first | omega | (simp; done) | (simp; omega))]; go_cell)
        have o3_9 : w9.cell? ⟨w1.heap.size + 1, 3, none⟩ = some (.int .i64 x) := (by rw [b9.cell (by first | omega | (simp; done) | (simp; omega))]; go_cell)
        have ol_9 : w1.heap.size + 1 < w9.heap.size := (by have := b9.size; first | omega | (revert this; simp; done) | (revert this; simp; omega))
        have p0_9 : w9.cell? ⟨w4.heap.size + 1, 0, none⟩ = some (.int .i64 k2) := (by rw [b9.cell (by first | omega | (simp; done) | (simp; omega))]; go_cell)
        have p1_9 : w9.cell? ⟨w4.heap.size + 1, 1, none⟩ = some (.int .i64 a2) := (by rw [b9.cell (by first | omega | (simp; done) | (simp; omega))]; go_cell)
        have p2_9 : w9.cell? ⟨w4.heap.size + 1, 2, none⟩ = some (.int .i64 b2) := (by rw [b9.cell (by first | omega | (simp; done) | (simp; omega))]; go_cell)
        have p3_9 : w9.cell? ⟨w4.heap.size + 1, 3, none⟩ = some (.int .i64 x2) := (by rw [b9.cell (by first | omega | (simp; done) | (simp; omega))]; go_cell)
        have pl_9 : w4.heap.size + 1 < w9.heap.size := (by have := b9.size; first | omega | (revert this; simp; done) | (revert this; simp; omega))
        have x0_9 : w9.cell? ⟨w7.heap.size, 0, none⟩ = some (.slice (some ⟨gx, 0, none⟩) 24 24) := (by rw [b9.cell (by first | omega | (simp; done) | (simp; omega))]; go_cell)
        have xl_9 : w7.heap.size < w9.heap.size := (by have := b9.size; first | omega | (revert this; simp; done) | (revert this; simp; omega))
        clear g0_8 gl_8 o0_8 o1_8 o2_8 o3_8 ol_8 p0_8 p1_8 p2_8 p3_8 pl_8 x0_8 xl_8
        have HL_9 := hid (HL_8.out.later d9)
        have HX_9 := hid (HX_8.out.later d9)
        clear d9 b9 HL_8 HX_8
        clear hx
        go_wp2_with fail
        have z0_10 : (w9.alloc (.cells #[.slice (some ⟨gs, 0, none⟩) 24 cs] 25)).cell? ⟨w9.heap.size, 0, none⟩ = some (.slice (some ⟨gs, 0, none⟩) 24 cs) := by go_cell
        have zl_10 : w9.heap.size < (w9.alloc (.cells #[.slice (some ⟨gs, 0, none⟩) 24 cs] 25)).heap.size := by simp
        have d10 : Below w9.heap.size w9 (w9.alloc (.cells #[.slice (some ⟨gs, 0, none⟩) 24 cs] 25)) := by go_grown
        generalize (w9.alloc (.cells #[.slice (some ⟨gs, 0, none⟩) 24 cs] 25)) = w10 at z0_10 zl_10 d10 ⊢
        have c10 : Below w.heap.size w w10 := c9.trans (d10.mono c9.size)
        have g0_10 : w10.cell? ⟨w1.heap.size, 0, none⟩ = some (.slice uo L.length uc) := (by rw [d10.cell (by first | omega | (simp; done) | (simp; omega))]; go_cell)
        have gl_10 : w1.heap.size < w10.heap.size := (by have := d10.size; omega)
        have o0_10 : w10.cell? ⟨w1.heap.size + 1, 0, none⟩ = some (.int .i64 k) := (by rw [d10.cell (by first | omega | (simp; done) | (simp; omega))]; go_cell)
        have o1_10 : w10.cell? ⟨w1.heap.size + 1, 1, none⟩ = some (.int .i64 a) := (by rw [d10.cell (by first | omega | (simp; done) | (simp; omega))]; go_cell)
        have o2_10 : w10.cell? ⟨w1.heap.size + 1, 2, none⟩ = some (.int .i64 b) := (by rw [d10.cell (by first | omega | (simp; done) | (simp; omega))]; go_cell)
        have o3_10 : w10.cell? ⟨w1.heap.size + 1, 3, none⟩ = some (.int .i64 x) := (by rw [d10.cell (by first | omega | (simp; done) | (simp; omega))]; go_cell)
        have ol_10 : w1.heap.size + 1 < w10.heap.size := (by have := d10.size; omega)
        have p0_10 : w10.cell? ⟨w4.heap.size + 1, 0, none⟩ = some (.int .i64 k2) := (by rw [d10.cell (by first | omega | (simp; done) | (simp; omega))]; go_cell)
        have p1_10 : w10.cell? ⟨w4.heap.size + 1, 1, none⟩ = some (.int .i64 a2) := (by rw [d10.cell (by first | omega | (simp; done) | (simp; omega))]; go_cell)
        have p2_10 : w10.cell? ⟨w4.heap.size + 1, 2, none⟩ = some (.int .i64 b2) := (by rw [d10.cell (by first | omega | (simp; done) | (simp; omega))]; go_cell)
        have p3_10 : w10.cell? ⟨w4.heap.size + 1, 3, none⟩ = some (.int .i64 x2) := (by rw [d10.cell (by first | omega | (simp; done) | (simp; omega))]; go_cell)
        have pl_10 : w4.heap.size + 1 < w10.heap.size := (by have := d10.size; omega)
        have x0_10 : w10.cell? ⟨w7.heap.size, 0, none⟩ = some (.slice (some ⟨gx, 0, none⟩) 24 24) := (by rw [d10.cell (by first | omega | (simp; done) | (simp; omega))]; go_cell)
        have xl_10 : w7.heap.size < w10.heap.size := (by have := d10.size; omega)
        clear g0_9 gl_9 o0_9 o1_9 o2_9 o3_9 ol_9 p0_9 p1_9 p2_9 p3_9 pl_9 x0_9 xl_9
        have HL_10 := hid (HL_9.out.later d10)
        have HX_10 := hid (HX_9.out.later d10)
        clear d10 HL_9 HX_9
        refine (implGDo_rd _ L k2 a2 b2 x2 _ HL_10.out hokh.out hB).mono ?_
        rintro e w11 ⟨⟨gy, rfl, hx⟩, b11⟩
        have d11 : Below w10.heap.size w10 w11 := (Below.trans (by go_grown) (b11.mono (by first | omega | (simp; done) | (simp; omega))))
        have c11 : Below w.heap.size w w11 := c10.trans (d11.mono c10.size)
        have g0_11 : w11.cell? ⟨w1.heap.size, 0, none⟩ = some (.slice uo L.length uc) := (by rw [b11.cell (by first | omega | (simp; done) | (simp; omega))]; go_cell)
        have gl_11 : w1.heap.size < w11.heap.size := (by have := b11.size; first | omega | (revert this; simp; done) | (revert this; simp; omega))
        have o0_11 : w11.cell? ⟨w1.heap.size + 1, 0, none⟩ = some (.int .i64 k) := (by rw [b11.cell (by first | omega | (simp; done) | (simp; omega))]; go_cell)
        have o1_11 : w11.cell? ⟨w1.heap.size + 1, 1, none⟩ = some (.int .i64 a) := (by rw [b11.cell (by first | omega | (simp; done) | (simp; omega))]; go_cell)
        have o2_11 : w11.cell? ⟨w1.heap.size + 1, 2, none⟩ = some (.int .i64 b) := (by rw [b11.cell (by first | omega | (simp; done) | (simp; omega))]; go_cell)
        have o3_11 : w11.cell? ⟨w1.heap.size + 1, 3, none⟩ = some (.int .i64 x) := (by rw [b11.cell (by first | omega | (simp; done) | (simp; omega))]; go_cell)
        have ol_11 : w1.heap.size + 1 < w11.heap.size := (by have := b11.size; first | omega | (revert this; simp; done) | (revert this; simp; omega))
        have p0_11 : w11.cell? ⟨w4.heap.size + 1, 0, none⟩ = some (.int .i64 k2) := (by rw [b11.cell (by first | omega | (simp; done) | (simp; omega))]; go_cell)
        have p1_11 : w11.cell? ⟨w4.heap.size + 1, 1, none⟩ = some (.int .i64 a2) := (by rw [b11.cell (by first | omega | (simp; done) | (simp; omega))]; go_cell)
        have p2_11 : w11.cell? ⟨w4.heap.size + 1, 2, none⟩ = some (.int .i64 b2) := (by rw [b11.cell (by first | omega | (simp; done) | (simp; omega))]; go_cell)
        have p3_11 : w11.cell? ⟨w4.heap.size + 1, 3, none⟩ = some (.int .i64 x2) := (by rw [b11.cell (by first | omega | (simp; done) | (simp; omega))]; go_cell)
        have pl_11 : w4.heap.size + 1 < w11.heap.size := (by have := b11.size; first | omega | (revert this; simp; done) | (revert this; simp; omega))
        have x0_11 : w11.cell? ⟨w7.heap.size, 0, none⟩ = some (.slice (some ⟨gx, 0, none⟩) 24 24) := (by rw [b11.cell (by first | omega | (simp; done) | (simp; omega))]; go_cell)
        have xl_11 : w7.heap.size < w11.heap.size := (by have := b11.size; first | omega | (revert this; simp; done) | (revert this; simp; omega))
        clear g0_10 gl_10 o0_10 o1_10 o2_10 o3_10 ol_10 p0_10 p1_10 p2_10 p3_10 pl_10 x0_10 xl_10
        have HL_11 := hid (HL_10.out.later d11)
        have HX_11 := hid (HX_10.out.later d11)
        clear d11 b11 HL_10 HX_10
        have HY_11 := hid hx
        clear hx
        go_wp2
        go_ret
        exact ⟨by simp, (by first | exact c11 | exact Below.trans c11 (Below.mono (by go_grown) c11.size))⟩
    | true =>
      cases hB : opOk k2 a2 b2 x2 with
      | false =>
        go_wp2_with fail
        refine (implGDo_rd _ L k a b x _ HL_6.out hokh.out hA).mono ?_
        rintro e w7 ⟨⟨gx, rfl, hx⟩, b7⟩
        have d7 : Below w6.heap.size w6 w7 := (Below.trans (by go_grown) (b7.mono (by first | omega | (simp; done) | (simp; omega))))
        have c7 : Below w.heap.size w w7 := c6.trans (d7.mono c6.size)
        have g0_7 : w7.cell? ⟨w1.heap.size, 0, none⟩ = some (.slice uo L.length uc) := (by rw [b7.cell (by first | omega | (simp; done) | (simp; omega))]; go_cell)
        have gl_7 : w1.heap.size < w7.heap.size := (by have := b7.size; first | omega | (revert this; simp; done) | (revert this; simp; omega))
        have o0_7 : w7.cell? ⟨w1.heap.size + 1, 0, none⟩ = some (.int .i64 k) := (by rw [b7.cell (by first | omega | (simp; done) | (simp; omega))]; go_cell)
        have o1_7 : w7.cell? ⟨w1.heap.size + 1, 1, none⟩ = some (.int .i64 a) := (by rw [b7.cell (by first | omega | (simp; done) | (simp; omega))]; go_cell)
        have o2_7 : w7.cell? ⟨w1.heap.size + 1, 2, none⟩ = some (.int .i64 b) := (by rw [b7.cell (by first | omega | (simp; done) | (simp; omega))]; go_cell)
        have o3_7 : w7.cell? ⟨w1.heap.size + 1, 3, none⟩ = some (.int .i64 x) := (by rw [b7.cell (by first | omega | (simp; done) | (simp; omega))]; go_cell)
        have ol_7 : w1.heap.size + 1 < w7.heap.size := (by have := b7.size; first | omega | (revert this; simp; done) | (revert this; simp; omega))
        have p0_7 : w7.cell? ⟨w4.heap.size + 1, 0, none⟩ = some (.int .i64 k2) := (by rw [b7.cell (by first | omega | (simp; done) | (simp; omega))]; go_cell)
        have p1_7 : w7.cell? ⟨w4.heap.size + 1, 1, none⟩ = some (.int .i64 a2) := (by rw [b7.cell (by first | omega | (simp; done) | (simp; omega))]; go_cell)
        have p2_7 : w7.cell? ⟨w4.heap.size + 1, 2, none⟩ = some (.int .i64 b2) := (by rw [b7.cell (by first | omega | (simp; done) | (simp; omega))]; go_cell)
        have p3_7 : w7.cell? ⟨w4.heap.size + 1, 3, none⟩ = some (.int .i64 x2) := (by rw [b7.cell (by first | omega | (simp; done) | (simp; omega))]; go_cell)
        have pl_7 : w4.heap.size + 1 < w7.heap.size := (by have := b7.size; first | omega | (revert this; simp; done) | (revert this; simp; omega))
        clear g0_6 gl_6 o0_6 o1_6 o2_6 o3_6 ol_6 p0_6 p1_6 p2_6 p3_6 pl_6
        have HL_7 := hid (HL_6.out.later d7)
        clear d7 b7 HL_6
        have HX_7 := hid hx
        clear hx
        go_wp2_with fail
        have x0_8 : (w7.alloc (.cells #[.slice (some ⟨gx, 0, none⟩) 24 24] 25)).cell? ⟨w7.heap.size, 0, none⟩ = some (.slice (some ⟨gx, 0, none⟩) 24 24) := by go_cell
        have xl_8 : w7.heap.size < (w7.alloc (.cells #[.slice (some ⟨gx, 0, none⟩) 24 24] 25)).heap.size := by simp
        have d8 : Below w7.heap.size w7 (w7.alloc (.cells #[.slice (some ⟨gx, 0, none⟩) 24 24] 25)) := by go_grown
        generalize (w7.alloc (.cells #[.slice (some ⟨gx, 0, none⟩) 24 24] 25)) = w8 at x0_8 xl_8 d8 ⊢
        have c8 : Below w.heap.size w w8 := c7.trans (d8.mono c7.size)
        have g0_8 : w8.cell? ⟨w1.heap.size, 0, none⟩ = some (.slice uo L.length uc) := (by rw [d8.cell (by first | omega | (simp; done) | (simp; omega))]; go_cell)
        have gl_8 : w1.heap.size < w8.heap.size := (by have := d8.size; omega)
        have o0_8 : w8.cell? ⟨w1.heap.size + 1, 0, none⟩ = some (.int .i64 k) := (by rw [d8.cell (by first | omega | (simp; done) | (simp; omega))]; go_cell)
        have o1_8 : w8.cell? ⟨w1.heap.size + 1, 1, none⟩ = some (.int .i64 a) := (by rw [d8.cell (by first | omega | (simp; done) | (simp; omega))]; go_cell)
        have o2_8 : w8.cell? ⟨w1.heap.size + 1, 2, none⟩ = some (.int .i64 b) := (by rw [d8.cell (by first | omega | (simp; done) | (simp; omega))]; go_cell)
        have o3_8 : w8.cell? ⟨w1.heap.size + 1, 3, none⟩ = some (.int .i64 x) := (by rw [d8.cell (by first | omega | (simp; done) | (simp; omega))]; go_cell)
        have ol_8 : w1.heap.size + 1 < w8.heap.size := (by have := d8.size; omega)
        have p0_8 : w8.cell? ⟨w4.heap.size + 1, 0, none⟩ = some (.int .i64 k2) := (by rw [d8.cell (by first | omega | (simp; done) | (simp; omega))]; go_cell)
        have p1_8 : w8.cell? ⟨w4.heap.size + 1, 1, none⟩ = some (.int .i64 a2) := (by rw [d8.cell (by first | omega | (simp; done) | (simp; omega))]; go_cell)
        have p2_8 : w8.cell? ⟨w4.heap.size + 1, 2, none⟩ = some (.int .i64 b2) := (by rw [d8.cell (by first | omega | (simp; done) | (simp; omega))]; go_cell)
        have p3_8 : w8.cell? ⟨w4.heap.size + 1, 3, none⟩ = some (.int .i64 x2) := (by rw [d8.cell (by first | omega | (simp; done) | (simp; omega))]; go_cell)
        have pl_8 : w4.heap.size + 1 < w8.heap.size := (by have := d8.size; omega)
        clear g0_7 gl_7 o0_7 o1_7 o2_7 o3_7 ol_7 p0_7 p1_7 p2_7 p3_7 pl_7
        have HL_8 := hid (HL_7.out.later d8)
        have HX_8 := hid (HX_7.out.later d8)
        clear d8 HL_7 HX_7
        refine (specGDo_rd _ L k a b x _ HL_8.out hokh.out hA).mono ?_
        rintro e w9 ⟨⟨gs, cs, rfl, hx⟩, b9⟩
        have d9 : Below w8.heap.size w8 w9 := (Below.trans (by go_grown) (b9.mono (by first | omega | (simp; done) | (simp; omega))))
        have c9 : Below w.heap.size w w9 := c8.trans (d9.mono c8.size)
        have g0_9 : w9.cell? ⟨w1.heap.size, 0, none⟩ = some (.slice uo L.length uc) := (by rw [b9.cell (by first | omega | (simp; done) | (simp; omega))]; go_cell)
        have gl_9 : w1.heap.size < w9.heap.size := (by have := b9.size; first | omega | (revert this; simp; done) | (revert this; simp; omega))
        have o0_9 : w9.cell? ⟨w1.heap.size + 1, 0, none⟩ = some (.int .i64 k) := (by rw [b9.cell (by first | omega | (simp; done) | (simp; omega))]; go_cell)
        have o1_9 : w9.cell? ⟨w1.heap.size + 1, 1, none⟩ = some (.int .i64 a) := (by rw [b9.cell (by first | omega | (simp; done) | (simp; omega))]; go_cell)
        have o2_9 : w9.cell? ⟨w1.heap.size + 1, 2, none⟩ = some (.int .i64 b) := (by rw [b9.cell (by first | omega | (simp; done) | (simp; omega))]; go_cell)
        have o3_9 : w9.cell? ⟨w1.heap.size + 1, 3, none⟩ = some (.int .i64 x) := (by rw [b9.cell (by first | omega | (simp; done) | (simp; omega))]; go_cell)
        have ol_9 : w1.heap.size + 1 < w9.heap.size := (by have := b9.size; first | omega | (revert this; simp; done) | (revert this; simp; omega))
        have p0_9 : w9.cell? ⟨w4.heap.size + 1, 0, none⟩ = some (.int .i64 k2) := (by rw [b9.cell (by first | omega | (simp; done) | (simp; omega))]; go_cell)
        have p1_9 : w9.cell? ⟨w4.heap.size + 1, 1, none⟩ = some (.int .i64 a2) := (by rw [b9.cell (by first | omega | (simp; done) | (simp; omega))]; go_cell)
        have p2_9 : w9.cell? ⟨w4.heap.size + 1, 2, none⟩ = some (.int .i64 b2) := (by rw [b9.cell (by first | omega | (simp; done) | (simp; omega))]; go_cell)
        have p3_9 : w9.cell? ⟨w4.heap.size + 1, 3, none⟩ = some (.int .i64 x2) := (by rw [b9.cell (by first | omega | (simp; done) | (simp; omega))]; go_cell)
        have pl_9 : w4.heap.size + 1 < w9.heap.size := (by have := b9.size; first | omega | (revert this; simp; done) | (revert this; simp; omega))
        have x0_9 : w9.cell? ⟨w7.heap.size, 0, none⟩ = some (.slice (some ⟨gx, 0, none⟩) 24 24) := (by rw [b9.cell (by first | omega | (simp; done) | (simp; omega))]; go_cell)
        have xl_9 : w7.heap.size < w9.heap.size := (by have := b9.size; first | omega | (revert this; simp; done) | (revert this; simp; omega))
        clear g0_8 gl_8 o0_8 o1_8 o2_8 o3_8 ol_8 p0_8 p1_8 p2_8 p3_8 pl_8 x0_8 xl_8
        have HL_9 := hid (HL_8.out.later d9)
        have HX_9 := hid (HX_8.out.later d9)
        clear d9 b9 HL_8 HX_8
        clear hx
        go_wp2_with fail
        have z0_10 : (w9.alloc (.cells #[.slice (some ⟨gs, 0, none⟩) 24 cs] 25)).cell? ⟨w9.heap.size, 0, none⟩ = some (.slice (some ⟨gs, 0, none⟩) 24 cs) := by go_cell
        have zl_10 : w9.heap.size < (w9.alloc (.cells #[.slice (some ⟨gs, 0, none⟩) 24 cs] 25)).heap.size := by simp
        have d10 : Below w9.heap.size w9 (w9.alloc (.cells #[.slice (some ⟨gs, 0, none⟩) 24 cs] 25)) := by go_grown
        generalize (w9.alloc (.cells #[.slice (some ⟨gs, 0, none⟩) 24 cs] 25)) = w10 at z0_10 zl_10 d10 ⊢
        have c10 : Below w.heap.size w w10 := c9.trans (d10.mono c9.size)
        have g0_10 : w10.cell? ⟨w1.heap.size, 0, none⟩ = some (.slice uo L.length uc) := (by rw [d10.cell (by first | omega | (simp; done) | (simp; omega))]; go_cell)
        have gl_10 : w1.heap.size < w10.heap.size := (by have := d10.size; omega)
        have o0_10 : w10.cell? ⟨w1.heap.size + 1, 0, none⟩ = some (.int .i64 k) := (by rw [d10.cell (by first | omega | (simp; done) | (simp; omega))]; go_cell)
        have o1_10 : w10.cell? ⟨w1.heap.size + 1, 1, none⟩ = some (.int .i64 a) := (by rw [d10.cell (by first | omega | (simp; done) | (simp; omega))]; go_cell)
        have o2_10 : w10.cell? ⟨w1.heap.size + 1, 2, none⟩ = some (.int .i64 b) := (by rw [d10.cell (by first | omega | (simp; done) | (simp; omega))]; go_cell)
        have o3_10 : w10.cell? ⟨w1.heap.size + 1, 3, none⟩ = some (.int .i64 x) := (by rw [d10.cell (by first | omega | (simp; done) | (simp; omega))]; go_cell)
        have ol_10 : w1.heap.size + 1 < w10.heap.size := (by have := d10.size; omega)
        have p0_10 : w10.cell? ⟨w4.heap.size + 1, 0, none⟩ = some (.int .i64 k2) := (by rw [d10.cell (by first | omega | (simp; done) | (simp; omega))]; go_cell)
        have p1_10 : w10.cell? ⟨w4.heap.size + 1, 1, none⟩ = some (.int .i64 a2) := (by rw [d10.cell (by first | omega | (simp; done) | (simp; omega))]; go_cell)
        have p2_10 : w10.cell? ⟨w4.heap.size + 1, 2, none⟩ = some (.int .i64 b2) := (by rw [d10.cell (by first | omega | (simp; done) | (simp; omega))]; go_cell)
        have p3_10 : w10.cell? ⟨w4.heap.size + 1, 3, none⟩ = some (.int .i64 x2) := (by rw [d10.cell (by first | omega | (simp; done) | (simp; omega))]; go_cell)
        have pl_10 : w4.heap.size + 1 < w10.heap.size := (by have := d10.size; omega)
        have x0_10 : w10.cell? ⟨w7.heap.size, 0, none⟩ = some (.slice (some ⟨gx, 0, none⟩) 24 24) := (by rw [d10.cell (by first | omega | (simp; done) | (simp; omega))]; go_cell)
        have xl_10 : w7.heap.size < w10.heap.size := (by have := d10.size; omega)
        clear g0_9 gl_9 o0_9 o1_9 o2_9 o3_9 ol_9 p0_9 p1_9 p2_9 p3_9 pl_9 x0_9 xl_9
        have HL_10 := hid (HL_9.out.later d10)
        have HX_10 := hid (HX_9.out.later d10)
        clear d10 HL_9 HX_9
        refine (implGDo_rd _ L k2 a2 b2 x2 _ HL_10.out hokh.out hB).mono ?_
        rintro e w11 ⟨⟨gy, rfl, hx⟩, b11⟩
        have d11 : Below w10.heap.size w10 w11 := (Below.trans (by go_grown) (b11.mono (by first | omega | (simp; done) | (simp; omega))))
        have c11 : Below w.heap.size w w11 := c10.trans (d11.mono c10.size)
        have g0_11 : w11.cell? ⟨w1.heap.size, 0, none⟩ = some (.slice uo L.length uc) := (by rw [b11.cell (by first | omega | (simp; done) | (simp; omega))]; go_cell)
        have gl_11 : w1.heap.size < w11.heap.size := (by have := b11.size; first | omega | (revert this; simp; done) | (revert this; simp; omega))
        have o0_11 : w11.cell? ⟨w1.heap.size + 1, 0, none⟩ = some (.int .i64 k) := (by rw [b11.cell (by first | omega | (simp; done) | (simp; omega))]; go_cell)
        have o1_11 : w11.cell? ⟨w1.heap.size + 1, 1, none⟩ = some (.int .i64 a) := (by rw [b11.cell (by first | omega | (simp; done) | (simp; omega))]; go_cell)
        have o2_11 : w11.cell? ⟨w1.heap.size + 1, 2, none⟩ = some (.int .i64 b) := (by rw [b11.cell (by first | omega | (simp; done) | (simp; omega))]; go_cell)
        have o3_11 : w11.cell? ⟨w1.heap.size + 1, 3, none⟩ = some (.int .i64 x) := (by rw [b11.cell (by first | omega | (simp; done) | (simp; omega))]; go_cell)
        have ol_11 : w1.heap.size + 1 < w11.heap.size := (by have := b11.size; first | omega | (revert this; simp; done) | (revert this; simp; omega))
        have p0_11 : w11.cell? ⟨w4.heap.size + 1, 0, none⟩ = some (.int .i64 k2) := (by rw [b11.cell (by first | omega | (simp; done) | (simp; omega))]; go_cell)
        have p1_11 : w11.cell? ⟨w4.heap.size + 1, 1, none⟩ = some (.int .i64 a2) := (by rw [b11.cell (by first | omega | (simp; done) | (simp; omega))]; go_cell)
        have p2_11 : w11.cell? ⟨w4.heap.size + 1, 2, none⟩ = some (.int .i64 b2) := (by rw [b11.cell (by first | omega | (simp; done) | (simp; omega))]; go_cell)
        have p3_11 : w11.cell? ⟨w4.heap.size + 1, 3, none⟩ = some (.int .i64 x2) := (by rw [b11.cell (by first | omega | (simp; done) | (simp; omega))]; go_cell)
        have pl_11 : w4.heap.size + 1 < w11.heap.size := (by have := b11.size; first | omega | (revert this; simp; done) | (revert this; simp; omega))
        have x0_11 : w11.cell? ⟨w7.heap.size, 0, none⟩ = some (.slice (some ⟨gx, 0, none⟩) 24 24) := (by rw [b11.cell (by first | omega | (simp; done) | (simp; omega))]; go_cell)
        have xl_11 : w7.heap.size < w11.heap.size := (by have := b11.size; first | omega | (revert this; simp; done) | (revert this; simp; omega))
        clear g0_10 gl_10 o0_10 o1_10 o2_10 o3_10 ol_10 p0_10 p1_10 p2_10 p3_10 pl_10 x0_10 xl_10
        have HL_11 := hid (HL_10.out.later d11)
        have HX_11 := hid (HX_10.out.later d11)
        clear d11 b11 HL_10 HX_10
        have HY_11 := hid hx
        clear hx
        go_wp2
        go_ret
        exact ⟨by simp, (by first | exact c11 | exact Below.trans c11 (Below.mono (by go_grown) c11.size))⟩
      | true =>
        have hokA := hid (okG_do hokh.out k a b x)
        have hokB := hid (okG_do hokh.out k2 a2 b2 x2)
        go_wp2_with fail
        refine (implGDo_rd _ L k a b x _ HL_6.out hokh.out hA).mono ?_
        rintro e w7 ⟨⟨gx, rfl, hx⟩, b7⟩
        have d7 : Below w6.heap.size w6 w7 := (Below.trans (by go_grown) (b7.mono (by first | omega | (simp; done) | (simp; omega))))
        have c7 : Below w.heap.size w w7 := c6.trans (d7.mono c6.size)
        have g0_7 : w7.cell? ⟨w1.heap.size, 0, none⟩ = some (.slice uo L.length uc) := (by rw [b7.cell (by first | omega | (simp; done) | (simp; omega))]; go_cell)
        have gl_7 : w1.heap.size < w7.heap.size := (by have := b7.size; first | omega | (revert this; simp; done) | (revert this; simp; omega))
        have o0_7 : w7.cell? ⟨w1.heap.size + 1, 0, none⟩ = some (.int .i64 k) := (by rw [b7.cell (by first | omega | (simp; done) | (simp; omega))]; go_cell)
        have o1_7 : w7.cell? ⟨w1.heap.size + 1, 1, none⟩ = some (.int .i64 a) := (by rw [b7.cell (by first | omega | (simp; done) | (simp; omega))]; go_cell)
        have o2_7 : w7.cell? ⟨w1.heap.size + 1, 2, none⟩ = some (.int .i64 b) := (by rw [b7.cell (by first | omega | (simp; done) | (simp; omega))]; go_cell)
        have o3_7 : w7.cell? ⟨w1.heap.size + 1, 3, none⟩ = some (.int .i64 x) := (by rw [b7.cell (by first | omega | (simp; done) | (simp; omega))]; go_cell)
        have ol_7 : w1.heap.size + 1 < w7.heap.size := (by have := b7.size; first | omega | (revert this; simp; done) | (revert this; simp; omega))
        have p0_7 : w7.cell? ⟨w4.heap.size + 1, 0, none⟩ = some (.int .i64 k2) := (by rw [b7.cell (by first | omega | (simp; done) | (simp; omega))]; go_cell)
        have p1_7 : w7.cell? ⟨w4.heap.size + 1, 1, none⟩ = some (.int .i64 a2) := (by rw [b7.cell (by first | omega | (simp; done) | (simp; omega))]; go_cell)
        have p2_7 : w7.cell? ⟨w4.heap.size + 1, 2, none⟩ = some (.int .i64 b2) := (by rw [b7.cell (by first | omega | (simp; done) | (simp; omega))]; go_cell)
        have p3_7 : w7.cell? ⟨w4.heap.size + 1, 3, none⟩ = some (.int .i64 x2) := (by rw [b7.cell (by first | omega | (simp; done) | (simp; omega))]; go_cell)
        have pl_7 : w4.heap.size + 1 < w7.heap.size := (by have := b7.size; first | omega | (revert this; simp; done) | (revert this; simp; omega))
        clear g0_6 gl_6 o0_6 o1_6 o2_6 o3_6 ol_6 p0_6 p1_6 p2_6 p3_6 pl_6
        have HL_7 := hid (HL_6.out.later d7)
        clear d7 b7 HL_6
        have HX_7 := hid hx
        clear hx
        go_wp2_with fail
        have x0_8 : (w7.alloc (.cells #[.slice (some ⟨gx, 0, none⟩) 24 24] 25)).cell? ⟨w7.heap.size, 0, none⟩ = some (.slice (some ⟨gx, 0, none⟩) 24 24) := by go_cell
        have xl_8 : w7.heap.size < (w7.alloc (.cells #[.slice (some ⟨gx, 0, none⟩) 24 24] 25)).heap.size := by simp
        have d8 : Below w7.heap.size w7 (w7.alloc (.cells #[.slice (some ⟨gx, 0, none⟩) 24 24] 25)) := by go_grown
        generalize (w7.alloc (.cells #[.slice (some ⟨gx, 0, none⟩) 24 24] 25)) = w8 at x0_8 xl_8 d8 ⊢
        have c8 : Below w.heap.size w w8 := c7.trans (d8.mono c7.size)
        have g0_8 : w8.cell? ⟨w1.heap.size, 0, none⟩ = some (.slice uo L.length uc) := (by rw [d8.cell (by first | omega | (simp; done) | (simp; omega))]; go_cell)
        have gl_8 : w1.heap.size < w8.heap.size := (by have := d8.size; omega)
        have o0_8 : w8.cell? ⟨w1.heap.size + 1, 0, none⟩ = some (.int .i64 k) := (by rw [d8.cell (by first | omega | (simp; done) | (simp; omega))]; go_cell)
        have o1_8 : w8.cell? ⟨w1.heap.size + 1, 1, none⟩ = some (.int .i64 a) := (by rw [d8.cell (by first | omega | (simp; done) | (simp; omega))]; go_cell)
        have o2_8 : w8.cell? ⟨w1.heap.size + 1, 2, none⟩ = some (.int .i64 b) := (by rw [d8.cell (by first | omega | (simp; done) | (simp; omega))]; go_cell)
        have o3_8 : w8.cell? ⟨w1.heap.size + 1, 3, none⟩ = some (.int .i64 x) := (by rw [d8.cell (by first | omega | (simp; done) | (simp; omega))]; go_cell)
        have ol_8 : w1.heap.size + 1 < w8.heap.size := (by have := d8.size; omega)
        have p0_8 : w8.cell? ⟨w4.heap.size + 1, 0, none⟩ = some (.int .i64 k2) := (by rw [d8.cell (by first | omega | (simp; done) | (simp; omega))]; go_cell)
        have p1_8 : w8.cell? ⟨w4.heap.size + 1, 1, none⟩ = some (.int .i64 a2) := (by rw [d8.cell (by first | omega | (simp; done) | (simp; omega))]; go_cell)
        have p2_8 : w8.cell? ⟨w4.heap.size + 1, 2, none⟩ = some (.int .i64 b2) := (by rw [d8.cell (by first | omega | (simp; done) | (simp; omega))]; go_cell)
        have p3_8 : w8.cell? ⟨w4.heap.size + 1, 3, none⟩ = some (.int .i64 x2) := (by rw [d8.cell (by first | omega | (simp; done) | (simp; omega))]; go_cell)
        have pl_8 : w4.heap.size + 1 < w8.heap.size := (by have := d8.size; omega)
        clear g0_7 gl_7 o0_7 o1_7 o2_7 o3_7 ol_7 p0_7 p1_7 p2_7 p3_7 pl_7
        have HL_8 := hid (HL_7.out.later d8)
        have HX_8 := hid (HX_7.out.later d8)
        clear d8 HL_7 HX_7
        refine (specGDo_rd _ L k a b x _ HL_8.out hokh.out hA).mono ?_
        rintro e w9 ⟨⟨gs, cs, rfl, hx⟩, b9⟩
        have d9 : Below w8.heap.size w8 w9 := (Below.trans (by go_grown) (b9.mono (by first | omega | (simp; done) | (simp; omega))))
        have c9 : Below w.heap.size w w9 := c8.trans (d9.mono c8.size)
        have g0_9 : w9.cell? ⟨w1.heap.size, 0, none⟩ = some (.slice uo L.length uc) := (by rw [b9.cell (by first | omega | (simp; done) | (simp; omega))]; go_cell)
        have gl_9 : w1.heap.size < w9.heap.size := (by have := b9.size; first | omega | (revert this; simp; done) | (revert this; simp; omega))
        have o0_9 : w9.cell? ⟨w1.heap.size + 1, 0, none⟩ = some (.int .i64 k) := (by rw [b9.cell (by first | omega | (simp; done) | (simp; omega))]; go_cell)
        have o1_9 : w9.cell? ⟨w1.heap.size + 1, 1, none⟩ = some (.int .i64 a) := (by rw [b9.cell (by first | omega | (simp; done) | (simp; omega))]; go_cell)
        have o2_9 : w9.cell? ⟨w1.heap.size + 1, 2, none⟩ = some (.int .i64 b) := (by rw [b9.cell (by first | omega | (simp; done) | (simp; omega))]; go_cell)
        have o3_9 : w9.cell? ⟨w1.heap.size + 1, 3, none⟩ = some (.int .i64 x) := (by rw [b9.cell (by first | omega | (simp; done) | (simp; omega))]; go_cell)
        have ol_9 : w1.heap.size + 1 < w9.heap.size := (by have := b9.size; first | omega | (revert this; simp; done) | (revert this; simp; omega))
        have p0_9 : w9.cell? ⟨w4.heap.size + 1, 0, none⟩ = some (.int .i64 k2) := (by rw [b9.cell (by first | omega | (simp; done) | (simp; omega))]; go_cell)
        have p1_9 : w9.cell? ⟨w4.heap.size + 1, 1, none⟩ = some (.int .i64 a2) := (by rw [b9.cell (by first | omega | (simp; done) | (simp; omega))]; go_cell)
        have p2_9 : w9.cell? ⟨w4.heap.size + 1, 2, none⟩ = some (.int .i64 b2) := (by rw [b9.cell (by first | omega | (simp; done) | (simp; omega))]; go_cell)
        have p3_9 : w9.cell? ⟨w4.heap.size + 1, 3, none⟩ = some (.int .i64 x2) := (by rw [b9.cell (by first | omega | (simp; done) | (simp; omega))]; go_cell)
        have pl_9 : w4.heap.size + 1 < w9.heap.size := (by have := b9.size; first | omega | (revert this; simp; done) | (revert this; simp; omega))
        have x0_9 : w9.cell? ⟨w7.heap.size, 0, none⟩ = some (.slice (some ⟨gx, 0, none⟩) 24 24) := (by rw [b9.cell (by first | omega | (simp; done) | (simp; omega))]; go_cell)
        have xl_9 : w7.heap.size < w9.heap.size := (by have := b9.size; first | omega | (revert this; simp; done) | (revert this; simp; omega))
        clear g0_8 gl_8 o0_8 o1_8 o2_8 o3_8 ol_8 p0_8 p1_8 p2_8 p3_8 pl_8 x0_8 xl_8
        have HL_9 := hid (HL_8.out.later d9)
        have HX_9 := hid (HX_8.out.later d9)
        clear d9 b9 HL_8 HX_8
        clear hx
        go_wp2_with fail
        have z0_10 : (w9.alloc (.cells #[.slice (some ⟨gs, 0, none⟩) 24 cs] 25)).cell? ⟨w9.heap.size, 0, none⟩ = some (.slice (some ⟨gs, 0, none⟩) 24 cs) := by go_cell
        have zl_10 : w9.heap.size < (w9.alloc (.cells #[.slice (some ⟨gs, 0, none⟩) 24 cs] 25)).heap.size := by simp
        have d10 : Below w9.heap.size w9 (w9.alloc (.cells #[.slice (some ⟨gs, 0, none⟩) 24 cs] 25)) := by go_grown
        generalize (w9.alloc (.cells #[.slice (some ⟨gs, 0, none⟩) 24 cs] 25)) = w10 at z0_10 zl_10 d10 ⊢
        have c10 : Below w.heap.size w w10 := c9.trans (d10.mono c9.size)
        have g0_10 : w10.cell? ⟨w1.heap.size, 0, none⟩ = some (.slice uo L.length uc) := (by rw [d10.cell (by first | omega | (simp; done) | (simp; omega))]; go_cell)
        have gl_10 : w1.heap.size < w10.heap.size := (by have := d10.size; omega)
        have o0_10 : w10.cell? ⟨w1.heap.size + 1, 0, none⟩ = some (.int .i64 k) := (by rw [d10.cell (by first | omega | (simp; done) | (simp; omega))]; go_cell)
        have o1_10 : w10.cell? ⟨w1.heap.size + 1, 1, none⟩ = some (.int .i64 a) := (by rw [d10.cell (by first | omega | (simp; done) | (simp; omega))]; go_cell)
        have o2_10 : w10.cell? ⟨w1.heap.size + 1, 2, none⟩ = some (.int .i64 b) := (by rw [d10.cell (by first | omega | (simp; done) | (simp; omega))]; go_cell)
        have o3_10 : w10.cell? ⟨w1.heap.size + 1, 3, none⟩ = some (.int .i64 x) := (by rw [d10.cell (by first | omega | (simp; done) | (simp; omega))]; go_cell)
        have ol_10 : w1.heap.size + 1 < w10.heap.size := (by have := d10.size; omega)
        have p0_10 : w10.cell? ⟨w4.heap.size + 1, 0, none⟩ = some (.int .i64 k2) := (by rw [d10.cell (by first | omega | (simp; done) | (simp; omega))]; go_cell)
        have p1_10 : w10.cell? ⟨w4.heap.size + 1, 1, none⟩ = some (.int .i64 a2) := (by rw [d10.cell (by first | omega | (simp; done) | (simp; omega))]; go_cell)
        have p2_10 : w10.cell? ⟨w4.heap.size + 1, 2, none⟩ = some (.int .i64 b2) := (by rw [d10.cell (by first | omega | (simp; done) | (simp; omega))]; go_cell)
        have p3_10 : w10.cell? ⟨w4.heap.size + 1, 3, none⟩ = some (.int .i64 x2) := (by rw [d10.cell (by first | omega | (simp; done) | (simp; omega))]; go_cell)
        have pl_10 : w4.heap.size + 1 < w10.heap.size := (by have := d10.size; omega)
        have x0_10 : w10.cell? ⟨w7.heap.size, 0, none⟩ = some (.slice (some ⟨gx, 0, none⟩) 24 24) := (by rw [d10.cell (by first | omega | (simp; done) | (simp; omega))]; go_cell)
        have xl_10 : w7.heap.size < w10.heap.size := (by have := d10.size; omega)
        clear g0_9 gl_9 o0_9 o1_9 o2_9 o3_9 ol_9 p0_9 p1_9 p2_9 p3_9 pl_9 x0_9 xl_9
        have HL_10 := hid (HL_9.out.later d10)
        have HX_10 := hid (HX_9.out.later d10)
        clear d10 HL_9 HX_9
        refine (implGDo_rd _ L k2 a2 b2 x2 _ HL_10.out hokh.out hB).mono ?_
        rintro e w11 ⟨⟨gy, rfl, hx⟩, b11⟩
        have d11 : Below w10.heap.size w10 w11 := (Below.trans (by go_grown) (b11.mono (by first | omega | (simp; done) | (simp; omega))))
        have c11 : Below w.heap.size w w11 := c10.trans (d11.mono c10.size)
        have g0_11 : w11.cell? ⟨w1.heap.size, 0, none⟩ = some (.slice uo L.length uc) := (by rw [b11.cell (by first | omega | (simp; done) | (simp; omega))]; go_cell)
        have gl_11 : w1.heap.size < w11.heap.size := (by have := b11.size; first | omega | (revert this; simp; done) | (revert this; simp; omega))
        have o0_11 : w11.cell? ⟨w1.heap.size + 1, 0, none⟩ = some (.int .i64 k) := (by rw [b11.cell (by first | omega | (simp; done) | (simp; omega))]; go_cell)
        have o1_11 : w11.cell? ⟨w1.heap.size + 1, 1, none⟩ = some (.int .i64 a) := (by rw [b11.cell (by first | omega | (simp; done) | (simp; omega))]; go_cell)
        have o2_11 : w11.cell? ⟨w1.heap.size + 1, 2, none⟩ = some (.int .i64 b) := (by rw [b11.cell (by first | omega | (simp; done) | (simp; omega))]; go_cell)
        have o3_11 : w11.cell? ⟨w1.heap.size + 1, 3, none⟩ = some (.int .i64 x) := (by rw [b11.cell (by first | omega | (simp; done) | (simp; omega))]; go_cell)
        have ol_11 : w1.heap.size + 1 < w11.heap.size := (by have := b11.size; first | omega | (revert this; simp; done) | (revert this; simp; omega))
        have p0_11 : w11.cell? ⟨w4.heap.size + 1, 0, none⟩ = some (.int .i64 k2) := (by rw [b11.cell (by first | omega | (simp; done) | (simp; omega))]; go_cell)
        have p1_11 : w11.cell? ⟨w4.heap.size + 1, 1, none⟩ = some (.int .i64 a2) := (by rw [b11.cell (by first | omega | (simp; done) | (simp; omega))]; go_cell)
        have p2_11 : w11.cell? ⟨w4.heap.size + 1, 2, none⟩ = some (.int .i64 b2) := (by rw [b11.cell (by first | omega | (simp; done) | (simp; omega))]; go_cell)
        have p3_11 : w11.cell? ⟨w4.heap.size + 1, 3, none⟩ = some (.int .i64 x2) := (by rw [b11.cell (by first | omega | (simp; done) | (simp; omega))]; go_cell)
        have pl_11 : w4.heap.size + 1 < w11.heap.size := (by have := b11.size; first | omega | (revert this; simp; done) | (revert this; simp; omega))
        have x0_11 : w11.cell? ⟨w7.heap.size, 0, none⟩ = some (.slice (some ⟨gx, 0, none⟩) 24 24) := (by rw [b11.cell (by first | omega | (simp; done) | (simp; omega))]; go_cell)
        have xl_11 : w7.heap.size < w11.heap.size := (by have := b11.size; first | omega | (revert this; simp; done) | (revert this; simp; omega))
        clear g0_10 gl_10 o0_10 o1_10 o2_10 o3_10 ol_10 p0_10 p1_10 p2_10 p3_10 pl_10 x0_10 xl_10
        have HL_11 := hid (HL_10.out.later d11)
        have HX_11 := hid (HX_10.out.later d11)
        clear d11 b11 HL_10 HX_10
        have HY_11 := hid hx
        clear hx
        go_wp2_with fail
        have y0_12 : (w11.alloc (.cells #[.slice (some ⟨gy, 0, none⟩) 24 24] 25)).cell? ⟨w11.heap.size, 0, none⟩ = some (.slice (some ⟨gy, 0, none⟩) 24 24) := by go_cell
        have yl_12 : w11.heap.size < (w11.alloc (.cells #[.slice (some ⟨gy, 0, none⟩) 24 24] 25)).heap.size := by simp
        have d12 : Below w11.heap.size w11 (w11.alloc (.cells #[.slice (some ⟨gy, 0, none⟩) 24 24] 25)) := by go_grown
        generalize (w11.alloc (.cells #[.slice (some ⟨gy, 0, none⟩) 24 24] 25)) = w12 at y0_12 yl_12 d12 ⊢
        have c12 : Below w.heap.size w w12 := c11.trans (d12.mono c11.size)
        have g0_12 : w12.cell? ⟨w1.heap.size, 0, none⟩ = some (.slice uo L.length uc) := (by rw [d12.cell (by first | omega | (simp; done) | (simp; omega))]; go_cell)
        have gl_12 : w1.heap.size < w12.heap.size := (by have := d12.size; omega)
        have o0_12 : w12.cell? ⟨w1.heap.size + 1, 0, none⟩ = some (.int .i64 k) := (by rw [d12.cell (by first | omega | (simp; done) | (simp; omega))]; go_cell)
        have o1_12 : w12.cell? ⟨w1.heap.size + 1, 1, none⟩ = some (.int .i64 a) := (by rw [d12.cell (by first | omega | (simp; done) | (simp; omega))]; go_cell)
        have o2_12 : w12.cell? ⟨w1.heap.size + 1, 2, none⟩ = some (.int .i64 b) := (by rw [d12.cell (by first | omega | (simp; done) | (simp; omega))]; go_cell)
        have o3_12 : w12.cell? ⟨w1.heap.size + 1, 3, none⟩ = some (.int .i64 x) := (by rw [d12.cell (by first | omega | (simp; done) | (simp; omega))]; go_cell)
        have ol_12 : w1.heap.size + 1 < w12.heap.size := (by have := d12.size; omega)
        have p0_12 : w12.cell? ⟨w4.heap.size + 1, 0, none⟩ = some (.int .i64 k2) := (by rw [d12.cell (by first | omega | (simp; done) | (simp; omega))]; go_cell)
        have p1_12 : w12.cell? ⟨w4.heap.size + 1, 1, none⟩ = some (.int .i64 a2) := (by rw [d12.cell (by first | omega | (simp; done) | (simp; omega))]; go_cell)
        have p2_12 : w12.cell? ⟨w4.heap.size + 1, 2, none⟩ = some (.int .i64 b2) := (by rw [d12.cell (by first | omega | (simp; done) | (simp; omega))]; go_cell)
        have p3_12 : w12.cell? ⟨w4.heap.size + 1, 3, none⟩ = some (.int .i64 x2) := (by rw [d12.cell (by first | omega | (simp; done) | (simp; omega))]; go_cell)
        have pl_12 : w4.heap.size + 1 < w12.heap.size := (by have := d12.size; omega)
        have x0_12 : w12.cell? ⟨w7.heap.size, 0, none⟩ = some (.slice (some ⟨gx, 0, none⟩) 24 24) := (by rw [d12.cell (by first | omega | (simp; done) | (simp; omega))]; go_cell)
        have xl_12 : w7.heap.size < w12.heap.size := (by have := d12.size; omega)
        clear g0_11 gl_11 o0_11 o1_11 o2_11 o3_11 ol_11 p0_11 p1_11 p2_11 p3_11 pl_11 x0_11 xl_11
        have HL_12 := hid (HL_11.out.later d12)
        have HX_12 := hid (HX_11.out.later d12)
        have HY_12 := hid (HY_11.out.later d12)
        clear d12 HL_11 HX_11 HY_11
        refine (implGDo_rd _ (doG L k a b x) k2 a2 b2 x2 _ HX_12.out hokA.out hB).mono ?_
        rintro e w13 ⟨⟨gu, rfl, hx⟩, b13⟩
        have d13 : Below w12.heap.size w12 w13 := (Below.trans (by go_grown) (b13.mono (by first | omega | (simp; done) | (simp; omega))))
        have c13 : Below w.heap.size w w13 := c12.trans (d13.mono c12.size)
        have g0_13 : w13.cell? ⟨w1.heap.size, 0, none⟩ = some (.slice uo L.length uc) := (by rw [b13.cell (by first | omega | (simp; done) | (simp; omega))]; go_cell)
        have gl_13 : w1.heap.size < w13.heap.size := (by have := b13.size; first | omega | (revert this; simp; done) | (revert this; simp; omega))
        have o0_13 : w13.cell? ⟨w1.heap.size + 1, 0, none⟩ = some (.int .i64 k) := (by rw [b13.cell (by first | omega | (simp; done) | (simp; omega))]; go_cell)
        have o1_13 : w13.cell? ⟨w1.heap.size + 1, 1, none⟩ = some (.int .i64 a) := (by rw [b13.cell (by first | omega | (simp; done) | (simp; omega))]; go_cell)
        have o2_13 : w13.cell? ⟨w1.heap.size + 1, 2, none⟩ = some (.int .i64 b) := (by rw [b13.cell (by first | omega | (simp; done) | (simp; omega))]; go_cell)
        have o3_13 : w13.cell? ⟨w1.heap.size + 1, 3, none⟩ = some (.int .i64 x) := (by rw [b13.cell (by first | omega | (simp; done) | (simp; omega))]; go_cell)
        have ol_13 : w1.heap.size + 1 < w13.heap.size := (by have := b13.size; first | omega | (revert this; simp; done) | (revert this; simp; omega))
        have p0_13 : w13.cell? ⟨w4.heap.size + 1, 0, none⟩ = some (.int .i64 k2) := (by rw [b13.cell (by first | omega | (simp; done) | (simp; omega))]; go_cell)
        have p1_13 : w13.cell? ⟨w4.heap.size + 1, 1, none⟩ = some (.int .i64 a2) := (by rw [b13.cell (by first | omega | (simp; done) | (simp; omega))]; go_cell)
        have p2_13 : w13.cell? ⟨w4.heap.size + 1, 2, none⟩ = some (.int .i64 b2) := (by rw [b13.cell (by first | omega | (simp; done) | (simp; omega))]; go_cell)
        have p3_13 : w13.cell? ⟨w4.heap.size + 1, 3, none⟩ = some (.int .i64 x2) := (by rw [b13.cell (by first | omega | (simp; done) | (simp; omega))]; go_cell)
        have pl_13 : w4.heap.size + 1 < w13.heap.size := (by have := b13.size; first | omega | (revert this; simp; done) | (revert this; simp; omega))
        have x0_13 : w13.cell? ⟨w7.heap.size, 0, none⟩ = some (.slice (some ⟨gx, 0, none⟩) 24 24) := (by rw [b13.cell (by first | omega | (simp; done) | (simp; omega))]; go_cell)
        have xl_13 : w7.heap.size < w13.heap.size := (by have := b13.size; first | omega | (revert this; simp; done) | (revert this; simp; omega))
        have y0_13 : w13.cell? ⟨w11.heap.size, 0, none⟩ = some (.slice (some ⟨gy, 0, none⟩) 24 24) := (by rw [b13.cell (by first | omega | (simp; done) | (simp; omega))]; go_cell)
        have yl_13 : w11.heap.size < w13.heap.size := (by have := b13.size; first | omega | (revert this; simp; done) | (revert this; simp; omega))
        clear g0_12 gl_12 o0_12 o1_12 o2_12 o3_12 ol_12 p0_12 p1_12 p2_12 p3_12 pl_12 x0_12 xl_12 y0_12 yl_12
        have HL_13 := hid (HL_12.out.later d13)
        have HX_13 := hid (HX_12.out.later d13)
        have HY_13 := hid (HY_12.out.later d13)
        clear d13 b13 HL_12 HX_12 HY_12
        have HU_13 := hid hx
        clear hx
        go_wp2_with fail
        have u0_14 : (w13.alloc (.cells #[.slice (some ⟨gu, 0, none⟩) 24 24] 25)).cell? ⟨w13.heap.size, 0, none⟩ = some (.slice (some ⟨gu, 0, none⟩) 24 24) := by go_cell
        have ul_14 : w13.heap.size < (w13.alloc (.cells #[.slice (some ⟨gu, 0, none⟩) 24 24] 25)).heap.size := by simp
        have d14 : Below w13.heap.size w13 (w13.alloc (.cells #[.slice (some ⟨gu, 0, none⟩) 24 24] 25)) := by go_grown
        generalize (w13.alloc (.cells #[.slice (some ⟨gu, 0, none⟩) 24 24] 25)) = w14 at u0_14 ul_14 d14 ⊢
        have c14 : Below w.heap.size w w14 := c13.trans (d14.mono c13.size)
        have g0_14 : w14.cell? ⟨w1.heap.size, 0, none⟩ = some (.slice uo L.length uc) := (by rw [d14.cell (by first | omega | (simp; done) | (simp; omega))]; go_cell)
        have gl_14 : w1.heap.size < w14.heap.size := (by have := d14.size; omega)
        have o0_14 : w14.cell? ⟨w1.heap.size + 1, 0, none⟩ = some (.int .i64 k) := (by rw [d14.cell (by first | omega | (simp; done) | (simp; omega))]; go_cell)
        have o1_14 : w14.cell? ⟨w1.heap.size + 1, 1, none⟩ = some (.int .i64 a) := (by rw [d14.cell (by first | omega | (simp; done) | (simp; omega))]; go_cell)
        have o2_14 : w14.cell? ⟨w1.heap.size + 1, 2, none⟩ = some (.int .i64 b) := (by rw [d14.cell (by first | omega | (simp; done) | (simp; omega))]; go_cell)
        have o3_14 : w14.cell? ⟨w1.heap.size + 1, 3, none⟩ = some (.int .i64 x) := (by rw [d14.cell (by first | omega | (simp; done) | (simp; omega))]; go_cell)
        have ol_14 : w1.heap.size + 1 < w14.heap.size := (by have := d14.size; omega)
        have p0_14 : w14.cell? ⟨w4.heap.size + 1, 0, none⟩ = some (.int .i64 k2) := (by rw [d14.cell (by first | omega | (simp; done) | (simp; omega))]; go_cell)
        have p1_14 : w14.cell? ⟨w4.heap.size + 1, 1, none⟩ = some (.int .i64 a2) := (by rw [d14.cell (by first | omega | (simp; done) | (simp; omega))]; go_cell)
        have p2_14 : w14.cell? ⟨w4.heap.size + 1, 2, none⟩ = some (.int .i64 b2) := (by rw [d14.cell (by first | omega | (simp; done) | (simp; omega))]; go_cell)
        have p3_14 : w14.cell? ⟨w4.heap.size + 1, 3, none⟩ = some (.int .i64 x2) := (by rw [d14.cell (by first | omega | (simp; done) | (simp; omega))]; go_cell)
        have pl_14 : w4.heap.size + 1 < w14.heap.size := (by have := d14.size; omega)
        have x0_14 : w14.cell? ⟨w7.heap.size, 0, none⟩ = some (.slice (some ⟨gx, 0, none⟩) 24 24) := (by rw [d14.cell (by first | omega | (simp; done) | (simp; omega))]; go_cell)
        have xl_14 : w7.heap.size < w14.heap.size := (by have := d14.size; omega)
        have y0_14 : w14.cell? ⟨w11.heap.size, 0, none⟩ = some (.slice (some ⟨gy, 0, none⟩) 24 24) := (by rw [d14.cell (by first | omega | (simp; done) | (simp; omega))]; go_cell)
        have yl_14 : w11.heap.size < w14.heap.size := (by have := d14.size; omega)
        clear g0_13 gl_13 o0_13 o1_13 o2_13 o3_13 ol_13 p0_13 p1_13 p2_13 p3_13 pl_13 x0_13 xl_13 y0_13 yl_13
        have HL_14 := hid (HL_13.out.later d14)
        have HX_14 := hid (HX_13.out.later d14)
        have HY_14 := hid (HY_13.out.later d14)
        have HU_14 := hid (HU_13.out.later d14)
        clear d14 HL_13 HX_13 HY_13 HU_13
        refine (implGDo_rd _ (doG L k2 a2 b2 x2) k a b x _ HY_14.out hokB.out hA).mono ?_
        rintro e w15 ⟨⟨gv, rfl, hx⟩, b15⟩
        have d15 : Below w14.heap.size w14 w15 := (Below.trans (by go_grown) (b15.mono (by first | omega | (simp; done) | (simp; omega))))
        have c15 : Below w.heap.size w w15 := c14.trans (d15.mono c14.size)
        have g0_15 : w15.cell? ⟨w1.heap.size, 0, none⟩ = some (.slice uo L.length uc) := (by rw [b15.cell (by first | omega | (simp; done) | (simp; omega))]; go_cell)
        have gl_15 : w1.heap.size < w15.heap.size := (by have := b15.size; first | omega | (revert this; simp; done) | (revert this; simp; omega))
        have o0_15 : w15.cell? ⟨w1.heap.size + 1, 0, none⟩ = some (.int .i64 k) := (by rw [b15.cell (by first | omega | (simp; done) | (simp; omega))]; go_cell)
        have o1_15 : w15.cell? ⟨w1.heap.size + 1, 1, none⟩ = some (.int .i64 a) := (by rw [b15.cell (by first | omega | (simp; done) | (simp; omega))]; go_cell)
        have o2_15 : w15.cell? ⟨w1.heap.size + 1, 2, none⟩ = some (.int .i64 b) := (by rw [b15.cell (by first | omega | (simp; done) | (simp; omega))]; go_cell)
        have o3_15 : w15.cell? ⟨w1.heap.size + 1, 3, none⟩ = some (.int .i64 x) := (by rw [b15.cell (by first | omega | (simp; done) | (simp; omega))]; go_cell)
        have ol_15 : w1.heap.size + 1 < w15.heap.size := (by have := b15.size; first | omega | (revert this; simp; done) | (revert this; simp; omega))
        have p0_15 : w15.cell? ⟨w4.heap.size + 1, 0, none⟩ = some (.int .i64 k2) := (by rw [b15.cell (by first | omega | (simp; done) | (simp; omega))]; go_cell)
        have p1_15 : w15.cell? ⟨w4.heap.size + 1, 1, none⟩ = some (.int .i64 a2) := (by rw [b15.cell (by first | omega | (simp; done) | (simp; omega))]; go_cell)
        have p2_15 : w15.cell? ⟨w4.heap.size + 1, 2, none⟩ = some (.int .i64 b2) := (by rw [b15.cell (by first | omega | (simp; done) | (simp; omega))]; go_cell)
        have p3_15 : w15.cell? ⟨w4.heap.size + 1, 3, none⟩ = some (.int .i64 x2) := (by rw [b15.cell (by first | omega | (simp; done) | (simp; omega))]; go_cell)
        have pl_15 : w4.heap.size + 1 < w15.heap.size := (by have := b15.size; first | omega | (revert this; simp; done) | (revert this; simp; omega))
        have x0_15 : w15.cell? ⟨w7.heap.size, 0, none⟩ = some (.slice (some ⟨gx, 0, none⟩) 24 24) := (by rw [b15.cell (by first | omega | (simp; done) | (simp; omega))]; go_cell)
        have xl_15 : w7.heap.size < w15.heap.size := (by have := b15.size; first | omega | (revert this; simp; done) | (revert this; simp; omega))
        have y0_15 : w15.cell? ⟨w11.heap.size, 0, none⟩ = some (.slice (some ⟨gy, 0, none⟩) 24 24) := (by rw [b15.cell (by first | omega | (simp; done) | (simp; omega))]; go_cell)
        have yl_15 : w11.heap.size < w15.heap.size := (by have := b15.size; first | omega | (revert this; simp; done) | (revert this; simp; omega))
        have u0_15 : w15.cell? ⟨w13.heap.size, 0, none⟩ = some (.slice (some ⟨gu, 0, none⟩) 24 24) := (by rw [b15.cell (by first | omega | (simp; done) | (simp; omega))]; go_cell)
        have ul_15 : w13.heap.size < w15.heap.size := (by have := b15.size; first | omega | (revert this; simp; done) | (revert this; simp; omega))
        clear g0_14 gl_14 o0_14 o1_14 o2_14 o3_14 ol_14 p0_14 p1_14 p2_14 p3_14 pl_14 x0_14 xl_14 y0_14 yl_14 u0_14 ul_14
        have HL_15 := hid (HL_14.out.later d15)
        have HX_15 := hid (HX_14.out.later d15)
        have HY_15 := hid (HY_14.out.later d15)
        have HU_15 := hid (HU_14.out.later d15)
        clear d15 b15 HL_14 HX_14 HY_14 HU_14
        have HV_15 := hid hx
        clear hx
        have hlen := hid (okG_true hokh.out).1
        rcases op_two hA with hs | ⟨hk, hs⟩ <;> rcases op_two hB with hs2 | ⟨hk2, hs2⟩
        · skip
          have e1 : k = 1 := hs.1
          subst e1
          have e2 : k2 = 1 := hs2.1
          subst e2
          by_cases ea : a = a2
          · subst ea
            go_wp2_with fail
            have v0_16 : (w15.alloc (.cells #[.slice (some ⟨gv, 0, none⟩) 24 24] 25)).cell? ⟨w15.heap.size, 0, none⟩ = some (.slice (some ⟨gv, 0, none⟩) 24 24) := by go_cell
            have vl_16 : w15.heap.size < (w15.alloc (.cells #[.slice (some ⟨gv, 0, none⟩) 24 24] 25)).heap.size := by simp
            have d16 : Below w15.heap.size w15 (w15.alloc (.cells #[.slice (some ⟨gv, 0, none⟩) 24 24] 25)) := by go_grown
            generalize (w15.alloc (.cells #[.slice (some ⟨gv, 0, none⟩) 24 24] 25)) = w16 at v0_16 vl_16 d16 ⊢
            have c16 : Below w.heap.size w w16 := c15.trans (d16.mono c15.size)
            have g0_16 : w16.cell? ⟨w1.heap.size, 0, none⟩ = some (.slice uo L.length uc) := (by rw [d16.cell (by first | omega | (simp; done) | (simp; omega))]; go_cell)
            have gl_16 : w1.heap.size < w16.heap.size := (by have := d16.size; omega)
            have o0_16 : w16.cell? ⟨w1.heap.size + 1, 0, none⟩ = some (.int .i64 1) := (by rw [d16.cell (by first | omega | (simp; done) | (simp; omega))]; go_cell)
            have o1_16 : w16.cell? ⟨w1.heap.size + 1, 1, none⟩ = some (.int .i64 a) := (by rw [d16.cell (by first | omega | (simp; done) | (simp; omega))]; go_cell)
            have o2_16 : w16.cell? ⟨w1.heap.size + 1, 2, none⟩ = some (.int .i64 b) := (by rw [d16.cell (by first | omega | (simp; done) | (simp; omega))]; go_cell)
            have o3_16 : w16.cell? ⟨w1.heap.size + 1, 3, none⟩ = some (.int .i64 x) := (by rw [d16.cell (by first | omega | (simp; done) | (simp; omega))]; go_cell)
            have ol_16 : w1.heap.size + 1 < w16.heap.size := (by have := d16.size; omega)
            have p0_16 : w16.cell? ⟨w4.heap.size + 1, 0, none⟩ = some (.int .i64 1) := (by rw [d16.cell (by first | omega | (simp; done) | (simp; omega))]; go_cell)
            have p1_16 : w16.cell? ⟨w4.heap.size + 1, 1, none⟩ = some (.int .i64 a) := (by rw [d16.cell (by first | omega | (simp; done) | (simp; omega))]; go_cell)
            have p2_16 : w16.cell? ⟨w4.heap.size + 1, 2, none⟩ = some (.int .i64 b2) := (by rw [d16.cell (by first | omega | (simp; done) | (simp; omega))]; go_cell)
            have p3_16 : w16.cell? ⟨w4.heap.size + 1, 3, none⟩ = some (.int .i64 x2) := (by rw [d16.cell (by first | omega | (simp; done) | (simp; omega))]; go_cell)
            have pl_16 : w4.heap.size + 1 < w16.heap.size := (by have := d16.size; omega)
            have x0_16 : w16.cell? ⟨w7.heap.size, 0, none⟩ = some (.slice (some ⟨gx, 0, none⟩) 24 24) := (by rw [d16.cell (by first | omega | (simp; done) | (simp; omega))]; go_cell)
            have xl_16 : w7.heap.size < w16.heap.size := (by have := d16.size; omega)
            have y0_16 : w16.cell? ⟨w11.heap.size, 0, none⟩ = some (.slice (some ⟨gy, 0, none⟩) 24 24) := (by rw [d16.cell (by first | omega | (simp; done) | (simp; omega))]; go_cell)
            have yl_16 : w11.heap.size < w16.heap.size := (by have := d16.size; omega)
            have u0_16 : w16.cell? ⟨w13.heap.size, 0, none⟩ = some (.slice (some ⟨gu, 0, none⟩) 24 24) := (by rw [d16.cell (by first | omega | (simp; done) | (simp; omega))]; go_cell)
            have ul_16 : w13.heap.size < w16.heap.size := (by have := d16.size; omega)
            clear g0_15 gl_15 o0_15 o1_15 o2_15 o3_15 ol_15 p0_15 p1_15 p2_15 p3_15 pl_15 x0_15 xl_15 y0_15 yl_15 u0_15 ul_15
            have HL_16 := hid (HL_15.out.later d16)
            have HX_16 := hid (HX_15.out.later d16)
            have HY_16 := hid (HY_15.out.later d16)
            have HU_16 := hid (HU_15.out.later d16)
            have HV_16 := hid (HV_15.out.later d16)
            clear d16 HL_15 HX_15 HY_15 HU_15 HV_15
            refine (gsame_is HU_16.out HY_16.out (doG_set_last hlen.out hs hs2)).mono ?_
            rintro e w17 ⟨rfl, b17⟩
            have d17 : Below w16.heap.size w16 w17 := (Below.trans (by go_grown) (b17.mono (by first | omega | (simp; done) | (simp; omega))))
            have c17 : Below w.heap.size w w17 := c16.trans (d17.mono c16.size)
            have g0_17 : w17.cell? ⟨w1.heap.size, 0, none⟩ = some (.slice uo L.length uc) := (by rw [b17.cell (by first | omega | (simp; done) | (simp; omega))]; go_cell)
            have gl_17 : w1.heap.size < w17.heap.size := (by have := b17.size; first | omega | (revert this; simp; done) | (revert this; simp; omega))
            have o0_17 : w17.cell? ⟨w1.heap.size + 1, 0, none⟩ = some (.int .i64 1) := (by rw [b17.cell (by first | omega | (simp; done) | (simp; omega))]; go_cell)
            have o1_17 : w17.cell? ⟨w1.heap.size + 1, 1, none⟩ = some (.int .i64 a) := (by rw [b17.cell (by first | omega | (simp; done) | (simp; omega))]; go_cell)
            have o2_17 : w17.cell? ⟨w1.heap.size + 1, 2, none⟩ = some (.int .i64 b) := (by rw [b17.cell (by first | omega | (simp; done) | (simp; omega))]; go_cell)
            have o3_17 : w17.cell? ⟨w1.heap.size + 1, 3, none⟩ = some (.int .i64 x) := (by rw [b17.cell (by first | omega | (simp; done) | (simp; omega))]; go_cell)
            have ol_17 : w1.heap.size + 1 < w17.heap.size := (by have := b17.size; first | omega | (revert this; simp; done) | (revert this; simp; omega))
            have p0_17 : w17.cell? ⟨w4.heap.size + 1, 0, none⟩ = some (.int .i64 1) := (by rw [b17.cell (by first | omega | (simp; done) | (simp; omega))]; go_cell)
            have p1_17 : w17.cell? ⟨w4.heap.size + 1, 1, none⟩ = some (.int .i64 a) := (by rw [b17.cell (by first | omega | (simp; done) | (simp; omega))]; go_cell)
            have p2_17 : w17.cell? ⟨w4.heap.size + 1, 2, none⟩ = some (.int .i64 b2) := (by rw [b17.cell (by first | omega | (simp; done) | (simp; omega))]; go_cell)
            have p3_17 : w17.cell? ⟨w4.heap.size + 1, 3, none⟩ = some (.int .i64 x2) := (by rw [b17.cell (by first | omega | (simp; done) | (simp; omega))]; go_cell)
            have pl_17 : w4.heap.size + 1 < w17.heap.size := (by have := b17.size; first | omega | (revert this; simp; done) | (revert this; simp; omega))
            have x0_17 : w17.cell? ⟨w7.heap.size, 0, none⟩ = some (.slice (some ⟨gx, 0, none⟩) 24 24) := (by rw [b17.cell (by first | omega | (simp; done) | (simp; omega))]; go_cell)
            have xl_17 : w7.heap.size < w17.heap.size := (by have := b17.size; first | omega | (revert this; simp; done) | (revert this; simp; omega))
            have y0_17 : w17.cell? ⟨w11.heap.size, 0, none⟩ = some (.slice (some ⟨gy, 0, none⟩) 24 24) := (by rw [b17.cell (by first | omega | (simp; done) | (simp; omega))]; go_cell)
            have yl_17 : w11.heap.size < w17.heap.size := (by have := b17.size; first | omega | (revert this; simp; done) | (revert this; simp; omega))
            have u0_17 : w17.cell? ⟨w13.heap.size, 0, none⟩ = some (.slice (some ⟨gu, 0, none⟩) 24 24) := (by rw [b17.cell (by first | omega | (simp; done) | (simp; omega))]; go_cell)
            have ul_17 : w13.heap.size < w17.heap.size := (by have := b17.size; first | omega | (revert this; simp; done) | (revert this; simp; omega))
            have v0_17 : w17.cell? ⟨w15.heap.size, 0, none⟩ = some (.slice (some ⟨gv, 0, none⟩) 24 24) := (by rw [b17.cell (by first | omega | (simp; done) | (simp; omega))]; go_cell)
            have vl_17 : w15.heap.size < w17.heap.size := (by have := b17.size; first | omega | (revert this; simp; done) | (revert this; simp; omega))
            clear g0_16 gl_16 o0_16 o1_16 o2_16 o3_16 ol_16 p0_16 p1_16 p2_16 p3_16 pl_16 x0_16 xl_16 y0_16 yl_16 u0_16 ul_16 v0_16 vl_16
            have HL_17 := hid (HL_16.out.later d17)
            have HX_17 := hid (HX_16.out.later d17)
            have HY_17 := hid (HY_16.out.later d17)
            have HU_17 := hid (HU_16.out.later d17)
            have HV_17 := hid (HV_16.out.later d17)
            clear d17 b17 HL_16 HX_16 HY_16 HU_16 HV_16
            go_wp2_with fail
            refine (gsame_is HV_17.out HX_17.out (doG_set_last hlen.out hs2 hs)).mono ?_
            rintro e w18 ⟨rfl, b18⟩
            have d18 : Below w17.heap.size w17 w18 := (Below.trans (by go_grown) (b18.mono (by first | omega | (simp; done) | (simp; omega))))
            have c18 : Below w.heap.size w w18 := c17.trans (d18.mono c17.size)
            have g0_18 : w18.cell? ⟨w1.heap.size, 0, none⟩ = some (.slice uo L.length uc) := (by rw [b18.cell (by first | omega | (simp; done) | (simp; omega))]; go_cell)
            have gl_18 : w1.heap.size < w18.heap.size := (by have := b18.size; first | omega | (revert this; simp; done) | (revert this; simp; omega))
            have o0_18 : w18.cell? ⟨w1.heap.size + 1, 0, none⟩ = some (.int .i64 1) := (by rw [b18.cell (by first | omega | (simp; done) | (simp; omega))]; go_cell)
            have o1_18 : w18.cell? ⟨w1.heap.size + 1, 1, none⟩ = some (.int .i64 a) := (by rw [b18.cell (by first | omega | (simp; done) | (simp; omega))]; go_cell)
            have o2_18 : w18.cell? ⟨w1.heap.size + 1, 2, none⟩ = some (.int .i64 b) := (by rw [b18.cell (by first | omega | (simp; done) | (simp; omega))]; go_cell)
            have o3_18 : w18.cell? ⟨w1.heap.size + 1, 3, none⟩ = some (.int .i64 x) := (by rw [b18.cell (by first | omega | (simp; done) | (simp; omega))]; go_cell)
            have ol_18 : w1.heap.size + 1 < w18.heap.size := (by have := b18.size; first | omega | (revert this; simp; done) | (revert this; simp; omega))
            have p0_18 : w18.cell? ⟨w4.heap.size + 1, 0, none⟩ = some (.int .i64 1) := (by rw [b18.cell (by first | omega | (simp; done) | (simp; omega))]; go_cell)
            have p1_18 : w18.cell? ⟨w4.heap.size + 1, 1, none⟩ = some (.int .i64 a) := (by rw [b18.cell (by first | omega | (simp; done) | (simp; omega))]; go_cell)
            have p2_18 : w18.cell? ⟨w4.heap.size + 1, 2, none⟩ = some (.int .i64 b2) := (by rw [b18.cell (by first | omega | (simp; done) | (simp; omega))]; go_cell)
            have p3_18 : w18.cell? ⟨w4.heap.size + 1, 3, none⟩ = some (.int .i64 x2) := (by rw [b18.cell (by first | omega | (simp; done) | (simp; omega))]; go_cell)
            have pl_18 : w4.heap.size + 1 < w18.heap.size := (by have := b18.size; first | omega | (revert this; simp; done) | (revert this; simp; omega))
            have x0_18 : w18.cell? ⟨w7.heap.size, 0, none⟩ = some (.slice (some ⟨gx, 0, none⟩) 24 24) := (by rw [b18.cell (by first | omega | (simp; done) | (simp; omega))]; go_cell)
            have xl_18 : w7.heap.size < w18.heap.size := (by have := b18.size; first | omega | (revert this; simp; done) | (revert this; simp; omega))
            have y0_18 : w18.cell? ⟨w11.heap.size, 0, none⟩ = some (.slice (some ⟨gy, 0, none⟩) 24 24) := (by rw [b18.cell (by first | omega | (simp; done) | (simp; omega))]; go_cell)
            have yl_18 : w11.heap.size < w18.heap.size := (by have := b18.size; first | omega | (revert this; simp; done) | (revert this; simp; omega))
            have u0_18 : w18.cell? ⟨w13.heap.size, 0, none⟩ = some (.slice (some ⟨gu, 0, none⟩) 24 24) := (by rw [b18.cell (by first | omega | (simp; done) | (simp; omega))]; go_cell)
            have ul_18 : w13.heap.size < w18.heap.size := (by have := b18.size; first | omega | (revert this; simp; done) | (revert this; simp; omega))
            have v0_18 : w18.cell? ⟨w15.heap.size, 0, none⟩ = some (.slice (some ⟨gv, 0, none⟩) 24 24) := (by rw [b18.cell (by first | omega | (simp; done) | (simp; omega))]; go_cell)
            have vl_18 : w15.heap.size < w18.heap.size := (by have := b18.size; first | omega | (revert this; simp; done) | (revert this; simp; omega))
            clear g0_17 gl_17 o0_17 o1_17 o2_17 o3_17 ol_17 p0_17 p1_17 p2_17 p3_17 pl_17 x0_17 xl_17 y0_17 yl_17 u0_17 ul_17 v0_17 vl_17
            have HL_18 := hid (HL_17.out.later d18)
            have HX_18 := hid (HX_17.out.later d18)
            have HY_18 := hid (HY_17.out.later d18)
            have HU_18 := hid (HU_17.out.later d18)
            have HV_18 := hid (HV_17.out.later d18)
            clear d18 b18 HL_17 HX_17 HY_17 HU_17 HV_17
            go_wp2
            go_ret
            exact ⟨by simp, (by first | exact c18 | exact Below.trans c18 (Below.mono (by go_grown) c18.size))⟩
          · have ea' : (a == a2) = false := by simpa using ea
            go_wp2_with fail
            have v0_16 : (w15.alloc (.cells #[.slice (some ⟨gv, 0, none⟩) 24 24] 25)).cell? ⟨w15.heap.size, 0, none⟩ = some (.slice (some ⟨gv, 0, none⟩) 24 24) := by go_cell
            have vl_16 : w15.heap.size < (w15.alloc (.cells #[.slice (some ⟨gv, 0, none⟩) 24 24] 25)).heap.size := by simp
            have d16 : Below w15.heap.size w15 (w15.alloc (.cells #[.slice (some ⟨gv, 0, none⟩) 24 24] 25)) := by go_grown
            generalize (w15.alloc (.cells #[.slice (some ⟨gv, 0, none⟩) 24 24] 25)) = w16 at v0_16 vl_16 d16 ⊢
            have c16 : Below w.heap.size w w16 := c15.trans (d16.mono c15.size)
            have g0_16 : w16.cell? ⟨w1.heap.size, 0, none⟩ = some (.slice uo L.length uc) := (by rw [d16.cell (by first | omega | (simp; done) | (simp; omega))]; go_cell)
            have gl_16 : w1.heap.size < w16.heap.size := (by have := d16.size; omega)
            have o0_16 : w16.cell? ⟨w1.heap.size + 1, 0, none⟩ = some (.int .i64 1) := (by rw [d16.cell (by first | omega | (simp; done) | (simp; omega))]; go_cell)
            have o1_16 : w16.cell? ⟨w1.heap.size + 1, 1, none⟩ = some (.int .i64 a) := (by rw [d16.cell (by first | omega | (simp; done) | (simp; omega))]; go_cell)
            have o2_16 : w16.cell? ⟨w1.heap.size + 1, 2, none⟩ = some (.int .i64 b) := (by rw [d16.cell (by first | omega | (simp; done) | (simp; omega))]; go_cell)
            have o3_16 : w16.cell? ⟨w1.heap.size + 1, 3, none⟩ = some (.int .i64 x) := (by rw [d16.cell (by first | omega | (simp; done) | (simp; omega))]; go_cell)
            have ol_16 : w1.heap.size + 1 < w16.heap.size := (by have := d16.size; omega)
            have p0_16 : w16.cell? ⟨w4.heap.size + 1, 0, none⟩ = some (.int .i64 1) := (by rw [d16.cell (by first | omega | (simp; done) | (simp; omega))]; go_cell)
            have p1_16 : w16.cell? ⟨w4.heap.size + 1, 1, none⟩ = some (.int .i64 a2) := (by rw [d16.cell (by first | omega | (simp; done) | (simp; omega))]; go_cell)
            have p2_16 : w16.cell? ⟨w4.heap.size + 1, 2, none⟩ = some (.int .i64 b2) := (by rw [d16.cell (by first | omega | (simp; done) | (simp; omega))]; go_cell)
            have p3_16 : w16.cell? ⟨w4.heap.size + 1, 3, none⟩ = some (.int .i64 x2) := (by rw [d16.cell (by first | omega | (simp; done) | (simp; omega))]; go_cell)
            have pl_16 : w4.heap.size + 1 < w16.heap.size := (by have := d16.size; omega)
            have x0_16 : w16.cell? ⟨w7.heap.size, 0, none⟩ = some (.slice (some ⟨gx, 0, none⟩) 24 24) := (by rw [d16.cell (by first | omega | (simp; done) | (simp; omega))]; go_cell)
            have xl_16 : w7.heap.size < w16.heap.size := (by have := d16.size; omega)
            have y0_16 : w16.cell? ⟨w11.heap.size, 0, none⟩ = some (.slice (some ⟨gy, 0, none⟩) 24 24) := (by rw [d16.cell (by first | omega | (simp; done) | (simp; omega))]; go_cell)
            have yl_16 : w11.heap.size < w16.heap.size := (by have := d16.size; omega)
            have u0_16 : w16.cell? ⟨w13.heap.size, 0, none⟩ = some (.slice (some ⟨gu, 0, none⟩) 24 24) := (by rw [d16.cell (by first | omega | (simp; done) | (simp; omega))]; go_cell)
            have ul_16 : w13.heap.size < w16.heap.size := (by have := d16.size; omega)
            clear g0_15 gl_15 o0_15 o1_15 o2_15 o3_15 ol_15 p0_15 p1_15 p2_15 p3_15 pl_15 x0_15 xl_15 y0_15 yl_15 u0_15 ul_15
            have HL_16 := hid (HL_15.out.later d16)
            have HX_16 := hid (HX_15.out.later d16)
            have HY_16 := hid (HY_15.out.later d16)
            have HU_16 := hid (HU_15.out.later d16)
            have HV_16 := hid (HV_15.out.later d16)
            clear d16 HL_15 HX_15 HY_15 HU_15 HV_15
            refine (gsame_is HU_16.out HV_16.out (doG_set_set hlen.out hs hs2 ea)).mono ?_
            rintro e w17 ⟨rfl, b17⟩
            have d17 : Below w16.heap.size w16 w17 := (Below.trans (by go_grown) (b17.mono (by first | omega | (simp; done) | (simp; omega))))
            have c17 : Below w.heap.size w w17 := c16.trans (d17.mono c16.size)
            have g0_17 : w17.cell? ⟨w1.heap.size, 0, none⟩ = some (.slice uo L.length uc) := (by rw [b17.cell (by first | omega | (simp; done) | (simp; omega))]; go_cell)
            have gl_17 : w1.heap.size < w17.heap.size := (by have := b17.size; first | omega | (revert this; simp; done) | (revert this; simp; omega))
            have o0_17 : w17.cell? ⟨w1.heap.size + 1, 0, none⟩ = some (.int .i64 1) := (by rw [b17.cell (by first | omega | (simp; done) | (simp; omega))]; go_cell)
            have o1_17 : w17.cell? ⟨w1.heap.size + 1, 1, none⟩ = some (.int .i64 a) := (by rw [b17.cell (by first | omega | (simp; done) | (simp; omega))]; go_cell)
            have o2_17 : w17.cell? ⟨w1.heap.size + 1, 2, none⟩ = some (.int .i64 b) := (by rw [b17.cell (by first | omega | (simp; done) | (simp; omega))]; go_cell)
            have o3_17 : w17.cell? ⟨w1.heap.size + 1, 3, none⟩ = some (.int .i64 x) := (by rw [b17.cell (by first | omega | (simp; done) | (simp; omega))]; go_cell)
            have ol_17 : w1.heap.size + 1 < w17.heap.size := (by have := b17.size; first | omega | (revert this; simp; done) | (revert this; simp; omega))
            have p0_17 : w17.cell? ⟨w4.heap.size + 1, 0, none⟩ = some (.int .i64 1) := (by rw [b17.cell (by first | omega | (simp; done) | (simp; omega))]; go_cell)
            have p1_17 : w17.cell? ⟨w4.heap.size + 1, 1, none⟩ = some (.int .i64 a2) := (by rw [b17.cell (by first | omega | (simp; done) | (simp; omega))]; go_cell)
            have p2_17 : w17.cell? ⟨w4.heap.size + 1, 2, none⟩ = some (.int .i64 b2) := (by rw [b17.cell (by first | omega | (simp; done) | (simp; omega))]; go_cell)
            have p3_17 : w17.cell? ⟨w4.heap.size + 1, 3, none⟩ = some (.int .i64 x2) := (by rw [b17.cell (by first | omega | (simp; done) | (simp; omega))]; go_cell)
            have pl_17 : w4.heap.size + 1 < w17.heap.size := (by have := b17.size; first | omega | (revert this; simp; done) | (revert this; simp; omega))
            have x0_17 : w17.cell? ⟨w7.heap.size, 0, none⟩ = some (.slice (some ⟨gx, 0, none⟩) 24 24) := (by rw [b17.cell (by first | omega | (simp; done) | (simp; omega))]; go_cell)
            have xl_17 : w7.heap.size < w17.heap.size := (by have := b17.size; first | omega | (revert this; simp; done) | (revert this; simp; omega))
            have y0_17 : w17.cell? ⟨w11.heap.size, 0, none⟩ = some (.slice (some ⟨gy, 0, none⟩) 24 24) := (by rw [b17.cell (by first | omega | (simp; done) | (simp; omega))]; go_cell)
            have yl_17 : w11.heap.size < w17.heap.size := (by have := b17.size; first | omega | (revert this; simp; done) | (revert this; simp; omega))
            have u0_17 : w17.cell? ⟨w13.heap.size, 0, none⟩ = some (.slice (some ⟨gu, 0, none⟩) 24 24) := (by rw [b17.cell (by first | omega | (simp; done) | (simp; omega))]; go_cell)
            have ul_17 : w13.heap.size < w17.heap.size := (by have := b17.size; first | omega | (revert this; simp; done) | (revert this; simp; omega))
            have v0_17 : w17.cell? ⟨w15.heap.size, 0, none⟩ = some (.slice (some ⟨gv, 0, none⟩) 24 24) := (by rw [b17.cell (by first | omega | (simp; done) | (simp; omega))]; go_cell)
            have vl_17 : w15.heap.size < w17.heap.size := (by have := b17.size; first | omega | (revert this; simp; done) | (revert this; simp; omega))
            clear g0_16 gl_16 o0_16 o1_16 o2_16 o3_16 ol_16 p0_16 p1_16 p2_16 p3_16 pl_16 x0_16 xl_16 y0_16 yl_16 u0_16 ul_16 v0_16 vl_16
            have HL_17 := hid (HL_16.out.later d17)
            have HX_17 := hid (HX_16.out.later d17)
            have HY_17 := hid (HY_16.out.later d17)
            have HU_17 := hid (HU_16.out.later d17)
            have HV_17 := hid (HV_16.out.later d17)
            clear d17 b17 HL_16 HX_16 HY_16 HU_16 HV_16
            go_wp2
            go_ret
            exact ⟨by simp, (by first | exact c17 | exact Below.trans c17 (Below.mono (by go_grown) c17.size))⟩
        · skip
          have e1 : k = 1 := hs.1
          subst e1
          have e2 : (k2 == 1) = false := by simpa using hk2
          have e2n : (k2 != 1) = true := by simpa using hk2
          go_wp2_with fail
          have v0_16 : (w15.alloc (.cells #[.slice (some ⟨gv, 0, none⟩) 24 24] 25)).cell? ⟨w15.heap.size, 0, none⟩ = some (.slice (some ⟨gv, 0, none⟩) 24 24) := by go_cell
          have vl_16 : w15.heap.size < (w15.alloc (.cells #[.slice (some ⟨gv, 0, none⟩) 24 24] 25)).heap.size := by simp
          have d16 : Below w15.heap.size w15 (w15.alloc (.cells #[.slice (some ⟨gv, 0, none⟩) 24 24] 25)) := by go_grown
          generalize (w15.alloc (.cells #[.slice (some ⟨gv, 0, none⟩) 24 24] 25)) = w16 at v0_16 vl_16 d16 ⊢
          have c16 : Below w.heap.size w w16 := c15.trans (d16.mono c15.size)
          have g0_16 : w16.cell? ⟨w1.heap.size, 0, none⟩ = some (.slice uo L.length uc) := (by rw [d16.cell (by first | omega | (simp; done) | (simp; omega))]; go_cell)
          have gl_16 : w1.heap.size < w16.heap.size := (by have := d16.size; omega)
          have o0_16 : w16.cell? ⟨w1.heap.size + 1, 0, none⟩ = some (.int .i64 1) := (by rw [d16.cell (by first | omega | (simp; done) | (simp; omega))]; go_cell)
          have o1_16 : w16.cell? ⟨w1.heap.size + 1, 1, none⟩ = some (.int .i64 a) := (by rw [d16.cell (by first | omega | (simp; done) | (simp; omega))]; go_cell)
          have o2_16 : w16.cell? ⟨w1.heap.size + 1, 2, none⟩ = some (.int .i64 b) := (by rw [d16.cell (by first | omega | (simp; done) | (simp; omega))]; go_cell)
          have o3_16 : w16.cell? ⟨w1.heap.size + 1, 3, none⟩ = some (.int .i64 x) := (by rw [d16.cell (by first | omega | (simp; done) | (simp; omega))]; go_cell)
          have ol_16 : w1.heap.size + 1 < w16.heap.size := (by have := d16.size; omega)
          have p0_16 : w16.cell? ⟨w4.heap.size + 1, 0, none⟩ = some (.int .i64 k2) := (by rw [d16.cell (by first | omega | (simp; done) | (simp; omega))]; go_cell)
          have p1_16 : w16.cell? ⟨w4.heap.size + 1, 1, none⟩ = some (.int .i64 a2) := (by rw [d16.cell (by first | omega | (simp; done) | (simp; omega))]; go_cell)
          have p2_16 : w16.cell? ⟨w4.heap.size + 1, 2, none⟩ = some (.int .i64 b2) := (by rw [d16.cell (by first | omega | (simp; done) | (simp; omega))]; go_cell)
          have p3_16 : w16.cell? ⟨w4.heap.size + 1, 3, none⟩ = some (.int .i64 x2) := (by rw [d16.cell (by first | omega | (simp; done) | (simp; omega))]; go_cell)
          have pl_16 : w4.heap.size + 1 < w16.heap.size := (by have := d16.size; omega)
          have x0_16 : w16.cell? ⟨w7.heap.size, 0, none⟩ = some (.slice (some ⟨gx, 0, none⟩) 24 24) := (by rw [d16.cell (by first | omega | (simp; done) | (simp; omega))]; go_cell)
          have xl_16 : w7.heap.size < w16.heap.size := (by have := d16.size; omega)
          have y0_16 : w16.cell? ⟨w11.heap.size, 0, none⟩ = some (.slice (some ⟨gy, 0, none⟩) 24 24) := (by rw [d16.cell (by first | omega | (simp; done) | (simp; omega))]; go_cell)
          have yl_16 : w11.heap.size < w16.heap.size := (by have := d16.size; omega)
          have u0_16 : w16.cell? ⟨w13.heap.size, 0, none⟩ = some (.slice (some ⟨gu, 0, none⟩) 24 24) := (by rw [d16.cell (by first | omega | (simp; done) | (simp; omega))]; go_cell)
          have ul_16 : w13.heap.size < w16.heap.size := (by have := d16.size; omega)
          clear g0_15 gl_15 o0_15 o1_15 o2_15 o3_15 ol_15 p0_15 p1_15 p2_15 p3_15 pl_15 x0_15 xl_15 y0_15 yl_15 u0_15 ul_15
          have HL_16 := hid (HL_15.out.later d16)
          have HX_16 := hid (HX_15.out.later d16)
          have HY_16 := hid (HY_15.out.later d16)
          have HU_16 := hid (HU_15.out.later d16)
          have HV_16 := hid (HV_15.out.later d16)
          clear d16 HL_15 HX_15 HY_15 HU_15 HV_15
          refine (gsame_is HU_16.out HV_16.out ((doG_comm_set hlen.out hs2 hs).symm)).mono ?_
          rintro e w17 ⟨rfl, b17⟩
          have d17 : Below w16.heap.size w16 w17 := (Below.trans (by go_grown) (b17.mono (by first | omega | (simp; done) | (simp; omega))))
          have c17 : Below w.heap.size w w17 := c16.trans (d17.mono c16.size)
          have g0_17 : w17.cell? ⟨w1.heap.size, 0, none⟩ = some (.slice uo L.length uc) := (by rw [b17.cell (by first | omega | (simp; done) | (simp; omega))]; go_cell)
          have gl_17 : w1.heap.size < w17.heap.size := (by have := b17.size; first | omega | (revert this; simp; done) | (revert this; simp; omega))
          have o0_17 : w17.cell? ⟨w1.heap.size + 1, 0, none⟩ = some (.int .i64 1) := (by rw [b17.cell (by first | omega | (simp; done) | (simp; omega))]; go_cell)
          have o1_17 : w17.cell? ⟨w1.heap.size + 1, 1, none⟩ = some (.int .i64 a) := (by rw [b17.cell (by first | omega | (simp; done) | (simp; omega))]; go_cell)
          have o2_17 : w17.cell? ⟨w1.heap.size + 1, 2, none⟩ = some (.int .i64 b) := (by rw [b17.cell (by first | omega | (simp; done) | (simp; omega))]; go_cell)
          have o3_17 : w17.cell? ⟨w1.heap.size + 1, 3, none⟩ = some (.int .i64 x) := (by rw [b17.cell (by first | omega | (simp; done) | (simp; omega))]; go_cell)
          have ol_17 : w1.heap.size + 1 < w17.heap.size := (by have := b17.size; first | omega | (revert this; simp; done) | (revert this; simp; omega))
          have p0_17 : w17.cell? ⟨w4.heap.size + 1, 0, none⟩ = some (.int .i64 k2) := (by rw [b17.cell (by first | omega | (simp; done) | (simp; omega))]; go_cell)
          have p1_17 : w17.cell? ⟨w4.heap.size + 1, 1, none⟩ = some (.int .i64 a2) := (by rw [b17.cell (by first | omega | (simp; done) | (simp; omega))]; go_cell)
          have p2_17 : w17.cell? ⟨w4.heap.size + 1, 2, none⟩ = some (.int .i64 b2) := (by rw [b17.cell (by first | omega | (simp; done) | (simp; omega))]; go_cell)
          have p3_17 : w17.cell? ⟨w4.heap.size + 1, 3, none⟩ = some (.int .i64 x2) := (by rw [b17.cell (by first | omega | (simp; done) | (simp; omega))]; go_cell)
          have pl_17 : w4.heap.size + 1 < w17.heap.size := (by have := b17.size; first | omega | (revert this; simp; done) | (revert this; simp; omega))
          have x0_17 : w17.cell? ⟨w7.heap.size, 0, none⟩ = some (.slice (some ⟨gx, 0, none⟩) 24 24) := (by rw [b17.cell (by first | omega | (simp; done) | (simp; omega))]; go_cell)
          have xl_17 : w7.heap.size < w17.heap.size := (by have := b17.size; first | omega | (revert this; simp; done) | (revert this; simp; omega))
          have y0_17 : w17.cell? ⟨w11.heap.size, 0, none⟩ = some (.slice (some ⟨gy, 0, none⟩) 24 24) := (by rw [b17.cell (by first | omega | (simp; done) | (simp; omega))]; go_cell)
          have yl_17 : w11.heap.size < w17.heap.size := (by have := b17.size; first | omega | (revert this; simp; done) | (revert this; simp; omega))
          have u0_17 : w17.cell? ⟨w13.heap.size, 0, none⟩ = some (.slice (some ⟨gu, 0, none⟩) 24 24) := (by rw [b17.cell (by first | omega | (simp; done) | (simp; omega))]; go_cell)
          have ul_17 : w13.heap.size < w17.heap.size := (by have := b17.size; first | omega | (revert this; simp; done) | (revert this; simp; omega))
          have v0_17 : w17.cell? ⟨w15.heap.size, 0, none⟩ = some (.slice (some ⟨gv, 0, none⟩) 24 24) := (by rw [b17.cell (by first | omega | (simp; done) | (simp; omega))]; go_cell)
          have vl_17 : w15.heap.size < w17.heap.size := (by have := b17.size; first | omega | (revert this; simp; done) | (revert this; simp; omega))
          clear g0_16 gl_16 o0_16 o1_16 o2_16 o3_16 ol_16 p0_16 p1_16 p2_16 p3_16 pl_16 x0_16 xl_16 y0_16 yl_16 u0_16 ul_16 v0_16 vl_16
          have HL_17 := hid (HL_16.out.later d17)
          have HX_17 := hid (HX_16.out.later d17)
          have HY_17 := hid (HY_16.out.later d17)
          have HU_17 := hid (HU_16.out.later d17)
          have HV_17 := hid (HV_16.out.later d17)
          clear d17 b17 HL_16 HX_16 HY_16 HU_16 HV_16
          go_wp2
          go_ret
          exact ⟨by simp, (by first | exact c17 | exact Below.trans c17 (Below.mono (by go_grown) c17.size))⟩
        · skip
          have e1 : (k == 1) = false := by simpa using hk
          have e1n : (k != 1) = true := by simpa using hk
          have e2 : k2 = 1 := hs2.1
          subst e2
          go_wp2_with fail
          have v0_16 : (w15.alloc (.cells #[.slice (some ⟨gv, 0, none⟩) 24 24] 25)).cell? ⟨w15.heap.size, 0, none⟩ = some (.slice (some ⟨gv, 0, none⟩) 24 24) := by go_cell
          have vl_16 : w15.heap.size < (w15.alloc (.cells #[.slice (some ⟨gv, 0, none⟩) 24 24] 25)).heap.size := by simp
          have d16 : Below w15.heap.size w15 (w15.alloc (.cells #[.slice (some ⟨gv, 0, none⟩) 24 24] 25)) := by go_grown
          generalize (w15.alloc (.cells #[.slice (some ⟨gv, 0, none⟩) 24 24] 25)) = w16 at v0_16 vl_16 d16 ⊢
          have c16 : Below w.heap.size w w16 := c15.trans (d16.mono c15.size)
          have g0_16 : w16.cell? ⟨w1.heap.size, 0, none⟩ = some (.slice uo L.length uc) := (by rw [d16.cell (by first | omega | (simp; done) | (simp; omega))]; go_cell)
          have gl_16 : w1.heap.size < w16.heap.size := (by have := d16.size; omega)
          have o0_16 : w16.cell? ⟨w1.heap.size + 1, 0, none⟩ = some (.int .i64 k) := (by rw [d16.cell (by first | omega | (simp; done) | (simp; omega))]; go_cell)
          have o1_16 : w16.cell? ⟨w1.heap.size + 1, 1, none⟩ = some (.int .i64 a) := (by rw [d16.cell (by first | omega | (simp; done) | (simp; omega))]; go_cell)
          have o2_16 : w16.cell? ⟨w1.heap.size + 1, 2, none⟩ = some (.int .i64 b) := (by rw [d16.cell (by first | omega | (simp; done) | (simp; omega))]; go_cell)
          have o3_16 : w16.cell? ⟨w1.heap.size + 1, 3, none⟩ = some (.int .i64 x) := (by rw [d16.cell (by first | omega | (simp; done) | (simp; omega))]; go_cell)
          have ol_16 : w1.heap.size + 1 < w16.heap.size := (by have := d16.size; omega)
          have p0_16 : w16.cell? ⟨w4.heap.size + 1, 0, none⟩ = some (.int .i64 1) := (by rw [d16.cell (by first | omega | (simp; done) | (simp; omega))]; go_cell)
          have p1_16 : w16.cell? ⟨w4.heap.size + 1, 1, none⟩ = some (.int .i64 a2) := (by rw [d16.cell (by first | omega | (simp; done) | (simp; omega))]; go_cell)
          have p2_16 : w16.cell? ⟨w4.heap.size + 1, 2, none⟩ = some (.int .i64 b2) := (by rw [d16.cell (by first | omega | (simp; done) | (simp; omega))]; go_cell)
          have p3_16 : w16.cell? ⟨w4.heap.size + 1, 3, none⟩ = some (.int .i64 x2) := (by rw [d16.cell (by first | omega | (simp; done) | (simp; omega))]; go_cell)
          have pl_16 : w4.heap.size + 1 < w16.heap.size := (by have := d16.size; omega)
          have x0_16 : w16.cell? ⟨w7.heap.size, 0, none⟩ = some (.slice (some ⟨gx, 0, none⟩) 24 24) := (by rw [d16.cell (by first | omega | (simp; done) | (simp; omega))]; go_cell)
          have xl_16 : w7.heap.size < w16.heap.size := (by have := d16.size; omega)
          have y0_16 : w16.cell? ⟨w11.heap.size, 0, none⟩ = some (.slice (some ⟨gy, 0, none⟩) 24 24) := (by rw [d16.cell (by first | omega | (simp; done) | (simp; omega))]; go_cell)
          have yl_16 : w11.heap.size < w16.heap.size := (by have := d16.size; omega)
          have u0_16 : w16.cell? ⟨w13.heap.size, 0, none⟩ = some (.slice (some ⟨gu, 0, none⟩) 24 24) := (by rw [d16.cell (by first | omega | (simp; done) | (simp; omega))]; go_cell)
          have ul_16 : w13.heap.size < w16.heap.size := (by have := d16.size; omega)
          clear g0_15 gl_15 o0_15 o1_15 o2_15 o3_15 ol_15 p0_15 p1_15 p2_15 p3_15 pl_15 x0_15 xl_15 y0_15 yl_15 u0_15 ul_15
          have HL_16 := hid (HL_15.out.later d16)
          have HX_16 := hid (HX_15.out.later d16)
          have HY_16 := hid (HY_15.out.later d16)
          have HU_16 := hid (HU_15.out.later d16)
          have HV_16 := hid (HV_15.out.later d16)
          clear d16 HL_15 HX_15 HY_15 HU_15 HV_15
          refine (gsame_is HU_16.out HV_16.out (doG_comm_set hlen.out hs hs2)).mono ?_
          rintro e w17 ⟨rfl, b17⟩
          have d17 : Below w16.heap.size w16 w17 := (Below.trans (by go_grown) (b17.mono (by first | omega | (simp; done) | (simp; omega))))
          have c17 : Below w.heap.size w w17 := c16.trans (d17.mono c16.size)
          have g0_17 : w17.cell? ⟨w1.heap.size, 0, none⟩ = some (.slice uo L.length uc) := (by rw [b17.cell (by first | omega | (simp; done) | (simp; omega))]; go_cell)
          have gl_17 : w1.heap.size < w17.heap.size := (by have := b17.size; first | omega | (revert this; simp; done) | (revert this; simp; omega))
          have o0_17 : w17.cell? ⟨w1.heap.size + 1, 0, none⟩ = some (.int .i64 k) := (by rw [b17.cell (by first | omega | (simp; done) | (simp; omega))]; go_cell)
          have o1_17 : w17.cell? ⟨w1.heap.size + 1, 1, none⟩ = some (.int .i64 a) := (by rw [b17.cell (by first | omega | (simp; done) | (simp; omega))]; go_cell)
          have o2_17 : w17.cell? ⟨w1.heap.size + 1, 2, none⟩ = some (.int .i64 b) := (by rw [b17.cell (by first | omega | (simp; done) | (simp; omega))]; go_cell)
          have o3_17 : w17.cell? ⟨w1.heap.size + 1, 3, none⟩ = some (.int .i64 x) := (by rw [b17.cell (by first | omega | (simp; done) | (simp; omega))]; go_cell)
          have ol_17 : w1.heap.size + 1 < w17.heap.size := (by have := b17.size; first | omega | (revert this; simp; done) | (revert this; simp; omega))
          have p0_17 : w17.cell? ⟨w4.heap.size + 1, 0, none⟩ = some (.int .i64 1) := (by rw [b17.cell (by first | omega | (simp; done) | (simp; omega))]; go_cell)
          have p1_17 : w17.cell? ⟨w4.heap.size + 1, 1, none⟩ = some (.int .i64 a2) := (by rw [b17.cell (by first | omega | (simp; done) | (simp; omega))]; go_cell)
          have p2_17 : w17.cell? ⟨w4.heap.size + 1, 2, none⟩ = some (.int .i64 b2) := (by rw [b17.cell (by first | omega | (simp; done) | (simp; omega))]; go_cell)
          have p3_17 : w17.cell? ⟨w4.heap.size + 1, 3, none⟩ = some (.int .i64 x2) := (by rw [b17.cell (by first | omega | (simp; done) | (simp; omega))]; go_cell)
          have pl_17 : w4.heap.size + 1 < w17.heap.size := (by have := b17.size; first | omega | (revert this; simp; done) | (revert this; simp; omega))
          have x0_17 : w17.cell? ⟨w7.heap.size, 0, none⟩ = some (.slice (some ⟨gx, 0, none⟩) 24 24) := (by rw [b17.cell (by first | omega | (simp; done) | (simp; omega))]; go_cell)
          have xl_17 : w7.heap.size < w17.heap.size := (by have := b17.size; first | omega | (revert this; simp; done) | (revert this; simp; omega))
          have y0_17 : w17.cell? ⟨w11.heap.size, 0, none⟩ = some (.slice (some ⟨gy, 0, none⟩) 24 24) := (by rw [b17.cell (by first | omega | (simp; done) | (simp; omega))]; go_cell)
          have yl_17 : w11.heap.size < w17.heap.size := (by have := b17.size; first | omega | (revert this; simp; done) | (revert this; simp; omega))
          have u0_17 : w17.cell? ⟨w13.heap.size, 0, none⟩ = some (.slice (some ⟨gu, 0, none⟩) 24 24) := (by rw [b17.cell (by first | omega | (simp; done) | (simp; omega))]; go_cell)
          have ul_17 : w13.heap.size < w17.heap.size := (by have := b17.size; first | omega | (revert this; simp; done) | (revert this; simp; omega))
          have v0_17 : w17.cell? ⟨w15.heap.size, 0, none⟩ = some (.slice (some ⟨gv, 0, none⟩) 24 24) := (by rw [b17.cell (by first | omega | (simp; done) | (simp; omega))]; go_cell)
          have vl_17 : w15.heap.size < w17.heap.size := (by have := b17.size; first | omega | (revert this; simp; done) | (revert this; simp; omega))
          clear g0_16 gl_16 o0_16 o1_16 o2_16 o3_16 ol_16 p0_16 p1_16 p2_16 p3_16 pl_16 x0_16 xl_16 y0_16 yl_16 u0_16 ul_16 v0_16 vl_16
          have HL_17 := hid (HL_16.out.later d17)
          have HX_17 := hid (HX_16.out.later d17)
          have HY_17 := hid (HY_16.out.later d17)
          have HU_17 := hid (HU_16.out.later d17)
          have HV_17 := hid (HV_16.out.later d17)
          clear d17 b17 HL_16 HX_16 HY_16 HU_16 HV_16
          go_wp2
          go_ret
          exact ⟨by simp, (by first | exact c17 | exact Below.trans c17 (Below.mono (by go_grown) c17.size))⟩
        · skip
          have e1 : (k == 1) = false := by simpa using hk
          have e1n : (k != 1) = true := by simpa using hk
          have e2 : (k2 == 1) = false := by simpa using hk2
          have e2n : (k2 != 1) = true := by simpa using hk2
          by_cases ea : a = a2
          · subst ea
            by_cases eb : b = b2
            · subst eb
              go_wp2_with fail
              have v0_16 : (w15.alloc (.cells #[.slice (some ⟨gv, 0, none⟩) 24 24] 25)).cell? ⟨w15.heap.size, 0, none⟩ = some (.slice (some ⟨gv, 0, none⟩) 24 24) := by go_cell
              have vl_16 : w15.heap.size < (w15.alloc (.cells #[.slice (some ⟨gv, 0, none⟩) 24 24] 25)).heap.size := by simp
              have d16 : Below w15.heap.size w15 (w15.alloc (.cells #[.slice (some ⟨gv, 0, none⟩) 24 24] 25)) := by go_grown
              generalize (w15.alloc (.cells #[.slice (some ⟨gv, 0, none⟩) 24 24] 25)) = w16 at v0_16 vl_16 d16 ⊢
              have c16 : Below w.heap.size w w16 := c15.trans (d16.mono c15.size)
              have g0_16 : w16.cell? ⟨w1.heap.size, 0, none⟩ = some (.slice uo L.length uc) := (by rw [d16.cell (by first | omega | (simp; done) | (simp; omega))]; go_cell)
              have gl_16 : w1.heap.size < w16.heap.size := (by have := d16.size; omega)
              have o0_16 : w16.cell? ⟨w1.heap.size + 1, 0, none⟩ = some (.int .i64 k) := (by rw [d16.cell (by first | omega | (simp; done) | (simp; omega))]; go_cell)
              have o1_16 : w16.cell? ⟨w1.heap.size + 1, 1, none⟩ = some (.int .i64 a) := (by rw [d16.cell (by first | omega | (simp; done) | (simp; omega))]; go_cell)
              have o2_16 : w16.cell? ⟨w1.heap.size + 1, 2, none⟩ = some (.int .i64 b) := (by rw [d16.cell (by first | omega | (simp; done) | (simp; omega))]; go_cell)
              have o3_16 : w16.cell? ⟨w1.heap.size + 1, 3, none⟩ = some (.int .i64 x) := (by rw [d16.cell (by first | omega | (simp; done) | (simp; omega))]; go_cell)
              have ol_16 : w1.heap.size + 1 < w16.heap.size := (by have := d16.size; omega)
              have p0_16 : w16.cell? ⟨w4.heap.size + 1, 0, none⟩ = some (.int .i64 k2) := (by rw [d16.cell (by first | omega | (simp; done) | (simp; omega))]; go_cell)
              have p1_16 : w16.cell? ⟨w4.heap.size + 1, 1, none⟩ = some (.int .i64 a) := (by rw [d16.cell (by first | omega | (simp; done) | (simp; omega))]; go_cell)
              have p2_16 : w16.cell? ⟨w4.heap.size + 1, 2, none⟩ = some (.int .i64 b) := (by rw [d16.cell (by first | omega | (simp; done) | (simp; omega))]; go_cell)
              have p3_16 : w16.cell? ⟨w4.heap.size + 1, 3, none⟩ = some (.int .i64 x2) := (by rw [d16.cell (by first | omega | (simp; done) | (simp; omega))]; go_cell)
              have pl_16 : w4.heap.size + 1 < w16.heap.size := (by have := d16.size; omega)
              have x0_16 : w16.cell? ⟨w7.heap.size, 0, none⟩ = some (.slice (some ⟨gx, 0, none⟩) 24 24) := (by rw [d16.cell (by first | omega | (simp; done) | (simp; omega))]; go_cell)
              have xl_16 : w7.heap.size < w16.heap.size := (by have := d16.size; omega)
              have y0_16 : w16.cell? ⟨w11.heap.size, 0, none⟩ = some (.slice (some ⟨gy, 0, none⟩) 24 24) := (by rw [d16.cell (by first | omega | (simp; done) | (simp; omega))]; go_cell)
              have yl_16 : w11.heap.size < w16.heap.size := (by have := d16.size; omega)
              have u0_16 : w16.cell? ⟨w13.heap.size, 0, none⟩ = some (.slice (some ⟨gu, 0, none⟩) 24 24) := (by rw [d16.cell (by first | omega | (simp; done) | (simp; omega))]; go_cell)
              have ul_16 : w13.heap.size < w16.heap.size := (by have := d16.size; omega)
              clear g0_15 gl_15 o0_15 o1_15 o2_15 o3_15 ol_15 p0_15 p1_15 p2_15 p3_15 pl_15 x0_15 xl_15 y0_15 yl_15 u0_15 ul_15
              have HL_16 := hid (HL_15.out.later d16)
              have HX_16 := hid (HX_15.out.later d16)
              have HY_16 := hid (HY_15.out.later d16)
              have HU_16 := hid (HU_15.out.later d16)
              have HV_16 := hid (HV_15.out.later d16)
              clear d16 HL_15 HX_15 HY_15 HU_15 HV_15
              refine (gsame_is HU_16.out HY_16.out (doG_last hokh.out hs hs2)).mono ?_
              rintro e w17 ⟨rfl, b17⟩
              have d17 : Below w16.heap.size w16 w17 := (Below.trans (by go_grown) (b17.mono (by first | omega | (simp; done) | (simp; omega))))
              have c17 : Below w.heap.size w w17 := c16.trans (d17.mono c16.size)
              have g0_17 : w17.cell? ⟨w1.heap.size, 0, none⟩ = some (.slice uo L.length uc) := (by rw [b17.cell (by first | omega | (simp; done) | (simp; omega))]; go_cell)
              have gl_17 : w1.heap.size < w17.heap.size := (by have := b17.size; first | omega | (revert this; simp; done) | (revert this; simp; omega))
              have o0_17 : w17.cell? ⟨w1.heap.size + 1, 0, none⟩ = some (.int .i64 k) := (by rw [b17.cell (by first | omega | (simp; done) | (simp; omega))]; go_cell)
              have o1_17 : w17.cell? ⟨w1.heap.size + 1, 1, none⟩ = some (.int .i64 a) := (by rw [b17.cell (by first | omega | (simp; done) | (simp; omega))]; go_cell)
              have o2_17 : w17.cell? ⟨w1.heap.size + 1, 2, none⟩ = some (.int .i64 b) := (by rw [b17.cell (by first | omega | (simp; done) | (simp; omega))]; go_cell)
              have o3_17 : w17.cell? ⟨w1.heap.size + 1, 3, none⟩ = some (.int .i64 x) := (by rw [b17.cell (by first | omega | (simp; done) | (simp; omega))]; go_cell)
              have ol_17 : w1.heap.size + 1 < w17.heap.size := (by have := b17.size; first | omega | (revert this; simp; done) | (revert this; simp; omega))
              have p0_17 : w17.cell? ⟨w4.heap.size + 1, 0, none⟩ = some (.int .i64 k2) := (by rw [b17.cell (by first | omega | (simp; done) | (simp; omega))]; go_cell)
              have p1_17 : w17.cell? ⟨w4.heap.size + 1, 1, none⟩ = some (.int .i64 a) := (by rw [b17.cell (by first | omega | (simp; done) | (simp; omega))]; go_cell)
              have p2_17 : w17.cell? ⟨w4.heap.size + 1, 2, none⟩ = some (.int .i64 b) := (by rw [b17.cell (by first | omega | (simp; done) | (simp; omega))]; go_cell)
              have p3_17 : w17.cell? ⟨w4.heap.size + 1, 3, none⟩ = some (.int .i64 x2) := (by rw [b17.cell (by first | omega | (simp; done) | (simp; omega))]; go_cell)
              have pl_17 : w4.heap.size + 1 < w17.heap.size := (by have := b17.size; first | omega | (revert this; simp; done) | (revert this; simp; omega))
              have x0_17 : w17.cell? ⟨w7.heap.size, 0, none⟩ = some (.slice (some ⟨gx, 0, none⟩) 24 24) := (by rw [b17.cell (by first | omega | (simp; done) | (simp; omega))]; go_cell)
              have xl_17 : w7.heap.size < w17.heap.size := (by have := b17.size; first | omega | (revert this; simp; done) | (revert this; simp; omega))
              have y0_17 : w17.cell? ⟨w11.heap.size, 0, none⟩ = some (.slice (some ⟨gy, 0, none⟩) 24 24) := (by rw [b17.cell (by first | omega | (simp; done) | (simp; omega))]; go_cell)
              have yl_17 : w11.heap.size < w17.heap.size := (by have := b17.size; first | omega | (revert this; simp; done) | (revert this; simp; omega))
              have u0_17 : w17.cell? ⟨w13.heap.size, 0, none⟩ = some (.slice (some ⟨gu, 0, none⟩) 24 24) := (by rw [b17.cell (by first | omega | (simp; done) | (simp; omega))]; go_cell)
              have ul_17 : w13.heap.size < w17.heap.size := (by have := b17.size; first | omega | (revert this; simp; done) | (revert this; simp; omega))
              have v0_17 : w17.cell? ⟨w15.heap.size, 0, none⟩ = some (.slice (some ⟨gv, 0, none⟩) 24 24) := (by rw [b17.cell (by first | omega | (simp; done) | (simp; omega))]; go_cell)
              have vl_17 : w15.heap.size < w17.heap.size := (by have := b17.size; first | omega | (revert this; simp; done) | (revert this; simp; omega))
              clear g0_16 gl_16 o0_16 o1_16 o2_16 o3_16 ol_16 p0_16 p1_16 p2_16 p3_16 pl_16 x0_16 xl_16 y0_16 yl_16 u0_16 ul_16 v0_16 vl_16
              have HL_17 := hid (HL_16.out.later d17)
              have HX_17 := hid (HX_16.out.later d17)
              have HY_17 := hid (HY_16.out.later d17)
              have HU_17 := hid (HU_16.out.later d17)
              have HV_17 := hid (HV_16.out.later d17)
              clear d17 b17 HL_16 HX_16 HY_16 HU_16 HV_16
              go_wp2
              go_ret
              exact ⟨by simp, (by first | exact c17 | exact Below.trans c17 (Below.mono (by go_grown) c17.size))⟩
            · have eb' : (b == b2) = false := by simpa using eb
              go_wp2_with fail
              have v0_16 : (w15.alloc (.cells #[.slice (some ⟨gv, 0, none⟩) 24 24] 25)).cell? ⟨w15.heap.size, 0, none⟩ = some (.slice (some ⟨gv, 0, none⟩) 24 24) := by go_cell
              have vl_16 : w15.heap.size < (w15.alloc (.cells #[.slice (some ⟨gv, 0, none⟩) 24 24] 25)).heap.size := by simp
              have d16 : Below w15.heap.size w15 (w15.alloc (.cells #[.slice (some ⟨gv, 0, none⟩) 24 24] 25)) := by go_grown
              generalize (w15.alloc (.cells #[.slice (some ⟨gv, 0, none⟩) 24 24] 25)) = w16 at v0_16 vl_16 d16 ⊢
              have c16 : Below w.heap.size w w16 := c15.trans (d16.mono c15.size)
              have g0_16 : w16.cell? ⟨w1.heap.size, 0, none⟩ = some (.slice uo L.length uc) := (by rw [d16.cell (by first | omega | (simp; done) | (simp; omega))]; go_cell)
              have gl_16 : w1.heap.size < w16.heap.size := (by have := d16.size; omega)
              have o0_16 : w16.cell? ⟨w1.heap.size + 1, 0, none⟩ = some (.int .i64 k) := (by rw [d16.cell (by first | omega | (simp; done) | (simp; omega))]; go_cell)
              have o1_16 : w16.cell? ⟨w1.heap.size + 1, 1, none⟩ = some (.int .i64 a) := (by rw [d16.cell (by first | omega | (simp; done) | (simp; omega))]; go_cell)
              have o2_16 : w16.cell? ⟨w1.heap.size + 1, 2, none⟩ = some (.int .i64 b) := (by rw [d16.cell (by first | omega | (simp; done) | (simp; omega))]; go_cell)
              have o3_16 : w16.cell? ⟨w1.heap.size + 1, 3, none⟩ = some (.int .i64 x) := (by rw [d16.cell (by first | omega | (simp; done) | (simp; omega))]; go_cell)
              have ol_16 : w1.heap.size + 1 < w16.heap.size := (by have := d16.size; omega)
              have p0_16 : w16.cell? ⟨w4.heap.size + 1, 0, none⟩ = some (.int .i64 k2) := (by rw [d16.cell (by first | omega | (simp; done) | (simp; omega))]; go_cell)
              have p1_16 : w16.cell? ⟨w4.heap.size + 1, 1, none⟩ = some (.int .i64 a) := (by rw [d16.cell (by first | omega | (simp; done) | (simp; omega))]; go_cell)
              have p2_16 : w16.cell? ⟨w4.heap.size + 1, 2, none⟩ = some (.int .i64 b2) := (by rw [d16.cell (by first | omega | (simp; done) | (simp; omega))]; go_cell)
              have p3_16 : w16.cell? ⟨w4.heap.size + 1, 3, none⟩ = some (.int .i64 x2) := (by rw [d16.cell (by first | omega | (simp; done) | (simp; omega))]; go_cell)
              have pl_16 : w4.heap.size + 1 < w16.heap.size := (by have := d16.size; omega)
              have x0_16 : w16.cell? ⟨w7.heap.size, 0, none⟩ = some (.slice (some ⟨gx, 0, none⟩) 24 24) := (by rw [d16.cell (by first | omega | (simp; done) | (simp; omega))]; go_cell)
              have xl_16 : w7.heap.size < w16.heap.size := (by have := d16.size; omega)
              have y0_16 : w16.cell? ⟨w11.heap.size, 0, none⟩ = some (.slice (some ⟨gy, 0, none⟩) 24 24) := (by rw [d16.cell (by first | omega | (simp; done) | (simp; omega))]; go_cell)
              have yl_16 : w11.heap.size < w16.heap.size := (by have := d16.size; omega)
              have u0_16 : w16.cell? ⟨w13.heap.size, 0, none⟩ = some (.slice (some ⟨gu, 0, none⟩) 24 24) := (by rw [d16.cell (by first | omega | (simp; done) | (simp; omega))]; go_cell)
              have ul_16 : w13.heap.size < w16.heap.size := (by have := d16.size; omega)
              clear g0_15 gl_15 o0_15 o1_15 o2_15 o3_15 ol_15 p0_15 p1_15 p2_15 p3_15 pl_15 x0_15 xl_15 y0_15 yl_15 u0_15 ul_15
              have HL_16 := hid (HL_15.out.later d16)
              have HX_16 := hid (HX_15.out.later d16)
              have HY_16 := hid (HY_15.out.later d16)
              have HU_16 := hid (HU_15.out.later d16)
              have HV_16 := hid (HV_15.out.later d16)
              clear d16 HL_15 HX_15 HY_15 HU_15 HV_15
              refine (gsame_is HU_16.out HV_16.out (doG_comm hokh.out hs hs2 (fun e => eb e.2))).mono ?_
              rintro e w17 ⟨rfl, b17⟩
              have d17 : Below w16.heap.size w16 w17 := (Below.trans (by go_grown) (b17.mono (by first | omega | (simp; done) | (simp; omega))))
              have c17 : Below w.heap.size w w17 := c16.trans (d17.mono c16.size)
              have g0_17 : w17.cell? ⟨w1.heap.size, 0, none⟩ = some (.slice uo L.length uc) := (by rw [b17.cell (by first | omega | (simp; done) | (simp; omega))]; go_cell)
              have gl_17 : w1.heap.size < w17.heap.size := (by have := b17.size; first | omega | (revert this; simp; done) | (revert this; simp; omega))
              have o0_17 : w17.cell? ⟨w1.heap.size + 1, 0, none⟩ = some (.int .i64 k) := (by rw [b17.cell (by first | omega | (simp; done) | (simp; omega))]; go_cell)
              have o1_17 : w17.cell? ⟨w1.heap.size + 1, 1, none⟩ = some (.int .i64 a) := (by rw [b17.cell (by first | omega | (simp; done) | (simp; omega))]; go_cell)
              have o2_17 : w17.cell? ⟨w1.heap.size + 1, 2, none⟩ = some (.int .i64 b) := (by rw [b17.cell (by first | omega | (simp; done) | (simp; omega))]; go_cell)
              have o3_17 : w17.cell? ⟨w1.heap.size + 1, 3, none⟩ = some (.int .i64 x) := (by rw [b17.cell (by first | omega | (simp; done) | (simp; omega))]; go_cell)
              have ol_17 : w1.heap.size + 1 < w17.heap.size := (by have := b17.size; first | omega | (revert this; simp; done) | (revert this; simp; omega))
              have p0_17 : w17.cell? ⟨w4.heap.size + 1, 0, none⟩ = some (.int .i64 k2) := (by rw [b17.cell (by first | omega | (simp; done) | (simp; omega))]; go_cell)
              have p1_17 : w17.cell? ⟨w4.heap.size + 1, 1, none⟩ = some (.int .i64 a) := (by rw [b17.cell (by first | omega | (simp; done) | (simp; omega))]; go_cell)
              have p2_17 : w17.cell? ⟨w4.heap.size + 1, 2, none⟩ = some (.int .i64 b2) := (by rw [b17.cell (by first | omega | (simp; done) | (simp; omega))]; go_cell)
              have p3_17 : w17.cell? ⟨w4.heap.size + 1, 3, none⟩ = some (.int .i64 x2) := (by rw [b17.cell (by first | omega | (simp; done) | (simp; omega))]; go_cell)
              have pl_17 : w4.heap.size + 1 < w17.heap.size := (by have := b17.size; first | omega | (revert this; simp; done) | (revert this; simp; omega))
              have x0_17 : w17.cell? ⟨w7.heap.size, 0, none⟩ = some (.slice (some ⟨gx, 0, none⟩) 24 24) := (by rw [b17.cell (by first | omega | (simp; done) | (simp; omega))]; go_cell)
              have xl_17 : w7.heap.size < w17.heap.size := (by have := b17.size; first | omega | (revert this; simp; done) | (revert this; simp; omega))
              have y0_17 : w17.cell? ⟨w11.heap.size, 0, none⟩ = some (.slice (some ⟨gy, 0, none⟩) 24 24) := (by rw [b17.cell (by first | omega | (simp; done) | (simp; omega))]; go_cell)
              have yl_17 : w11.heap.size < w17.heap.size := (by have := b17.size; first | omega | (revert this; simp; done) | (revert this; simp; omega))
              have u0_17 : w17.cell? ⟨w13.heap.size, 0, none⟩ = some (.slice (some ⟨gu, 0, none⟩) 24 24) := (by rw [b17.cell (by first | omega | (simp; done) | (simp; omega))]; go_cell)
              have ul_17 : w13.heap.size < w17.heap.size := (by have := b17.size; first | omega | (revert this; simp; done) | (revert this; simp; omega))
              have v0_17 : w17.cell? ⟨w15.heap.size, 0, none⟩ = some (.slice (some ⟨gv, 0, none⟩) 24 24) := (by rw [b17.cell (by first | omega | (simp; done) | (simp; omega))]; go_cell)
              have vl_17 : w15.heap.size < w17.heap.size := (by have := b17.size; first | omega | (revert this; simp; done) | (revert this; simp; omega))
              clear g0_16 gl_16 o0_16 o1_16 o2_16 o3_16 ol_16 p0_16 p1_16 p2_16 p3_16 pl_16 x0_16 xl_16 y0_16 yl_16 u0_16 ul_16 v0_16 vl_16
              have HL_17 := hid (HL_16.out.later d17)
              have HX_17 := hid (HX_16.out.later d17)
              have HY_17 := hid (HY_16.out.later d17)
              have HU_17 := hid (HU_16.out.later d17)
              have HV_17 := hid (HV_16.out.later d17)
              clear d17 b17 HL_16 HX_16 HY_16 HU_16 HV_16
              go_wp2
              go_ret
              exact ⟨by simp, (by first | exact c17 | exact Below.trans c17 (Below.mono (by go_grown) c17.size))⟩
          · have ea' : (a == a2) = false := by simpa using ea
            go_wp2_with fail
            have v0_16 : (w15.alloc (.cells #[.slice (some ⟨gv, 0, none⟩) 24 24] 25)).cell? ⟨w15.heap.size, 0, none⟩ = some (.slice (some ⟨gv, 0, none⟩) 24 24) := by go_cell
            have vl_16 : w15.heap.size < (w15.alloc (.cells #[.slice (some ⟨gv, 0, none⟩) 24 24] 25)).heap.size := by simp
            have d16 : Below w15.heap.size w15 (w15.alloc (.cells #[.slice (some ⟨gv, 0, none⟩) 24 24] 25)) := by go_grown
            generalize (w15.alloc (.cells #[.slice (some ⟨gv, 0, none⟩) 24 24] 25)) = w16 at v0_16 vl_16 d16 ⊢
            have c16 : Below w.heap.size w w16 := c15.trans (d16.mono c15.size)
            have g0_16 : w16.cell? ⟨w1.heap.size, 0, none⟩ = some (.slice uo L.length uc) := (by rw [d16.cell (by first | omega | (simp; done) | (simp; omega))]; go_cell)
            have gl_16 : w1.heap.size < w16.heap.size := (by have := d16.size; omega)
            have o0_16 : w16.cell? ⟨w1.heap.size + 1, 0, none⟩ = some (.int .i64 k) := (by rw [d16.cell (by first | omega | (simp; done) | (simp; omega))]; go_cell)
            have o1_16 : w16.cell? ⟨w1.heap.size + 1, 1, none⟩ = some (.int .i64 a) := (by rw [d16.cell (by first | omega | (simp; done) | (simp; omega))]; go_cell)
            have o2_16 : w16.cell? ⟨w1.heap.size + 1, 2, none⟩ = some (.int .i64 b) := (by rw [d16.cell (by first | omega | (simp; done) | (simp; omega))]; go_cell)
            have o3_16 : w16.cell? ⟨w1.heap.size + 1, 3, none⟩ = some (.int .i64 x) := (by rw [d16.cell (by first | omega | (simp; done) | (simp; omega))]; go_cell)
            have ol_16 : w1.heap.size + 1 < w16.heap.size := (by have := d16.size; omega)
            have p0_16 : w16.cell? ⟨w4.heap.size + 1, 0, none⟩ = some (.int .i64 k2) := (by rw [d16.cell (by first | omega | (simp; done) | (simp; omega))]; go_cell)
            have p1_16 : w16.cell? ⟨w4.heap.size + 1, 1, none⟩ = some (.int .i64 a2) := (by rw [d16.cell (by first | omega | (simp; done) | (simp; omega))]; go_cell)
            have p2_16 : w16.cell? ⟨w4.heap.size + 1, 2, none⟩ = some (.int .i64 b2) := (by rw [d16.cell (by first | omega | (simp; done) | (simp; omega))]; go_cell)
            have p3_16 : w16.cell? ⟨w4.heap.size + 1, 3, none⟩ = some (.int .i64 x2) := (by rw [d16.cell (by first | omega | (simp; done) | (simp; omega))]; go_cell)
            have pl_16 : w4.heap.size + 1 < w16.heap.size := (by have := d16.size; omega)
            have x0_16 : w16.cell? ⟨w7.heap.size, 0, none⟩ = some (.slice (some ⟨gx, 0, none⟩) 24 24) := (by rw [d16.cell (by first | omega | (simp; done) | (simp; omega))]; go_cell)
            have xl_16 : w7.heap.size < w16.heap.size := (by have := d16.size; omega)
            have y0_16 : w16.cell? ⟨w11.heap.size, 0, none⟩ = some (.slice (some ⟨gy, 0, none⟩) 24 24) := (by rw [d16.cell (by first | omega | (simp; done) | (simp; omega))]; go_cell)
            have yl_16 : w11.heap.size < w16.heap.size := (by have := d16.size; omega)
            have u0_16 : w16.cell? ⟨w13.heap.size, 0, none⟩ = some (.slice (some ⟨gu, 0, none⟩) 24 24) := (by rw [d16.cell (by first | omega | (simp; done) | (simp; omega))]; go_cell)
            have ul_16 : w13.heap.size < w16.heap.size := (by have := d16.size; omega)
            clear g0_15 gl_15 o0_15 o1_15 o2_15 o3_15 ol_15 p0_15 p1_15 p2_15 p3_15 pl_15 x0_15 xl_15 y0_15 yl_15 u0_15 ul_15
            have HL_16 := hid (HL_15.out.later d16)
            have HX_16 := hid (HX_15.out.later d16)
            have HY_16 := hid (HY_15.out.later d16)
            have HU_16 := hid (HU_15.out.later d16)
            have HV_16 := hid (HV_15.out.later d16)
            clear d16 HL_15 HX_15 HY_15 HU_15 HV_15
            refine (gsame_is HU_16.out HV_16.out (doG_comm hokh.out hs hs2 (fun e => ea e.1))).mono ?_
            rintro e w17 ⟨rfl, b17⟩
            have d17 : Below w16.heap.size w16 w17 := (Below.trans (by go_grown) (b17.mono (by first | omega | (simp; done) | (simp; omega))))
            have c17 : Below w.heap.size w w17 := c16.trans (d17.mono c16.size)
            have g0_17 : w17.cell? ⟨w1.heap.size, 0, none⟩ = some (.slice uo L.length uc) := (by rw [b17.cell (by first | omega | (simp; done) | (simp; omega))]; go_cell)
            have gl_17 : w1.heap.size < w17.heap.size := (by have := b17.size; first | omega | (revert this; simp; done) | (revert this; simp; omega))
            have o0_17 : w17.cell? ⟨w1.heap.size + 1, 0, none⟩ = some (.int .i64 k) := (by rw [b17.cell (by first | omega | (simp; done) | (simp; omega))]; go_cell)
            have o1_17 : w17.cell? ⟨w1.heap.size + 1, 1, none⟩ = some (.int .i64 a) := (by rw [b17.cell (by first | omega | (simp; done) | (simp; omega))]; go_cell)
            have o2_17 : w17.cell? ⟨w1.heap.size + 1, 2, none⟩ = some (.int .i64 b) := (by rw [b17.cell (by first | omega | (simp; done) | (simp; omega))]; go_cell)
            have o3_17 : w17.cell? ⟨w1.heap.size + 1, 3, none⟩ = some (.int .i64 x) := (by rw [b17.cell (by first | omega | (simp; done) | (simp; omega))]; go_cell)
            have ol_17 : w1.heap.size + 1 < w17.heap.size := (by have := b17.size; first | omega | (revert this; simp; done) | (revert this; simp; omega))
            have p0_17 : w17.cell? ⟨w4.heap.size + 1, 0, none⟩ = some (.int .i64 k2) := (by rw [b17.cell (by first | omega | (simp; done) | (simp; omega))]; go_cell)
            have p1_17 : w17.cell? ⟨w4.heap.size + 1, 1, none⟩ = some (.int .i64 a2) := (by rw [b17.cell (by first | omega | (simp; done) | (simp; omega))]; go_cell)
            have p2_17 : w17.cell? ⟨w4.heap.size + 1, 2, none⟩ = some (.int .i64 b2) := (by rw [b17.cell (by first | omega | (simp; done) | (simp; omega))]; go_cell)
            have p3_17 : w17.cell? ⟨w4.heap.size + 1, 3, none⟩ = some (.int .i64 x2) := (by rw [b17.cell (by first | omega | (simp; done) | (simp; omega))]; go_cell)
            have pl_17 : w4.heap.size + 1 < w17.heap.size := (by have := b17.size; first | omega | (revert this; simp; done) | (revert this; simp; omega))
            have x0_17 : w17.cell? ⟨w7.heap.size, 0, none⟩ = some (.slice (some ⟨gx, 0, none⟩) 24 24) := (by rw [b17.cell (by first | omega | (simp; done) | (simp; omega))]; go_cell)
            have xl_17 : w7.heap.size < w17.heap.size := (by have := b17.size; first | omega | (revert this; simp; done) | (revert this; simp; omega))
            have y0_17 : w17.cell? ⟨w11.heap.size, 0, none⟩ = some (.slice (some ⟨gy, 0, none⟩) 24 24) := (by rw [b17.cell (by first | omega | (simp; done) | (simp; omega))]; go_cell)
            have yl_17 : w11.heap.size < w17.heap.size := (by have := b17.size; first | omega | (revert this; simp; done) | (revert this; simp; omega))
            have u0_17 : w17.cell? ⟨w13.heap.size, 0, none⟩ = some (.slice (some ⟨gu, 0, none⟩) 24 24) := (by rw [b17.cell (by first | omega | (simp; done) | (simp; omega))]; go_cell)
            have ul_17 : w13.heap.size < w17.heap.size := (by have := b17.size; first | omega | (revert this; simp; done) | (revert this; simp; omega))
            have v0_17 : w17.cell? ⟨w15.heap.size, 0, none⟩ = some (.slice (some ⟨gv, 0, none⟩) 24 24) := (by rw [b17.cell (by first | omega | (simp; done) | (simp; omega))]; go_cell)
            have vl_17 : w15.heap.size < w17.heap.size := (by have := b17.size; first | omega | (revert this; simp; done) | (revert this; simp; omega))
            clear g0_16 gl_16 o0_16 o1_16 o2_16 o3_16 ol_16 p0_16 p1_16 p2_16 p3_16 pl_16 x0_16 xl_16 y0_16 yl_16 u0_16 ul_16 v0_16 vl_16
            have HL_17 := hid (HL_16.out.later d17)
            have HX_17 := hid (HX_16.out.later d17)
            have HY_17 := hid (HY_16.out.later d17)
            have HU_17 := hid (HU_16.out.later d17)
            have HV_17 := hid (HV_16.out.later d17)
            clear d17 b17 HL_16 HX_16 HY_16 HU_16 HV_16
            go_wp2
            go_ret
            exact ⟨by simp, (by first | exact c17 | exact Below.trans c17 (Below.mono (by go_grown) c17.size))⟩
end Go.Proofs.Ytkmhnjgncnoddaa

/- Part: What every row here asks of the program: two closed facts. -/
namespace Go.Proofs.Ytkmhnjgncnoddaa
open Go.ChangeShapes Go.WideShapes Go.ChangeAt Go.RowKit
theorem Try.own : ownKnob Try.prog.godebug = none := by kernel_rfl
theorem Try.laidOut : laidOutB Try.prog = true := by kernel_rfl
end Go.Proofs.Ytkmhnjgncnoddaa

/- Part: An argument that is a slice of bytes. -/
namespace Go.Proofs.Ytkmhnjgncnoddaa
open Go.ChangeShapes Go.WideShapes Go.ChangeAt Go.RowKit Go.Deep

theorem Try.cells5 : Try.prog.cellsOf 5 = 1 := by kernel_rfl

set_option maxRecDepth 100000 in
theorem by_of {H : Type} {enc : TypeId × Value → H} {W : World} {base : Nat} {v : Value} {d : DataW H} {p : List MemPlace} (hv : Value.okWide Try.prog W .any base 22 v)
    (h : DataW.Trod enc Try.prog W 0 (fun _ => true) true 22 v d p) (hlt : ∀ x ∈ p, x.block < W.heap.size) : ∃ n, Bs W v n := by
  obtain ⟨a0, len, cap, rfl⟩ := okWide_slice Try.underlying22 hv
  obtain ⟨fuel, hf⟩ := h
  rcases open_ints Try.underlying22 Try.underlying5 Try.cells5 hf with ⟨hcs, _⟩ | ⟨a, len', cap', zs, hcs, hh, hl, hm, hz, hx, hcell, hwz⟩
  · simp [Value.cells] at hcs
    obtain ⟨rfl, rfl, rfl⟩ := hcs
    exact ⟨0, none, 0, rfl, Nat.zero_le _, Nat.le_refl _, Nat.zero_le _, fun h0 => absurd h0 (Nat.lt_irrefl 0)⟩
  · simp [Value.cells] at hcs
    obtain ⟨rfl, rfl, rfl⟩ := hcs
    simp only [if_true] at hz
    refine ⟨len, some a, cap, rfl, Nat.le_trans hl hm, hl, hm, fun h0 => ?_⟩
    obtain ⟨b, off, spot⟩ := a
    have hs : spot = none := by
      have := hcell 0 (by omega)
      simpa [Addr.add] using World.cell?_spot this
    subst hs
    refine ⟨b, off, rfl, ?_, fun i hi => ?_⟩
    · simp only [Prod.mk.injEq] at hx
      exact hlt (.cell b off) (by rw [hx.2]; exact MemPlace.mem_row.2 ⟨0, by omega, by simp⟩)
    · have hc := hcell i (by omega)
      rw [add_plain] at hc
      have hw := bounds_u8 (hwz (zs.getD i 0) (by rw [List.getD_eq_getElem?_getD, List.getElem?_eq_getElem (by omega)]; exact List.getElem_mem _))
      exact ⟨_, hc, hw.1, by omega⟩
end Go.Proofs.Ytkmhnjgncnoddaa
