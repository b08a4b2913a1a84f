/- The law FnCacheGet: its walk. Written by a program (gfc.py). -/
import Derived.Test.YtiebfechhgapiaaYf
import Derived.Test.YtiebfechhgapiaaYj
import Derived.BigQuiet
import Derived.Lib.QuietBelow
import Derived.Deep.CutRange
namespace Go.Proofs.Ytiebfechhgapiaa
open Go.RowKit
attribute [local go_sem ↓] Go.wp_at_zero Go.wp_at_succ

set_option maxRecDepth 100000 in
set_option maxHeartbeats 16000000 in
theorem lawFCGet_any (v : Value) (n : Nat) (w : World) (h : Bs w v n) :
    Calls Try.prog 3 #[v] w fun e w' => e = .returned (.bool true) ∧ Below w.heap.size w w' := by
  have HB1 := hid h
  obtain ⟨ao, cap, hv, h0, _⟩ := h
  subst hv
  unfold maxLen at h0
  by_cases hbign : 1048576 < n
  · go_enter Try.func3, Try.ntmps3
    go_wp2
    go_ret
    exact ⟨rfl, Below.refl _ _⟩
  go_enter Try.func3, Try.ntmps3
  go_wp2_with fail
  refine (drawCGet_any _ n _ HB1.out).mono ?_
  rintro e w1 ⟨⟨y0, y1, I, F, key, rfl, hrs⟩, c1⟩
  obtain ⟨io, fo, ic, fc, rfl, rfl⟩ := hrs.open
  have HC_1 := hid hrs
  clear hrs HB1
  go_wp2_with fail
  have c0_2 : (w1.alloc (.cells #[.slice io I.length ic, .slice fo F.length fc] 26)).cell? ⟨w1.heap.size, 0, none⟩ = some (.slice io I.length ic) := by go_cell
  have c1_2 : (w1.alloc (.cells #[.slice io I.length ic, .slice fo F.length fc] 26)).cell? ⟨w1.heap.size, 1, none⟩ = some (.slice fo F.length fc) := by go_cell
  have cl_2 : w1.heap.size < (w1.alloc (.cells #[.slice io I.length ic, .slice fo F.length fc] 26)).heap.size := by simp
  have d2 : Below w1.heap.size w1 (w1.alloc (.cells #[.slice io I.length ic, .slice fo F.length fc] 26)) := by go_grown
  generalize (w1.alloc (.cells #[.slice io I.length ic, .slice fo F.length fc] 26)) = w2 at c0_2 c1_2 cl_2 d2 ⊢
  have c2 : Below w.heap.size w w2 := c1.trans (d2.mono c1.size)
  have HC_2 := hid (HC_1.out.later d2)
  clear d2 HC_1
  obtain ⟨o, ho⟩ : ∃ o, ansG I F key = o := ⟨_, rfl⟩
  have HO := hid ho
  cases o with
  | none =>
    clear ho
    refine (implGet_no _ _ I F key _ HC_2.out HO.out).mono ?_
    rintro e w3 ⟨⟨ga, gc, rfl⟩, b3⟩
    have d3 : Below w2.heap.size w2 w3 := (Below.trans (by go_grown) (b3.mono (by first | omega | (simp; done) | (simp; omega))))
    have c3 : Below w.heap.size w w3 := c2.trans (d3.mono c2.size)
    have c0_3 : w3.cell? ⟨w1.heap.size, 0, none⟩ = some (.slice io I.length ic) := (by rw [b3.cell (by first | omega | (simp; done) | (simp; omega))]; go_cell)
    have c1_3 : w3.cell? ⟨w1.heap.size, 1, none⟩ = some (.slice fo F.length fc) := (by rw [b3.cell (by first | omega | (simp; done) | (simp; omega))]; go_cell)
    have cl_3 : w1.heap.size < w3.heap.size := (by have := b3.size; first | omega | (revert this; simp; done) | (revert this; simp; omega))
    clear c0_2 c1_2 cl_2
    have HC_3 := hid (HC_2.out.later d3)
    clear d3 b3 HC_2
    go_wp2_with fail
    have g0_4 : (w3.alloc (.cells #[.int .i64 0, .int .i64 0, .int .i64 0, .slice ga 0 gc] 33)).cell? ⟨w3.heap.size, 0, none⟩ = some (.int .i64 0) := by go_cell
    have g1_4 : (w3.alloc (.cells #[.int .i64 0, .int .i64 0, .int .i64 0, .slice ga 0 gc] 33)).cell? ⟨w3.heap.size, 1, none⟩ = some (.int .i64 0) := by go_cell
    have g2_4 : (w3.alloc (.cells #[.int .i64 0, .int .i64 0, .int .i64 0, .slice ga 0 gc] 33)).cell? ⟨w3.heap.size, 2, none⟩ = some (.int .i64 0) := by go_cell
    have g3_4 : (w3.alloc (.cells #[.int .i64 0, .int .i64 0, .int .i64 0, .slice ga 0 gc] 33)).cell? ⟨w3.heap.size, 3, none⟩ = some (.slice ga 0 gc) := by go_cell
    have gl_4 : w3.heap.size < (w3.alloc (.cells #[.int .i64 0, .int .i64 0, .int .i64 0, .slice ga 0 gc] 33)).heap.size := by simp
    have d4 : Below w3.heap.size w3 (w3.alloc (.cells #[.int .i64 0, .int .i64 0, .int .i64 0, .slice ga 0 gc] 33)) := by go_grown
    generalize (w3.alloc (.cells #[.int .i64 0, .int .i64 0, .int .i64 0, .slice ga 0 gc] 33)) = w4 at g0_4 g1_4 g2_4 g3_4 gl_4 d4 ⊢
    have c4 : Below w.heap.size w w4 := c3.trans (d4.mono c3.size)
    have c0_4 : w4.cell? ⟨w1.heap.size, 0, none⟩ = some (.slice io I.length ic) := (by rw [d4.cell (by first | omega | (simp; done) | (simp; omega))]; go_cell)
    have c1_4 : w4.cell? ⟨w1.heap.size, 1, none⟩ = some (.slice fo F.length fc) := (by rw [d4.cell (by first | omega | (simp; done) | (simp; omega))]; go_cell)
    have cl_4 : w1.heap.size < w4.heap.size := (by have := d4.size; omega)
    clear c0_3 c1_3 cl_3
    have HC_4 := hid (HC_3.out.later d4)
    clear d4 HC_3
    refine (specGet_no _ _ I F key _ HC_4.out HO.out).mono ?_
    rintro e w5 ⟨⟨sa, sc, rfl⟩, b5⟩
    have d5 : Below w4.heap.size w4 w5 := (Below.trans (by go_grown) (b5.mono (by first | omega | (simp; done) | (simp; omega))))
    have c5 : Below w.heap.size w w5 := c4.trans (d5.mono c4.size)
    have c0_5 : w5.cell? ⟨w1.heap.size, 0, none⟩ = some (.slice io I.length ic) := (by rw [b5.cell (by first | omega | (simp; done) | (simp; omega))]; go_cell)
    have c1_5 : w5.cell? ⟨w1.heap.size, 1, none⟩ = some (.slice fo F.length fc) := (by rw [b5.cell (by first | omega | (simp; done) | (simp; omega))]; go_cell)
    have cl_5 : w1.heap.size < w5.heap.size := (by have := b5.size; first | omega | (revert this; simp; done) | (revert this; simp; omega))
    have g0_5 : w5.cell? ⟨w3.heap.size, 0, none⟩ = some (.int .i64 0) := (by rw [b5.cell (by first | omega | (simp; done) | (simp; omega))]; go_cell)
    have g1_5 : w5.cell? ⟨w3.heap.size, 1, none⟩ = some (.int .i64 0) := (by rw [b5.cell (by first | omega | (simp; done) | (simp; omega))]; go_cell)
    have g2_5 : w5.cell? ⟨w3.heap.size, 2, none⟩ = some (.int .i64 0) := (by rw [b5.cell (by first | omega | (simp; done) | (simp; omega))]; go_cell)
    have g3_5 : w5.cell? ⟨w3.heap.size, 3, none⟩ = some (.slice ga 0 gc) := (by rw [b5.cell (by first | omega | (simp; done) | (simp; omega))]; go_cell)
    have gl_5 : w3.heap.size < w5.heap.size := (by have := b5.size; first | omega | (revert this; simp; done) | (revert this; simp; omega))
    clear c0_4 c1_4 cl_4 g0_4 g1_4 g2_4 g3_4 gl_4
    have HC_5 := hid (HC_4.out.later d5)
    clear d5 b5 HC_4
    go_wp2
    go_ret
    exact ⟨by simp, (by first | exact c5 | exact Below.trans c5 (Below.mono (by go_grown) c5.size))⟩
  | some x =>
    obtain ⟨hok, hmem, hkx⟩ := get_some ho
    clear ho
    obtain ⟨t, htl, hgt⟩ := List.getElem_of_mem hmem
    have hI0 : 0 < I.length := by omega
    obtain ⟨bi, oi, hio⟩ := item_nil HC_2.out.h0 hI0
    subst hio
    obtain ⟨x0, x1, x2, xu, l, hx, _⟩ := item_cells HC_2.out.h0 t htl
    rw [getD_at htl, hgt] at hx
    subst hx
    obtain rfl : x0 = key := hkx
    have HT := hid (show I.getD t kd0 = ([x0, x1, x2], l) from by rw [getD_at htl, hgt])
    have HOK := hid hok
    have HPW := hid (show ∀ j, j < I.length → j ≠ t → keyK (I.getD j kd0) ≠ x0 from fun j hj hne e => by
      have hp := List.pairwise_iff_getElem.1 (okC_pairs hok)
      have e2 : keyK I[t] = x0 := by rw [hgt]; rfl
      rw [getD_at hj] at e
      rcases Nat.lt_or_gt_of_ne hne with h | h
      · exact hp j t hj htl h (e.trans e2.symm)
      · exact hp t j htl hj h (e2.trans e.symm))
    have hI4 := (okC_iff.1 hok).2.1
    clear hok hmem hgt
    refine (implGet_yes _ _ I F x0 _ HC_2.out HO.out).mono ?_
    rintro e w3 ⟨⟨ga, gc, rfl, hg⟩, b3⟩
    have d3 : Below w2.heap.size w2 w3 := (Below.trans (by go_grown) (b3.mono (by first | omega | (simp; done) | (simp; omega))))
    have c3 : Below w.heap.size w w3 := c2.trans (d3.mono c2.size)
    have c0_3 : w3.cell? ⟨w1.heap.size, 0, none⟩ = some (.slice (some ⟨bi, oi, none⟩) I.length ic) := (by rw [b3.cell (by first | omega | (simp; done) | (simp; omega))]; go_cell)
    have c1_3 : w3.cell? ⟨w1.heap.size, 1, none⟩ = some (.slice fo F.length fc) := (by rw [b3.cell (by first | omega | (simp; done) | (simp; omega))]; go_cell)
    have cl_3 : w1.heap.size < w3.heap.size := (by have := b3.size; first | omega | (revert this; simp; done) | (revert this; simp; omega))
    clear c0_2 c1_2 cl_2
    have HC_3 := hid (HC_2.out.later d3)
    clear d3 b3 HC_2
    have HG_3 := hid hg
    clear hg
    go_wp2_with fail
    have g0_4 : (w3.alloc (.cells #[.int .i64 x0, .int .i64 x1, .int .i64 x2, .slice ga l.length gc] 33)).cell? ⟨w3.heap.size, 0, none⟩ = some (.int .i64 x0) := by go_cell
    have g1_4 : (w3.alloc (.cells #[.int .i64 x0, .int .i64 x1, .int .i64 x2, .slice ga l.length gc] 33)).cell? ⟨w3.heap.size, 1, none⟩ = some (.int .i64 x1) := by go_cell
    have g2_4 : (w3.alloc (.cells #[.int .i64 x0, .int .i64 x1, .int .i64 x2, .slice ga l.length gc] 33)).cell? ⟨w3.heap.size, 2, none⟩ = some (.int .i64 x2) := by go_cell
    have g3_4 : (w3.alloc (.cells #[.int .i64 x0, .int .i64 x1, .int .i64 x2, .slice ga l.length gc] 33)).cell? ⟨w3.heap.size, 3, none⟩ = some (.slice ga l.length gc) := by go_cell
    have gl_4 : w3.heap.size < (w3.alloc (.cells #[.int .i64 x0, .int .i64 x1, .int .i64 x2, .slice ga l.length gc] 33)).heap.size := by simp
    have d4 : Below w3.heap.size w3 (w3.alloc (.cells #[.int .i64 x0, .int .i64 x1, .int .i64 x2, .slice ga l.length gc] 33)) := by go_grown
    generalize (w3.alloc (.cells #[.int .i64 x0, .int .i64 x1, .int .i64 x2, .slice ga l.length gc] 33)) = w4 at g0_4 g1_4 g2_4 g3_4 gl_4 d4 ⊢
    have c4 : Below w.heap.size w w4 := c3.trans (d4.mono c3.size)
    have c0_4 : w4.cell? ⟨w1.heap.size, 0, none⟩ = some (.slice (some ⟨bi, oi, none⟩) I.length ic) := (by rw [d4.cell (by first | omega | (simp; done) | (simp; omega))]; go_cell)
    have c1_4 : w4.cell? ⟨w1.heap.size, 1, none⟩ = some (.slice fo F.length fc) := (by rw [d4.cell (by first | omega | (simp; done) | (simp; omega))]; go_cell)
    have cl_4 : w1.heap.size < w4.heap.size := (by have := d4.size; omega)
    clear c0_3 c1_3 cl_3
    have HC_4 := hid (HC_3.out.later d4)
    have HG_4 := hid (HG_3.out.later d4)
    clear d4 HC_3 HG_3
    refine (specGet_yes _ _ I F x0 _ HC_4.out HO.out).mono ?_
    rintro e w5 ⟨⟨sa, sc, rfl⟩, b5⟩
    have d5 : Below w4.heap.size w4 w5 := (Below.trans (by go_grown) (b5.mono (by first | omega | (simp; done) | (simp; omega))))
    have c5 : Below w.heap.size w w5 := c4.trans (d5.mono c4.size)
    have c0_5 : w5.cell? ⟨w1.heap.size, 0, none⟩ = some (.slice (some ⟨bi, oi, none⟩) I.length ic) := (by rw [b5.cell (by first | omega | (simp; done) | (simp; omega))]; go_cell)
    have c1_5 : w5.cell? ⟨w1.heap.size, 1, none⟩ = some (.slice fo F.length fc) := (by rw [b5.cell (by first | omega | (simp; done) | (simp; omega))]; go_cell)
    have cl_5 : w1.heap.size < w5.heap.size := (by have := b5.size; first | omega | (revert this; simp; done) | (revert this; simp; omega))
    have g0_5 : w5.cell? ⟨w3.heap.size, 0, none⟩ = some (.int .i64 x0) := (by rw [b5.cell (by first | omega | (simp; done) | (simp; omega))]; go_cell)
    have g1_5 : w5.cell? ⟨w3.heap.size, 1, none⟩ = some (.int .i64 x1) := (by rw [b5.cell (by first | omega | (simp; done) | (simp; omega))]; go_cell)
    have g2_5 : w5.cell? ⟨w3.heap.size, 2, none⟩ = some (.int .i64 x2) := (by rw [b5.cell (by first | omega | (simp; done) | (simp; omega))]; go_cell)
    have g3_5 : w5.cell? ⟨w3.heap.size, 3, none⟩ = some (.slice ga l.length gc) := (by rw [b5.cell (by first | omega | (simp; done) | (simp; omega))]; go_cell)
    have gl_5 : w3.heap.size < w5.heap.size := (by have := b5.size; first | omega | (revert this; simp; done) | (revert this; simp; omega))
    clear c0_4 c1_4 cl_4 g0_4 g1_4 g2_4 g3_4 gl_4
    have HC_5 := hid (HC_4.out.later d5)
    have HG_5 := hid (HG_4.out.later d5)
    clear d5 b5 HC_4 HG_4
    go_wp2_with fail
    have h0_6 : (w5.alloc (.cells #[.int .i64 x0, .int .i64 x1, .int .i64 x2, .slice sa l.length sc] 33)).cell? ⟨w5.heap.size, 0, none⟩ = some (.int .i64 x0) := by go_cell
    have h1_6 : (w5.alloc (.cells #[.int .i64 x0, .int .i64 x1, .int .i64 x2, .slice sa l.length sc] 33)).cell? ⟨w5.heap.size, 1, none⟩ = some (.int .i64 x1) := by go_cell
    have h2_6 : (w5.alloc (.cells #[.int .i64 x0, .int .i64 x1, .int .i64 x2, .slice sa l.length sc] 33)).cell? ⟨w5.heap.size, 2, none⟩ = some (.int .i64 x2) := by go_cell
    have h3_6 : (w5.alloc (.cells #[.int .i64 x0, .int .i64 x1, .int .i64 x2, .slice sa l.length sc] 33)).cell? ⟨w5.heap.size, 3, none⟩ = some (.slice sa l.length sc) := by go_cell
    have hl_6 : w5.heap.size < (w5.alloc (.cells #[.int .i64 x0, .int .i64 x1, .int .i64 x2, .slice sa l.length sc] 33)).heap.size := by simp
    have d6 : Below w5.heap.size w5 (w5.alloc (.cells #[.int .i64 x0, .int .i64 x1, .int .i64 x2, .slice sa l.length sc] 33)) := by go_grown
    generalize (w5.alloc (.cells #[.int .i64 x0, .int .i64 x1, .int .i64 x2, .slice sa l.length sc] 33)) = w6 at h0_6 h1_6 h2_6 h3_6 hl_6 d6 ⊢
    have c6 : Below w.heap.size w w6 := c5.trans (d6.mono c5.size)
    have c0_6 : w6.cell? ⟨w1.heap.size, 0, none⟩ = some (.slice (some ⟨bi, oi, none⟩) I.length ic) := (by rw [d6.cell (by first | omega | (simp; done) | (simp; omega))]; go_cell)
    have c1_6 : w6.cell? ⟨w1.heap.size, 1, none⟩ = some (.slice fo F.length fc) := (by rw [d6.cell (by first | omega | (simp; done) | (simp; omega))]; go_cell)
    have cl_6 : w1.heap.size < w6.heap.size := (by have := d6.size; omega)
    have g0_6 : w6.cell? ⟨w3.heap.size, 0, none⟩ = some (.int .i64 x0) := (by rw [d6.cell (by first | omega | (simp; done) | (simp; omega))]; go_cell)
    have g1_6 : w6.cell? ⟨w3.heap.size, 1, none⟩ = some (.int .i64 x1) := (by rw [d6.cell (by first | omega | (simp; done) | (simp; omega))]; go_cell)
    have g2_6 : w6.cell? ⟨w3.heap.size, 2, none⟩ = some (.int .i64 x2) := (by rw [d6.cell (by first | omega | (simp; done) | (simp; omega))]; go_cell)
    have g3_6 : w6.cell? ⟨w3.heap.size, 3, none⟩ = some (.slice ga l.length gc) := (by rw [d6.cell (by first | omega | (simp; done) | (simp; omega))]; go_cell)
    have gl_6 : w3.heap.size < w6.heap.size := (by have := d6.size; omega)
    clear c0_5 c1_5 cl_5 g0_5 g1_5 g2_5 g3_5 gl_5
    have HC_6 := hid (HC_5.out.later d6)
    have HG_6 := hid (HG_5.out.later d6)
    clear d6 HC_5 HG_5
    go_loopw [9, 10] (fun sm i wr => ∃ (j : Nat) (s : Bool), j ≤ I.length ∧ i = .int .i64 j ∧ sm = .bool s ∧ (t < j → s = true) ∧ Hid (Below w6.heap.size w6 wr)) (fun _ i _ => I.length - (intOf i).toNat)
    case atStart => exact ⟨0, false, Nat.zero_le _, rfl, rfl, fun h => absurd h (Nat.not_lt_zero _), hid (Below.refl _ _)⟩
    case round =>
      obtain ⟨j, s, hj, rfl, rfl, hs, hbel⟩ := hrel
      have br := hbel.out
      have dr : Below w6.heap.size w6 wr := (Below.trans (by go_grown) (br.mono (by first | omega | (simp; done) | (simp; omega))))
      have cr : Below w.heap.size w wr := c6.trans (dr.mono c6.size)
      have c0_r : wr.cell? ⟨w1.heap.size, 0, none⟩ = some (.slice (some ⟨bi, oi, none⟩) I.length ic) := (by rw [br.cell (by first | omega | (simp; done) | (simp; omega))]; go_cell)
      have c1_r : wr.cell? ⟨w1.heap.size, 1, none⟩ = some (.slice fo F.length fc) := (by rw [br.cell (by first | omega | (simp; done) | (simp; omega))]; go_cell)
      have cl_r : w1.heap.size < wr.heap.size := (by have := br.size; first | omega | (revert this; simp; done) | (revert this; simp; omega))
      have g0_r : wr.cell? ⟨w3.heap.size, 0, none⟩ = some (.int .i64 x0) := (by rw [br.cell (by first | omega | (simp; done) | (simp; omega))]; go_cell)
      have g1_r : wr.cell? ⟨w3.heap.size, 1, none⟩ = some (.int .i64 x1) := (by rw [br.cell (by first | omega | (simp; done) | (simp; omega))]; go_cell)
      have g2_r : wr.cell? ⟨w3.heap.size, 2, none⟩ = some (.int .i64 x2) := (by rw [br.cell (by first | omega | (simp; done) | (simp; omega))]; go_cell)
      have g3_r : wr.cell? ⟨w3.heap.size, 3, none⟩ = some (.slice ga l.length gc) := (by rw [br.cell (by first | omega | (simp; done) | (simp; omega))]; go_cell)
      have gl_r : w3.heap.size < wr.heap.size := (by have := br.size; first | omega | (revert this; simp; done) | (revert this; simp; omega))
      clear c0_6 c1_6 cl_6 g0_6 g1_6 g2_6 g3_6 gl_6
      have HC_r := hid (HC_6.out.later dr)
      have HG_r := hid (HG_6.out.later dr)
      clear br dr HC_6 HG_6
      by_cases hlt : j < I.length
      · have hji : (j : Int) < (I.length : Int) := by omega
        cases s with
        | true =>
          have Qc0 := cell_regrown c0_r
          go_upto_region 14 with fail
          refine wp_region_quiet_below (by kernel_rfl) (by kernel_rfl) ?_
          repeat (first | go_big_quiet_skip | (go_big_quiet_want; go_big_quiet_op; first | go_big_quiet_on | go_big_quiet_call (first | (fail))))
          refine wpQuiet_nil ?_
          rintro wq ⟨pq, hwq⟩
          have hq : Below wr.heap.size wr wq := by rw [hwq]; exact below_regrown _ _ _
          clear hwq pq
          go_wp2_with fail
          go_roundw
          case rel => exact ⟨j + 1, true, by omega, by go_num, rfl, fun _ => rfl, hid (hbel.out.trans (hq.mono hbel.out.size))⟩
          case measure => simp [intOf]; omega
        | false =>
          obtain ⟨z0, z1, z2, zu, zl, hz, k0, k1, k2, k3, hzu, hzb⟩ := item_cells HC_r.out.h0 j hlt
          by_cases hjt : j = t
          · subst hjt
            rw [HT.out] at hz
            obtain ⟨hz1, rfl⟩ := Prod.mk.inj hz
            injection hz1 with e0 hz1
            injection hz1 with e1 hz1
            injection hz1 with e2 _
            subst e0 e1 e2
            clear hz
            obtain ⟨zo, zc, rfl, _⟩ := id hzu
            have HZ := hid hzu
            clear hzu
            go_upto_region 14 with fail
            have Qc0 := cell_regrown c0_r
            have Qg0 := cell_regrown g0_r
            have Qg1 := cell_regrown g1_r
            have Qg2 := cell_regrown g2_r
            have Qg3 := cell_regrown g3_r
            have Qk0 := cell_regrown k0
            have Qk1 := cell_regrown k1
            have Qk2 := cell_regrown k2
            have Qk3 := cell_regrown k3
            refine wp_region_quiet_below (by kernel_rfl) (by kernel_rfl) ?_
            repeat (first | go_big_quiet_skip | (go_big_quiet_want; go_big_quiet_op; first | go_big_quiet_on | go_big_quiet_call (first | (go_at_call 11; exact Calls.regrown_of (vsame_is (HZ.out.later (below_regrown _ _ _)) (HG_r.out.later (below_regrown _ _ _)))))))
            refine wpQuiet_nil ?_
            rintro wq ⟨pq, hwq⟩
            have hq : Below wr.heap.size wr wq := by rw [hwq]; exact below_regrown _ _ _
            clear hwq pq
            go_wp2_with fail
            go_roundw
            case rel => exact ⟨j + 1, true, by omega, by go_num, rfl, fun _ => rfl, hid (hbel.out.trans (hq.mono hbel.out.size))⟩
            case measure => simp [intOf]; omega
          · have hne : (z0 == x0) = false := by
              have := HPW.out j hlt hjt
              rw [hz] at this
              simpa [keyK] using this
            clear hz hzu k1 k2 k3
            go_upto_region 14 with fail
            have Qc0 := cell_regrown c0_r
            have Qk0 := cell_regrown k0
            refine wp_region_quiet_below (by kernel_rfl) (by kernel_rfl) ?_
            repeat (first | go_big_quiet_skip | (go_big_quiet_want; go_big_quiet_op; first | go_big_quiet_on | go_big_quiet_call (first | (fail))))
            refine wpQuiet_nil ?_
            rintro wq ⟨pq, hwq⟩
            have hq : Below wr.heap.size wr wq := by rw [hwq]; exact below_regrown _ _ _
            clear hwq pq
            go_wp2_with fail
            go_roundw
            case rel => exact ⟨j + 1, false, by omega, by go_num, rfl, fun h => absurd (hs (by omega)) (by simp), hid (hbel.out.trans (hq.mono hbel.out.size))⟩
            case measure => simp [intOf]; omega
      · obtain rfl : j = I.length := by omega
        obtain rfl := hs htl
        have hjj : ¬ (I.length : Int) < (I.length : Int) := by omega
        by_cases h60 : x1 = 60
        · subst h60
          go_wp2
          go_ret
          exact ⟨by simp, cr⟩
        · have h6 : (x1 == 60) = false := by simpa using h60
          obtain ⟨G, hF1, hF2, hF3, hF4⟩ := get_all HO.out h60 x2 l
          change ansF I F x0 (x1 + 1) = _ at hF1
          change ansP (dropI x0 I) G x0 x1 x2 l = _ at hF3
          have hv60 : 0 ≤ x1 ∧ x1 ≤ 60 := verK_right (x := ([x0, x1, x2], l)) (okC_mem HOK.out _ (by have := HT.out; rw [getD_at htl] at this; rw [← this]; exact List.getElem_mem htl)).1
          have K1 := fun (v0 v1 : Value) (W : World) (h : RSCache W v0 v1 I F) => implCFloor_rd v0 v1 I F x0 (x1 + 1) W h hF1
          have K2 := fun (v0 v1 : Value) (W : World) (h : RSCache W v0 v1 (dropI x0 I) G) => implGet_no v0 v1 (dropI x0 I) G x0 W h hF2
          have K3 := fun (v0 v1 : Value) (W : World) (h : RSCache W v0 v1 (dropI x0 I) G) (hu : Rd W (.slice ga l.length gc) l) => implCPut_rd v0 v1 (dropI x0 I) G x0 x1 x2 _ l W h hu hF3
          simp only at K1 K3
          have HLEN := hid hF4
          clear hF1 hF2 hF3 hF4 h60 hs hjj
          go_wp2_with fail
          obtain ⟨w50, hw50⟩ : ∃ y, y = wr := ⟨_, rfl⟩
          subst hw50
          have c50 := cr
          have c0_50 := c0_r
          have c1_50 := c1_r
          have cl_50 := cl_r
          have g0_50 := g0_r
          have g1_50 := g1_r
          have g2_50 := g2_r
          have g3_50 := g3_r
          have gl_50 := gl_r
          have HC_50 := HC_r
          have HG_50 := HG_r
          clear c0_r c1_r cl_r g0_r g1_r g2_r g3_r gl_r HC_r HG_r
          refine (K1 _ _ _ HC_50.out).mono ?_
          rintro e w51 ⟨⟨fo_, fg, fc_, fd, rfl, hy⟩, b51⟩
          have d51 : Below w50.heap.size w50 w51 := (Below.trans (by go_grown) (b51.mono (by first | omega | (simp; done) | (simp; omega))))
          have c51 : Below w.heap.size w w51 := c50.trans (d51.mono c50.size)
          have c0_51 : w51.cell? ⟨w1.heap.size, 0, none⟩ = some (.slice (some ⟨bi, oi, none⟩) I.length ic) := (by rw [b51.cell (by first | omega | (simp; done) | (simp; omega))]; go_cell)
          have c1_51 : w51.cell? ⟨w1.heap.size, 1, none⟩ = some (.slice fo F.length fc) := (by rw [b51.cell (by first | omega | (simp; done) | (simp; omega))]; go_cell)
          have cl_51 : w1.heap.size < w51.heap.size := (by have := b51.size; first | omega | (revert this; simp; done) | (revert this; simp; omega))
          have g0_51 : w51.cell? ⟨w3.heap.size, 0, none⟩ = some (.int .i64 x0) := (by rw [b51.cell (by first | omega | (simp; done) | (simp; omega))]; go_cell)
          have g1_51 : w51.cell? ⟨w3.heap.size, 1, none⟩ = some (.int .i64 x1) := (by rw [b51.cell (by first | omega | (simp; done) | (simp; omega))]; go_cell)
          have g2_51 : w51.cell? ⟨w3.heap.size, 2, none⟩ = some (.int .i64 x2) := (by rw [b51.cell (by first | omega | (simp; done) | (simp; omega))]; go_cell)
          have g3_51 : w51.cell? ⟨w3.heap.size, 3, none⟩ = some (.slice ga l.length gc) := (by rw [b51.cell (by first | omega | (simp; done) | (simp; omega))]; go_cell)
          have gl_51 : w3.heap.size < w51.heap.size := (by have := b51.size; first | omega | (revert this; simp; done) | (revert this; simp; omega))
          clear c0_50 c1_50 cl_50 g0_50 g1_50 g2_50 g3_50 gl_50
          have HC_51 := hid (HC_50.out.later d51)
          have HG_51 := hid (HG_50.out.later d51)
          clear d51 b51 HC_50 HG_50
          have HF_51 := hid hy
          clear hy
          go_wp2_with fail
          have f0_52 : (w51.alloc (.cells #[.slice fo_ (dropI x0 I).length fc_, .slice fg G.length fd] 26)).cell? ⟨w51.heap.size, 0, none⟩ = some (.slice fo_ (dropI x0 I).length fc_) := by go_cell
          have f1_52 : (w51.alloc (.cells #[.slice fo_ (dropI x0 I).length fc_, .slice fg G.length fd] 26)).cell? ⟨w51.heap.size, 1, none⟩ = some (.slice fg G.length fd) := by go_cell
          have fl_52 : w51.heap.size < (w51.alloc (.cells #[.slice fo_ (dropI x0 I).length fc_, .slice fg G.length fd] 26)).heap.size := by simp
          have d52 : Below w51.heap.size w51 (w51.alloc (.cells #[.slice fo_ (dropI x0 I).length fc_, .slice fg G.length fd] 26)) := by go_grown
          generalize (w51.alloc (.cells #[.slice fo_ (dropI x0 I).length fc_, .slice fg G.length fd] 26)) = w52 at f0_52 f1_52 fl_52 d52 ⊢
          have c52 : Below w.heap.size w w52 := c51.trans (d52.mono c51.size)
          have c0_52 : w52.cell? ⟨w1.heap.size, 0, none⟩ = some (.slice (some ⟨bi, oi, none⟩) I.length ic) := (by rw [d52.cell (by first | omega | (simp; done) | (simp; omega))]; go_cell)
          have c1_52 : w52.cell? ⟨w1.heap.size, 1, none⟩ = some (.slice fo F.length fc) := (by rw [d52.cell (by first | omega | (simp; done) | (simp; omega))]; go_cell)
          have cl_52 : w1.heap.size < w52.heap.size := (by have := d52.size; omega)
          have g0_52 : w52.cell? ⟨w3.heap.size, 0, none⟩ = some (.int .i64 x0) := (by rw [d52.cell (by first | omega | (simp; done) | (simp; omega))]; go_cell)
          have g1_52 : w52.cell? ⟨w3.heap.size, 1, none⟩ = some (.int .i64 x1) := (by rw [d52.cell (by first | omega | (simp; done) | (simp; omega))]; go_cell)
          have g2_52 : w52.cell? ⟨w3.heap.size, 2, none⟩ = some (.int .i64 x2) := (by rw [d52.cell (by first | omega | (simp; done) | (simp; omega))]; go_cell)
          have g3_52 : w52.cell? ⟨w3.heap.size, 3, none⟩ = some (.slice ga l.length gc) := (by rw [d52.cell (by first | omega | (simp; done) | (simp; omega))]; go_cell)
          have gl_52 : w3.heap.size < w52.heap.size := (by have := d52.size; omega)
          clear c0_51 c1_51 cl_51 g0_51 g1_51 g2_51 g3_51 gl_51
          have HC_52 := hid (HC_51.out.later d52)
          have HG_52 := hid (HG_51.out.later d52)
          have HF_52 := hid (HF_51.out.later d52)
          clear d52 HC_51 HG_51 HF_51
          refine (K2 _ _ _ HF_52.out).mono ?_
          rintro e w53 ⟨⟨qa, qc, rfl⟩, b53⟩
          have d53 : Below w52.heap.size w52 w53 := (Below.trans (by go_grown) (b53.mono (by first | omega | (simp; done) | (simp; omega))))
          have c53 : Below w.heap.size w w53 := c52.trans (d53.mono c52.size)
          have c0_53 : w53.cell? ⟨w1.heap.size, 0, none⟩ = some (.slice (some ⟨bi, oi, none⟩) I.length ic) := (by rw [b53.cell (by first | omega | (simp; done) | (simp; omega))]; go_cell)
          have c1_53 : w53.cell? ⟨w1.heap.size, 1, none⟩ = some (.slice fo F.length fc) := (by rw [b53.cell (by first | omega | (simp; done) | (simp; omega))]; go_cell)
          have cl_53 : w1.heap.size < w53.heap.size := (by have := b53.size; first | omega | (revert this; simp; done) | (revert this; simp; omega))
          have g0_53 : w53.cell? ⟨w3.heap.size, 0, none⟩ = some (.int .i64 x0) := (by rw [b53.cell (by first | omega | (simp; done) | (simp; omega))]; go_cell)
          have g1_53 : w53.cell? ⟨w3.heap.size, 1, none⟩ = some (.int .i64 x1) := (by rw [b53.cell (by first | omega | (simp; done) | (simp; omega))]; go_cell)
          have g2_53 : w53.cell? ⟨w3.heap.size, 2, none⟩ = some (.int .i64 x2) := (by rw [b53.cell (by first | omega | (simp; done) | (simp; omega))]; go_cell)
          have g3_53 : w53.cell? ⟨w3.heap.size, 3, none⟩ = some (.slice ga l.length gc) := (by rw [b53.cell (by first | omega | (simp; done) | (simp; omega))]; go_cell)
          have gl_53 : w3.heap.size < w53.heap.size := (by have := b53.size; first | omega | (revert this; simp; done) | (revert this; simp; omega))
          have f0_53 : w53.cell? ⟨w51.heap.size, 0, none⟩ = some (.slice fo_ (dropI x0 I).length fc_) := (by rw [b53.cell (by first | omega | (simp; done) | (simp; omega))]; go_cell)
          have f1_53 : w53.cell? ⟨w51.heap.size, 1, none⟩ = some (.slice fg G.length fd) := (by rw [b53.cell (by first | omega | (simp; done) | (simp; omega))]; go_cell)
          have fl_53 : w51.heap.size < w53.heap.size := (by have := b53.size; first | omega | (revert this; simp; done) | (revert this; simp; omega))
          clear c0_52 c1_52 cl_52 g0_52 g1_52 g2_52 g3_52 gl_52 f0_52 f1_52 fl_52
          have HC_53 := hid (HC_52.out.later d53)
          have HG_53 := hid (HG_52.out.later d53)
          have HF_53 := hid (HF_52.out.later d53)
          clear d53 b53 HC_52 HG_52 HF_52
          go_wp2_with fail
          have q0_54 : (w53.alloc (.cells #[.int .i64 0, .int .i64 0, .int .i64 0, .slice qa 0 qc] 33)).cell? ⟨w53.heap.size, 0, none⟩ = some (.int .i64 0) := by go_cell
          have q1_54 : (w53.alloc (.cells #[.int .i64 0, .int .i64 0, .int .i64 0, .slice qa 0 qc] 33)).cell? ⟨w53.heap.size, 1, none⟩ = some (.int .i64 0) := by go_cell
          have q2_54 : (w53.alloc (.cells #[.int .i64 0, .int .i64 0, .int .i64 0, .slice qa 0 qc] 33)).cell? ⟨w53.heap.size, 2, none⟩ = some (.int .i64 0) := by go_cell
          have q3_54 : (w53.alloc (.cells #[.int .i64 0, .int .i64 0, .int .i64 0, .slice qa 0 qc] 33)).cell? ⟨w53.heap.size, 3, none⟩ = some (.slice qa 0 qc) := by go_cell
          have ql_54 : w53.heap.size < (w53.alloc (.cells #[.int .i64 0, .int .i64 0, .int .i64 0, .slice qa 0 qc] 33)).heap.size := by simp
          have d54 : Below w53.heap.size w53 (w53.alloc (.cells #[.int .i64 0, .int .i64 0, .int .i64 0, .slice qa 0 qc] 33)) := by go_grown
          generalize (w53.alloc (.cells #[.int .i64 0, .int .i64 0, .int .i64 0, .slice qa 0 qc] 33)) = w54 at q0_54 q1_54 q2_54 q3_54 ql_54 d54 ⊢
          have c54 : Below w.heap.size w w54 := c53.trans (d54.mono c53.size)
          have c0_54 : w54.cell? ⟨w1.heap.size, 0, none⟩ = some (.slice (some ⟨bi, oi, none⟩) I.length ic) := (by rw [d54.cell (by first | omega | (simp; done) | (simp; omega))]; go_cell)
          have c1_54 : w54.cell? ⟨w1.heap.size, 1, none⟩ = some (.slice fo F.length fc) := (by rw [d54.cell (by first | omega | (simp; done) | (simp; omega))]; go_cell)
          have cl_54 : w1.heap.size < w54.heap.size := (by have := d54.size; omega)
          have g0_54 : w54.cell? ⟨w3.heap.size, 0, none⟩ = some (.int .i64 x0) := (by rw [d54.cell (by first | omega | (simp; done) | (simp; omega))]; go_cell)
          have g1_54 : w54.cell? ⟨w3.heap.size, 1, none⟩ = some (.int .i64 x1) := (by rw [d54.cell (by first | omega | (simp; done) | (simp; omega))]; go_cell)
          have g2_54 : w54.cell? ⟨w3.heap.size, 2, none⟩ = some (.int .i64 x2) := (by rw [d54.cell (by first | omega | (simp; done) | (simp; omega))]; go_cell)
          have g3_54 : w54.cell? ⟨w3.heap.size, 3, none⟩ = some (.slice ga l.length gc) := (by rw [d54.cell (by first | omega | (simp; done) | (simp; omega))]; go_cell)
          have gl_54 : w3.heap.size < w54.heap.size := (by have := d54.size; omega)
          have f0_54 : w54.cell? ⟨w51.heap.size, 0, none⟩ = some (.slice fo_ (dropI x0 I).length fc_) := (by rw [d54.cell (by first | omega | (simp; done) | (simp; omega))]; go_cell)
          have f1_54 : w54.cell? ⟨w51.heap.size, 1, none⟩ = some (.slice fg G.length fd) := (by rw [d54.cell (by first | omega | (simp; done) | (simp; omega))]; go_cell)
          have fl_54 : w51.heap.size < w54.heap.size := (by have := d54.size; omega)
          clear c0_53 c1_53 cl_53 g0_53 g1_53 g2_53 g3_53 gl_53 f0_53 f1_53 fl_53
          have HC_54 := hid (HC_53.out.later d54)
          have HG_54 := hid (HG_53.out.later d54)
          have HF_54 := hid (HF_53.out.later d54)
          clear d54 HC_53 HG_53 HF_53
          refine (K3 _ _ _ HF_54.out HG_54.out).mono ?_
          rintro e w55 ⟨⟨po, pg, pc, pd, rfl, hy⟩, b55⟩
          clear hy
          have d55 : Below w54.heap.size w54 w55 := (Below.trans (by go_grown) (b55.mono (by first | omega | (simp; done) | (simp; omega))))
          have c55 : Below w.heap.size w w55 := c54.trans (d55.mono c54.size)
          have c0_55 : w55.cell? ⟨w1.heap.size, 0, none⟩ = some (.slice (some ⟨bi, oi, none⟩) I.length ic) := (by rw [b55.cell (by first | omega | (simp; done) | (simp; omega))]; go_cell)
          have c1_55 : w55.cell? ⟨w1.heap.size, 1, none⟩ = some (.slice fo F.length fc) := (by rw [b55.cell (by first | omega | (simp; done) | (simp; omega))]; go_cell)
          have cl_55 : w1.heap.size < w55.heap.size := (by have := b55.size; first | omega | (revert this; simp; done) | (revert this; simp; omega))
          have g0_55 : w55.cell? ⟨w3.heap.size, 0, none⟩ = some (.int .i64 x0) := (by rw [b55.cell (by first | omega | (simp; done) | (simp; omega))]; go_cell)
          have g1_55 : w55.cell? ⟨w3.heap.size, 1, none⟩ = some (.int .i64 x1) := (by rw [b55.cell (by first | omega | (simp; done) | (simp; omega))]; go_cell)
          have g2_55 : w55.cell? ⟨w3.heap.size, 2, none⟩ = some (.int .i64 x2) := (by rw [b55.cell (by first | omega | (simp; done) | (simp; omega))]; go_cell)
          have g3_55 : w55.cell? ⟨w3.heap.size, 3, none⟩ = some (.slice ga l.length gc) := (by rw [b55.cell (by first | omega | (simp; done) | (simp; omega))]; go_cell)
          have gl_55 : w3.heap.size < w55.heap.size := (by have := b55.size; first | omega | (revert this; simp; done) | (revert this; simp; omega))
          have f0_55 : w55.cell? ⟨w51.heap.size, 0, none⟩ = some (.slice fo_ (dropI x0 I).length fc_) := (by rw [b55.cell (by first | omega | (simp; done) | (simp; omega))]; go_cell)
          have f1_55 : w55.cell? ⟨w51.heap.size, 1, none⟩ = some (.slice fg G.length fd) := (by rw [b55.cell (by first | omega | (simp; done) | (simp; omega))]; go_cell)
          have fl_55 : w51.heap.size < w55.heap.size := (by have := b55.size; first | omega | (revert this; simp; done) | (revert this; simp; omega))
          clear c0_54 c1_54 cl_54 g0_54 g1_54 g2_54 g3_54 gl_54 f0_54 f1_54 fl_54
          have HC_55 := hid (HC_54.out.later d55)
          have HG_55 := hid (HG_54.out.later d55)
          have HF_55 := hid (HF_54.out.later d55)
          clear d55 b55 HC_54 HG_54 HF_54
          have hle : ((dropI x0 I).length : Int) = (I.length : Int) - 1 := by have := HLEN.out; omega
          have hq1 : (((dropI x0 I).length : Int) == wrap64 ((I.length : Int) - 1)) = true := by rw [show wrap64 ((I.length : Int) - 1) = (I.length : Int) - 1 from by unfold wrap64; omega]; simpa using hle
          clear K1 K2 K3
          go_wp2
          go_ret
          exact ⟨by simp, (by first | exact c55 | exact Below.trans c55 (Below.mono (by go_grown) c55.size))⟩
end Go.Proofs.Ytiebfechhgapiaa
