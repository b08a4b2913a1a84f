/- The law FnGraphOpen: its walk. -/
import Derived.Test.YthmbhcgecnkgeaaLr
import Derived.Test.YthmbhcgecnkgeaaGy
import Derived.Test.YthmbhcgecnkgeaaBa
import Derived.Test.YthmbhcgecnkgeaaGs
import Derived.Deep.Cut
namespace Go.Proofs.Ythmbhcgecnkgeaa
open Go.RowKit
attribute [local go_sem ↓] Go.wp_at_zero Go.wp_at_succ

/-- What the law asks of the one write's kind. -/
theorem lawFGOpen_plain {k a c x : Int} (h : opOk k a c x = true) :
    (bindOk k a c x ∧ bulkG (doG zeroG k a c x) = 2) ∨ (partOk k a c x ∧ doG zeroG k a c x = zeroG) ∨ (setOk k a c x ∧ bulkG (doG zeroG k a c x) = 0 ∧ ((doG zeroG k a c x).getD a.toNat valD0).1 = x) := by
  rcases op_ways k a c x with ⟨hs, -⟩ | ⟨hs, -⟩ | ⟨hs, -⟩ | ⟨-, -, -, e, -⟩
  · refine .inr (.inr ⟨hs, ?_, ?_⟩)
    · rw [doG, if_pos hs]
      have := bulk_set zeroG a.toNat (by rw [zeroG_len]; have := hs.2.1; omega) (x, [])
      rw [zeroG_get, bulk_zero] at this
      simpa [valD0] using this
    · rw [doG, if_pos hs, getD_set (by rw [zeroG_len]; have := hs.2.1; omega), if_pos rfl]
  · have h1 : ¬ setOk k a c x := fun h => by have := h.1; have := hs.1; omega
    refine .inl ⟨hs, ?_⟩
    obtain ⟨_, ha, hb, hne, hn⟩ := id hs
    rw [doG, if_neg h1, if_pos hs, zeroG_get, zeroG_get]
    show bulkG ((zeroG.set _ (0, addL [] c x)).set _ (0, addL [] a x)) = 2
    rw [addL_empty (rightB_iff.2 ⟨hb.1, hb.2, hn.1, hn.2⟩), addL_empty (rightB_iff.2 ⟨ha.1, ha.2, hn.1, hn.2⟩)]
    have e1 := bulk_set zeroG (16 + a.toNat) (by rw [zeroG_len]; omega) (0, [(c, x)])
    rw [zeroG_get, bulk_zero] at e1
    have e2 := bulk_set (zeroG.set (16 + a.toNat) (0, [(c, x)])) (8 + c.toNat) (by rw [List.length_set, zeroG_len]; omega) (0, [(a, x)])
    rw [getD_set (by rw [zeroG_len]; omega), if_neg (by omega), zeroG_get] at e2
    simp [valD0] at e1 e2
    omega
  · have h1 : ¬ setOk k a c x := fun h => by have := h.1; have := hs.1; omega
    have h2 : ¬ bindOk k a c x := fun h => by have := h.1; have := hs.1; omega
    refine .inr (.inl ⟨hs, ?_⟩)
    rw [doG, if_neg h1, if_neg h2, if_pos hs, zeroG_get, zeroG_get]
    show (zeroG.set _ (0, dropL [] c)).set _ (0, dropL [] a) = zeroG
    rw [dropL_empty, dropL_empty, zero_set, zero_set]
  · rw [h] at e; cases e

set_option maxRecDepth 100000 in
set_option maxHeartbeats 8000000 in
theorem lawFGOpen_any (v : Value) (n : Nat) (w : World) (h : Bs w v n) :
    Calls Try.prog 4 #[v] w fun e w' => e = .returned (.bool true) ∧ Below w.heap.size w w' := by
  obtain ⟨ao, cap, hv, h0, _⟩ := id h
  subst hv
  unfold maxLen at h0
  by_cases hbig : 1048576 < n
  · go_enter Try.func4, Try.ntmps4
    go_wp2
    go_ret
    exact ⟨rfl, Below.refl _ _⟩
  · go_enter Try.func4, Try.ntmps4
    go_wp2_with fail
    refine (drawOpOk_any _ n _ h).mono ?_
    rintro e w1 ⟨k, a, c, x, rfl, -, c1⟩
    go_wp2_with fail
    have o0_2 : (w1.alloc (.cells #[.int .i64 k, .int .i64 a, .int .i64 c, .int .i64 x] 24)).cell? ⟨w1.heap.size, 0, none⟩ = some (.int .i64 k) := by go_cell
    have o1_2 : (w1.alloc (.cells #[.int .i64 k, .int .i64 a, .int .i64 c, .int .i64 x] 24)).cell? ⟨w1.heap.size, 1, none⟩ = some (.int .i64 a) := by go_cell
    have o2_2 : (w1.alloc (.cells #[.int .i64 k, .int .i64 a, .int .i64 c, .int .i64 x] 24)).cell? ⟨w1.heap.size, 2, none⟩ = some (.int .i64 c) := by go_cell
    have o3_2 : (w1.alloc (.cells #[.int .i64 k, .int .i64 a, .int .i64 c, .int .i64 x] 24)).cell? ⟨w1.heap.size, 3, none⟩ = some (.int .i64 x) := by go_cell
    have ol_2 : w1.heap.size < (w1.alloc (.cells #[.int .i64 k, .int .i64 a, .int .i64 c, .int .i64 x] 24)).heap.size := by simp
    have d2 : Below w1.heap.size w1 (w1.alloc (.cells #[.int .i64 k, .int .i64 a, .int .i64 c, .int .i64 x] 24)) := by go_grown
    generalize (w1.alloc (.cells #[.int .i64 k, .int .i64 a, .int .i64 c, .int .i64 x] 24)) = w2 at o0_2 o1_2 o2_2 o3_2 ol_2 d2 ⊢
    have c2 : Below w.heap.size w w2 := c1.trans (d2.mono c1.size)
    clear d2
    refine (implGOpen_any _).mono ?_
    rintro e w3 ⟨⟨g, rfl, -, zb⟩, b3⟩
    have HG3 := hid (zb.rd 24)
    rw [listZ_zero] at HG3
    have d3 : Below w2.heap.size w2 w3 := (Below.trans (by go_grown) (b3.mono (by first | omega | (simp; done) | (simp; omega))))
    have c3 : Below w.heap.size w w3 := c2.trans (d3.mono c2.size)
    have o0_3 : w3.cell? ⟨w1.heap.size, 0, none⟩ = some (.int .i64 k) := (by rw [b3.cell (by first | omega | (simp; done) | (simp; omega))]; go_cell)
    have o1_3 : w3.cell? ⟨w1.heap.size, 1, none⟩ = some (.int .i64 a) := (by rw [b3.cell (by first | omega | (simp; done) | (simp; omega))]; go_cell)
    have o2_3 : w3.cell? ⟨w1.heap.size, 2, none⟩ = some (.int .i64 c) := (by rw [b3.cell (by first | omega | (simp; done) | (simp; omega))]; go_cell)
    have o3_3 : w3.cell? ⟨w1.heap.size, 3, none⟩ = some (.int .i64 x) := (by rw [b3.cell (by first | omega | (simp; done) | (simp; omega))]; go_cell)
    have ol_3 : w1.heap.size < w3.heap.size := (by have := b3.size; first | omega | (revert this; simp; done) | (revert this; simp; omega))
    clear o0_2 o1_2 o2_2 o3_2 ol_2
    clear b3 d3 zb
    go_wp2_with fail
    have g0_4 : (w3.alloc (.cells #[.slice (some ⟨g, 0, none⟩) 24 24] 39)).cell? ⟨w3.heap.size, 0, none⟩ = some (.slice (some ⟨g, 0, none⟩) 24 24) := by go_cell
    have gl_4 : w3.heap.size < (w3.alloc (.cells #[.slice (some ⟨g, 0, none⟩) 24 24] 39)).heap.size := by simp
    have d4 : Below w3.heap.size w3 (w3.alloc (.cells #[.slice (some ⟨g, 0, none⟩) 24 24] 39)) := by go_grown
    generalize (w3.alloc (.cells #[.slice (some ⟨g, 0, none⟩) 24 24] 39)) = w4 at g0_4 gl_4 d4 ⊢
    have c4 : Below w.heap.size w w4 := c3.trans (d4.mono c3.size)
    have o0_4 : w4.cell? ⟨w1.heap.size, 0, none⟩ = some (.int .i64 k) := (by rw [d4.cell (by first | omega | (simp; done) | (simp; omega))]; go_cell)
    have o1_4 : w4.cell? ⟨w1.heap.size, 1, none⟩ = some (.int .i64 a) := (by rw [d4.cell (by first | omega | (simp; done) | (simp; omega))]; go_cell)
    have o2_4 : w4.cell? ⟨w1.heap.size, 2, none⟩ = some (.int .i64 c) := (by rw [d4.cell (by first | omega | (simp; done) | (simp; omega))]; go_cell)
    have o3_4 : w4.cell? ⟨w1.heap.size, 3, none⟩ = some (.int .i64 x) := (by rw [d4.cell (by first | omega | (simp; done) | (simp; omega))]; go_cell)
    have ol_4 : w1.heap.size < w4.heap.size := (by have := d4.size; omega)
    clear o0_3 o1_3 o2_3 o3_3 ol_3
    have HG4 := hid (HG3.out.later d4)
    clear d4 HG3
    go_upto_region 5 with fail
    go_cut [23] from 15 (fun s wx => s = .bool false ∧ Below w4.heap.size w4 wx)
    case first =>
      go_region_with (first
        | (go_at_call 22; refine (implGOk_is okG_zero _ _ (HG4.out.later (by go_grown))).mono ?_; rintro e w5 ⟨rfl, b5⟩; have d5 : Below w4.heap.size w4 w5 := (Below.trans (by go_grown) (b5.mono (by first | omega | (simp; done) | (simp; omega)))); have c5 : Below w.heap.size w w5 := c4.trans (d5.mono c4.size); have g0_5 : w5.cell? ⟨w3.heap.size, 0, none⟩ = some (.slice (some ⟨g, 0, none⟩) 24 24) := (by rw [b5.cell (by first | omega | (simp; done) | (simp; omega))]; go_cell); have gl_5 : w3.heap.size < w5.heap.size := (by have := b5.size; first | omega | (revert this; simp; done) | (revert this; simp; omega)); clear g0_4 gl_4; have HG5 := hid (HG4.out.later d5))
        | (go_at_call 24; refine (specGOpen_any _).mono ?_; rintro e w6 ⟨⟨g', rfl, -, zb⟩, b6⟩; have HH6 := hid (zb.rd 24); rw [listZ_zero] at HH6; have d6 : Below w5.heap.size w5 w6 := (Below.trans (by go_grown) (b6.mono (by first | omega | (simp; done) | (simp; omega)))); have c6 : Below w.heap.size w w6 := c5.trans (d6.mono c5.size); have g0_6 : w6.cell? ⟨w3.heap.size, 0, none⟩ = some (.slice (some ⟨g, 0, none⟩) 24 24) := (by rw [b6.cell (by first | omega | (simp; done) | (simp; omega))]; go_cell); have gl_6 : w3.heap.size < w6.heap.size := (by have := b6.size; first | omega | (revert this; simp; done) | (revert this; simp; omega)); clear g0_5 gl_5; have HG6 := hid (HG5.out.later d6))
        | (go_at_call 23; refine (implGSame_any _ _ zeroG zeroG _ HG6.out HH6.out).mono ?_; rintro e w7 ⟨rfl, b7⟩; rw [eqG_refl]; have d7 : Below w6.heap.size w6 w7 := (Below.trans (by go_grown) (b7.mono (by first | omega | (simp; done) | (simp; omega)))); have c7 : Below w.heap.size w w7 := c6.trans (d7.mono c6.size)))
      all_goals
        go_wp2_with fail
        go_meet
        exact ⟨by simp, (d5.trans (d6.mono d5.size)).trans (d7.mono (by have := d5.size; have := d6.size; omega))⟩
    case rest =>
      obtain ⟨rfl, b5⟩ := hcut
      obtain ⟨w5, hw5⟩ : ∃ y, y = wc := ⟨_, rfl⟩
      subst hw5
      have d5 : Below w4.heap.size w4 w5 := (Below.trans (by go_grown) (b5.mono (by first | omega | (simp; done) | (simp; omega))))
      have c5 : Below w.heap.size w w5 := c4.trans (d5.mono c4.size)
      have g0_5 : w5.cell? ⟨w3.heap.size, 0, none⟩ = some (.slice (some ⟨g, 0, none⟩) 24 24) := (by rw [b5.cell (by first | omega | (simp; done) | (simp; omega))]; go_cell)
      have gl_5 : w3.heap.size < w5.heap.size := (by have := b5.size; first | omega | (revert this; simp; done) | (revert this; simp; omega))
      have o0_5 : w5.cell? ⟨w1.heap.size, 0, none⟩ = some (.int .i64 k) := (by rw [b5.cell (by first | omega | (simp; done) | (simp; omega))]; go_cell)
      have o1_5 : w5.cell? ⟨w1.heap.size, 1, none⟩ = some (.int .i64 a) := (by rw [b5.cell (by first | omega | (simp; done) | (simp; omega))]; go_cell)
      have o2_5 : w5.cell? ⟨w1.heap.size, 2, none⟩ = some (.int .i64 c) := (by rw [b5.cell (by first | omega | (simp; done) | (simp; omega))]; go_cell)
      have o3_5 : w5.cell? ⟨w1.heap.size, 3, none⟩ = some (.int .i64 x) := (by rw [b5.cell (by first | omega | (simp; done) | (simp; omega))]; go_cell)
      have ol_5 : w1.heap.size < w5.heap.size := (by have := b5.size; first | omega | (revert this; simp; done) | (revert this; simp; omega))
      clear g0_4 gl_4 o0_4 o1_4 o2_4 o3_4 ol_4
      have HG5 := hid (HG4.out.later d5)
      clear b5 d5 HG4
      go_wp2_with fail
      refine (implGDo_any _ zeroG k a c x _ HG5.out okG_zero).mono ?_
      rintro e w6 ⟨⟨g2, ds, rfl, hB, -⟩, b6⟩
      have d6 : Below w5.heap.size w5 w6 := (Below.trans (by go_grown) (b6.mono (by first | omega | (simp; done) | (simp; omega))))
      have c6 : Below w.heap.size w w6 := c5.trans (d6.mono c5.size)
      have g0_6 : w6.cell? ⟨w3.heap.size, 0, none⟩ = some (.slice (some ⟨g, 0, none⟩) 24 24) := (by rw [b6.cell (by first | omega | (simp; done) | (simp; omega))]; go_cell)
      have gl_6 : w3.heap.size < w6.heap.size := (by have := b6.size; first | omega | (revert this; simp; done) | (revert this; simp; omega))
      have o0_6 : w6.cell? ⟨w1.heap.size, 0, none⟩ = some (.int .i64 k) := (by rw [b6.cell (by first | omega | (simp; done) | (simp; omega))]; go_cell)
      have o1_6 : w6.cell? ⟨w1.heap.size, 1, none⟩ = some (.int .i64 a) := (by rw [b6.cell (by first | omega | (simp; done) | (simp; omega))]; go_cell)
      have o2_6 : w6.cell? ⟨w1.heap.size, 2, none⟩ = some (.int .i64 c) := (by rw [b6.cell (by first | omega | (simp; done) | (simp; omega))]; go_cell)
      have o3_6 : w6.cell? ⟨w1.heap.size, 3, none⟩ = some (.int .i64 x) := (by rw [b6.cell (by first | omega | (simp; done) | (simp; omega))]; go_cell)
      have ol_6 : w1.heap.size < w6.heap.size := (by have := b6.size; first | omega | (revert this; simp; done) | (revert this; simp; omega))
      clear g0_5 gl_5 o0_5 o1_5 o2_5 o3_5 ol_5
      have HG6 := hid (HG5.out.later d6)
      have HB6 := hid hB
      clear b6 d6 HG5 hB
      go_wp2_with fail
      have y0_7 : (w6.alloc (.cells #[.slice (some ⟨g2, 0, none⟩) 24 24] 39)).cell? ⟨w6.heap.size, 0, none⟩ = some (.slice (some ⟨g2, 0, none⟩) 24 24) := by go_cell
      have yl_7 : w6.heap.size < (w6.alloc (.cells #[.slice (some ⟨g2, 0, none⟩) 24 24] 39)).heap.size := by simp
      have d7 : Below w6.heap.size w6 (w6.alloc (.cells #[.slice (some ⟨g2, 0, none⟩) 24 24] 39)) := by go_grown
      generalize (w6.alloc (.cells #[.slice (some ⟨g2, 0, none⟩) 24 24] 39)) = w7 at y0_7 yl_7 d7 ⊢
      have c7 : Below w.heap.size w w7 := c6.trans (d7.mono c6.size)
      have g0_7 : w7.cell? ⟨w3.heap.size, 0, none⟩ = some (.slice (some ⟨g, 0, none⟩) 24 24) := (by rw [d7.cell (by first | omega | (simp; done) | (simp; omega))]; go_cell)
      have gl_7 : w3.heap.size < w7.heap.size := (by have := d7.size; omega)
      have o0_7 : w7.cell? ⟨w1.heap.size, 0, none⟩ = some (.int .i64 k) := (by rw [d7.cell (by first | omega | (simp; done) | (simp; omega))]; go_cell)
      have o1_7 : w7.cell? ⟨w1.heap.size, 1, none⟩ = some (.int .i64 a) := (by rw [d7.cell (by first | omega | (simp; done) | (simp; omega))]; go_cell)
      have o2_7 : w7.cell? ⟨w1.heap.size, 2, none⟩ = some (.int .i64 c) := (by rw [d7.cell (by first | omega | (simp; done) | (simp; omega))]; go_cell)
      have o3_7 : w7.cell? ⟨w1.heap.size, 3, none⟩ = some (.int .i64 x) := (by rw [d7.cell (by first | omega | (simp; done) | (simp; omega))]; go_cell)
      have ol_7 : w1.heap.size < w7.heap.size := (by have := d7.size; omega)
      clear g0_6 gl_6 o0_6 o1_6 o2_6 o3_6 ol_6
      have HG7 := hid (HG6.out.later d7)
      have HB7 := hid (HB6.out.later d7)
      clear d7 HG6 HB6
      refine (specOpOk_any k a c x _).mono ?_
      rintro e w8 ⟨rfl, b8⟩
      have d8 : Below w7.heap.size w7 w8 := (Below.trans (by go_grown) (b8.mono (by first | omega | (simp; done) | (simp; omega))))
      have c8 : Below w.heap.size w w8 := c7.trans (d8.mono c7.size)
      have y0_8 : w8.cell? ⟨w6.heap.size, 0, none⟩ = some (.slice (some ⟨g2, 0, none⟩) 24 24) := (by rw [b8.cell (by first | omega | (simp; done) | (simp; omega))]; go_cell)
      have yl_8 : w6.heap.size < w8.heap.size := (by have := b8.size; first | omega | (revert this; simp; done) | (revert this; simp; omega))
      have g0_8 : w8.cell? ⟨w3.heap.size, 0, none⟩ = some (.slice (some ⟨g, 0, none⟩) 24 24) := (by rw [b8.cell (by first | omega | (simp; done) | (simp; omega))]; go_cell)
      have gl_8 : w3.heap.size < w8.heap.size := (by have := b8.size; first | omega | (revert this; simp; done) | (revert this; simp; omega))
      have o0_8 : w8.cell? ⟨w1.heap.size, 0, none⟩ = some (.int .i64 k) := (by rw [b8.cell (by first | omega | (simp; done) | (simp; omega))]; go_cell)
      have o1_8 : w8.cell? ⟨w1.heap.size, 1, none⟩ = some (.int .i64 a) := (by rw [b8.cell (by first | omega | (simp; done) | (simp; omega))]; go_cell)
      have o2_8 : w8.cell? ⟨w1.heap.size, 2, none⟩ = some (.int .i64 c) := (by rw [b8.cell (by first | omega | (simp; done) | (simp; omega))]; go_cell)
      have o3_8 : w8.cell? ⟨w1.heap.size, 3, none⟩ = some (.int .i64 x) := (by rw [b8.cell (by first | omega | (simp; done) | (simp; omega))]; go_cell)
      have ol_8 : w1.heap.size < w8.heap.size := (by have := b8.size; first | omega | (revert this; simp; done) | (revert this; simp; omega))
      clear y0_7 yl_7 g0_7 gl_7 o0_7 o1_7 o2_7 o3_7 ol_7
      have HG8 := hid (HG7.out.later d8)
      have HB8 := hid (HB7.out.later d8)
      clear b8 d8 HG7 HB7
      cases hO : opOk k a c x with
      | false =>
        go_wp2_with fail
        go_loopw [7, 8] (fun s i wr => s = .int .i64 0 ∧ i = .int .i64 0 ∧ wr = w8) (fun _ _ _ => 0)
        case atStart => exact ⟨rfl, rfl, rfl⟩
        case round =>
          obtain ⟨rfl, rfl, rfl⟩ := hrel
          go_wp2
          go_ret
          exact ⟨by simp, c8⟩
      | true =>
        have hP := hid (lawFGOpen_plain hO)
        generalize doG zeroG k a c x = M at *
        have hb2 : bulkG M ≤ 2 := by
          rcases hP.out with ⟨_, h⟩ | ⟨_, h⟩ | ⟨_, h, _⟩
          · omega
          · rw [h, bulk_zero]; omega
          · omega
        go_wp2_with fail
        go_loopw [7, 8] (fun s i wr => ∃ j : Nat, j ≤ 24 ∧ s = .int .i64 (bulkG (M.take j) : Nat) ∧ i = .int .i64 j ∧ Below w8.heap.size w8 wr) (fun _ i _ => 24 - (intOf i).toNat)
        case atStart => exact ⟨0, Nat.zero_le _, rfl, rfl, Below.refl _ _⟩
        case round =>
          obtain ⟨j, hj, rfl, rfl, hbel⟩ := hrel
          have y1 := (hbel.cell (p := ⟨w6.heap.size, 0, none⟩) yl_8).trans y0_8
          have HB9 := hid (HB8.out.later hbel)
          by_cases hlt : j < 24
          · obtain ⟨u, hu, hr⟩ := HB9.out.c1 hlt
            have hs1 := bulk_step M j (by rw [HB9.out.len]; exact hlt)
            have hs2 := bulk_take M (j + 1)
            obtain ⟨uo, uc, rfl, _⟩ := hr.rd
            obtain ⟨q, hq⟩ : ∃ q, (M.getD j valD0).2.length = q := ⟨_, rfl⟩
            rw [hq] at hu hs1
            clear hr hq
            have hS := hid hs1
            obtain ⟨r, hr⟩ : ∃ r, bulkG (M.take j) = r := ⟨_, rfl⟩
            rw [hr] at hS ⊢
            have hrq : r + q ≤ 2 := by have := hS.out; omega
            clear hs1 hs2 hr
            go_wp2
            go_roundw
            case rel => exact ⟨j + 1, by omega, by rw [hS.out]; simp, by go_num, hbel⟩
            case measure => simp [intOf]; omega
          · have hj24 : j = 24 := by omega
            subst hj24
            have hall : bulkG (M.take 24) = bulkG M := by rw [List.take_of_length_le (by rw [HB9.out.len]; exact Nat.le_refl _)]
            rw [hall]
            have c9 := c8.trans (hbel.mono c8.size)
            have g1 := (hbel.cell (p := ⟨w3.heap.size, 0, none⟩) gl_8).trans g0_8
            have o0 := (hbel.cell (p := ⟨w1.heap.size, 0, none⟩) ol_8).trans o0_8
            have o1 := (hbel.cell (p := ⟨w1.heap.size, 1, none⟩) ol_8).trans o1_8
            have o3 := (hbel.cell (p := ⟨w1.heap.size, 3, none⟩) ol_8).trans o3_8
            have HG9 := hid (HG8.out.later hbel)
            have r0 := cell_regrown o0
            have r1 := cell_regrown o1
            have r3 := cell_regrown o3
            have r4 := cell_regrown y1
            have r5 := cell_regrown g1
            clear hbel hall
            go_upto_region 17 with fail
            rcases hP.out with ⟨hs, hb⟩ | ⟨hs, hb⟩ | ⟨hs, hb, hx⟩
            · obtain rfl := hs.1
              rw [hb]
              refine wp_region_quiet_below (by kernel_rfl) (by kernel_rfl) ?_
              repeat (first | go_big_quiet_skip | (go_big_quiet_want; go_big_quiet_op; first | go_big_quiet_on | go_big_quiet_call (first | (fail))))
              refine wpQuiet_nil ?_
              rintro wq ⟨pq, hwq⟩
              have hq : Below wr.heap.size wr wq := by rw [hwq]; exact below_regrown _ _ _
              clear hwq pq
              go_wp2
              go_ret
              exact ⟨by simp, c9.trans (hq.mono c9.size)⟩
            · obtain rfl := hs.1
              rw [hb] at HB9
              rw [hb, bulk_zero]
              have hcal := fun (W : World) (h1 : RdG W (.slice (some ⟨g2, 0, none⟩) 24 24) zeroG) (h2 : RdG W (.slice (some ⟨g, 0, none⟩) 24 24) zeroG) => implGSame_any _ _ zeroG zeroG W h1 h2
              rw [eqG_refl] at hcal
              refine wp_region_quiet_below (by kernel_rfl) (by kernel_rfl) ?_
              repeat (first | go_big_quiet_skip | (go_big_quiet_want; go_big_quiet_op; first | go_big_quiet_on | go_big_quiet_call (first | (go_at_call 23; exact Calls.regrown_of (hcal _ ((HB9.out.rdG 24).later (below_regrown _ _ _)) (HG9.out.later (below_regrown _ _ _)))))))
              refine wpQuiet_nil ?_
              rintro wq ⟨pq, hwq⟩
              have hq : Below wr.heap.size wr wq := by rw [hwq]; exact below_regrown _ _ _
              clear hwq pq
              go_wp2
              go_ret
              exact ⟨by simp, c9.trans (hq.mono c9.size)⟩
            · obtain rfl := hs.1
              have ha := hs.2.1
              have ha24 : a.toNat < 24 := by omega
              have hc0 := HB9.out.c0 ha24
              rw [hx] at hc0
              have r6 := cell_regrown hc0
              have ha2 : a < 24 := by omega
              rw [hb]
              refine wp_region_quiet_below (by kernel_rfl) (by kernel_rfl) ?_
              repeat (first | go_big_quiet_skip | (go_big_quiet_want; go_big_quiet_op; first | go_big_quiet_on | go_big_quiet_call (first | (fail))))
              refine wpQuiet_nil ?_
              rintro wq ⟨pq, hwq⟩
              have hq : Below wr.heap.size wr wq := by rw [hwq]; exact below_regrown _ _ _
              clear hwq pq
              go_wp2
              go_ret
              exact ⟨by simp, c9.trans (hq.mono c9.size)⟩
end Go.Proofs.Ythmbhcgecnkgeaa
