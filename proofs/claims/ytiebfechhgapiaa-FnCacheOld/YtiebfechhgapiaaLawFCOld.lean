/- The law FnCacheOld: its walk. Written by a program (gfc.py). -/
import Derived.Test.YtiebfechhgapiaaYh
import Derived.Test.YtiebfechhgapiaaYj
import Derived.BigQuiet
import Derived.Deep.RegionHeld3
import Derived.Lib.QuietBelow
import Derived.Deep.Cut
namespace Go.Proofs.Ytiebfechhgapiaa
open Go.RowKit
attribute [local go_sem ↓] Go.wp_at_zero Go.wp_at_succ

set_option maxRecDepth 100000 in
set_option maxHeartbeats 16000000 in
theorem lawFCOld_any (v : Value) (n : Nat) (w : World) (h : Bs w v n) :
    Calls Try.prog 5 #[v] w fun e w' => e = .returned (.bool true) ∧ Below w.heap.size w w' := by
  have HB1 := hid h
  obtain ⟨ao, cap, hv, h0, _⟩ := h
  subst hv
  unfold maxLen at h0
  by_cases hbign : 1048576 < n
  · go_enter Try.func5, Try.ntmps5
    go_wp2
    go_ret
    exact ⟨rfl, Below.refl _ _⟩
  go_enter Try.func5, Try.ntmps5
  go_wp2_with fail
  refine (drawCFloor_any _ n _ HB1.out).mono ?_
  rintro e w1 ⟨⟨y0, y1, I, F, key, ver, rfl, hrs, hver⟩, c1⟩
  obtain ⟨io, fo, ic, fc, rfl, rfl⟩ := hrs.open
  have HC_1 := hid hrs
  clear hrs HB1
  go_wp2_with fail
  have c0_2 : (w1.alloc (.cells #[.slice io I.length ic, .slice fo F.length fc] 26)).cell? ⟨w1.heap.size, 0, none⟩ = some (.slice io I.length ic) := by go_cell
  have c1_2 : (w1.alloc (.cells #[.slice io I.length ic, .slice fo F.length fc] 26)).cell? ⟨w1.heap.size, 1, none⟩ = some (.slice fo F.length fc) := by go_cell
  have cl_2 : w1.heap.size < (w1.alloc (.cells #[.slice io I.length ic, .slice fo F.length fc] 26)).heap.size := by simp
  have d2 : Below w1.heap.size w1 (w1.alloc (.cells #[.slice io I.length ic, .slice fo F.length fc] 26)) := by go_grown
  generalize (w1.alloc (.cells #[.slice io I.length ic, .slice fo F.length fc] 26)) = w2 at c0_2 c1_2 cl_2 d2 ⊢
  have c2 : Below w.heap.size w w2 := c1.trans (d2.mono c1.size)
  have HC_2 := hid (HC_1.out.later d2)
  clear d2 HC_1
  obtain ⟨⟨X, G⟩, hD⟩ : ∃ D, ansF I F key ver = D := ⟨_, rfl⟩
  have HD := hid hD
  have SD := fun (v0 v1 : Value) (W : World) (h : RSCache W v0 v1 I F) => specCFloor_rd v0 v1 I F key ver W h hD
  have ID := fun (v0 v1 : Value) (W : World) (h : RSCache W v0 v1 I F) => implCFloor_rd v0 v1 I F key ver W h hD
  simp only at SD ID
  clear hD
  refine (ID _ _ _ HC_2.out).mono ?_
  rintro e w3 ⟨⟨xo, xg, xc, xd, rfl, hx⟩, b3⟩
  have d3 : Below w2.heap.size w2 w3 := (Below.trans (by go_grown) (b3.mono (by first | omega | (simp; done) | (simp; omega))))
  have c3 : Below w.heap.size w w3 := c2.trans (d3.mono c2.size)
  have c0_3 : w3.cell? ⟨w1.heap.size, 0, none⟩ = some (.slice io I.length ic) := (by rw [b3.cell (by first | omega | (simp; done) | (simp; omega))]; go_cell)
  have c1_3 : w3.cell? ⟨w1.heap.size, 1, none⟩ = some (.slice fo F.length fc) := (by rw [b3.cell (by first | omega | (simp; done) | (simp; omega))]; go_cell)
  have cl_3 : w1.heap.size < w3.heap.size := (by have := b3.size; first | omega | (revert this; simp; done) | (revert this; simp; omega))
  clear c0_2 c1_2 cl_2
  have HC_3 := hid (HC_2.out.later d3)
  clear d3 b3 HC_2
  have HX_3 := hid hx
  clear hx ID
  go_upto_region 5 with fail
  have x0_4 : (w3.alloc (.cells #[.slice xo X.length xc, .slice xg G.length xd] 26)).cell? ⟨w3.heap.size, 0, none⟩ = some (.slice xo X.length xc) := by go_cell
  have x1_4 : (w3.alloc (.cells #[.slice xo X.length xc, .slice xg G.length xd] 26)).cell? ⟨w3.heap.size, 1, none⟩ = some (.slice xg G.length xd) := by go_cell
  have xl_4 : w3.heap.size < (w3.alloc (.cells #[.slice xo X.length xc, .slice xg G.length xd] 26)).heap.size := by simp
  have d4 : Below w3.heap.size w3 (w3.alloc (.cells #[.slice xo X.length xc, .slice xg G.length xd] 26)) := by go_grown
  generalize (w3.alloc (.cells #[.slice xo X.length xc, .slice xg G.length xd] 26)) = w4 at x0_4 x1_4 xl_4 d4 ⊢
  have c4 : Below w.heap.size w w4 := c3.trans (d4.mono c3.size)
  have c0_4 : w4.cell? ⟨w1.heap.size, 0, none⟩ = some (.slice io I.length ic) := (by rw [d4.cell (by first | omega | (simp; done) | (simp; omega))]; go_cell)
  have c1_4 : w4.cell? ⟨w1.heap.size, 1, none⟩ = some (.slice fo F.length fc) := (by rw [d4.cell (by first | omega | (simp; done) | (simp; omega))]; go_cell)
  have cl_4 : w1.heap.size < w4.heap.size := (by have := d4.size; omega)
  clear c0_3 c1_3 cl_3
  have HC_4 := hid (HC_3.out.later d4)
  have HX_4 := hid (HX_3.out.later d4)
  clear d4 HC_3 HX_3
  go_cut [33] from 27 (fun s wx => s = .bool false ∧ Below w4.heap.size w4 wx)
  case first =>
    go_region_with (first
      | (go_at_call 19; refine (SD _ _ _ (HC_4.out.later (by go_grown))).mono ?_; rintro e w50 ⟨⟨so, sg, sc, sd, rfl, hy⟩, b50⟩; have d50 : Below w4.heap.size w4 w50 := (Below.trans (by go_grown) (b50.mono (by first | omega | (simp; done) | (simp; omega)))); have c50 : Below w.heap.size w w50 := c4.trans (d50.mono c4.size); have c0_50 : w50.cell? ⟨w1.heap.size, 0, none⟩ = some (.slice io I.length ic) := (by rw [b50.cell (by first | omega | (simp; done) | (simp; omega))]; go_cell); have c1_50 : w50.cell? ⟨w1.heap.size, 1, none⟩ = some (.slice fo F.length fc) := (by rw [b50.cell (by first | omega | (simp; done) | (simp; omega))]; go_cell); have cl_50 : w1.heap.size < w50.heap.size := (by have := b50.size; first | omega | (revert this; simp; done) | (revert this; simp; omega)); have x0_50 : w50.cell? ⟨w3.heap.size, 0, none⟩ = some (.slice xo X.length xc) := (by rw [b50.cell (by first | omega | (simp; done) | (simp; omega))]; go_cell); have x1_50 : w50.cell? ⟨w3.heap.size, 1, none⟩ = some (.slice xg G.length xd) := (by rw [b50.cell (by first | omega | (simp; done) | (simp; omega))]; go_cell); have xl_50 : w3.heap.size < w50.heap.size := (by have := b50.size; first | omega | (revert this; simp; done) | (revert this; simp; omega)); clear c0_4 c1_4 cl_4 x0_4 x1_4 xl_4; have HY50 := hid hy; have HX50 := hid (HX_4.out.later d50); clear hy)
      | (go_at_call 17; refine (csame_is (HX50.out.later (by go_grown)) (HY50.out.later (by go_grown))).mono ?_; rintro e w51 ⟨rfl, b51⟩; have d51 : Below w50.heap.size w50 w51 := (Below.trans (by go_grown) (b51.mono (by first | omega | (simp; done) | (simp; omega)))); have c51 : Below w.heap.size w w51 := c50.trans (d51.mono c50.size); have c0_51 : w51.cell? ⟨w1.heap.size, 0, none⟩ = some (.slice io I.length ic) := (by rw [b51.cell (by first | omega | (simp; done) | (simp; omega))]; go_cell); have c1_51 : w51.cell? ⟨w1.heap.size, 1, none⟩ = some (.slice fo F.length fc) := (by rw [b51.cell (by first | omega | (simp; done) | (simp; omega))]; go_cell); have cl_51 : w1.heap.size < w51.heap.size := (by have := b51.size; first | omega | (revert this; simp; done) | (revert this; simp; omega)); have x0_51 : w51.cell? ⟨w3.heap.size, 0, none⟩ = some (.slice xo X.length xc) := (by rw [b51.cell (by first | omega | (simp; done) | (simp; omega))]; go_cell); have x1_51 : w51.cell? ⟨w3.heap.size, 1, none⟩ = some (.slice xg G.length xd) := (by rw [b51.cell (by first | omega | (simp; done) | (simp; omega))]; go_cell); have xl_51 : w3.heap.size < w51.heap.size := (by have := b51.size; first | omega | (revert this; simp; done) | (revert this; simp; omega)); clear c0_50 c1_50 cl_50 x0_50 x1_50 xl_50))
    all_goals
      go_wp2_with fail
      go_meet
      exact ⟨rfl, d50.trans (d51.mono d50.size)⟩
  case rest =>
    obtain ⟨rfl, b5⟩ := hcut
    obtain ⟨w5, hw5⟩ : ∃ y, y = wc := ⟨_, rfl⟩
    subst hw5
    have d5 : Below w4.heap.size w4 w5 := (Below.trans (by go_grown) (b5.mono (by first | omega | (simp; done) | (simp; omega))))
    have c5 : Below w.heap.size w w5 := c4.trans (d5.mono c4.size)
    have c0_5 : w5.cell? ⟨w1.heap.size, 0, none⟩ = some (.slice io I.length ic) := (by rw [b5.cell (by first | omega | (simp; done) | (simp; omega))]; go_cell)
    have c1_5 : w5.cell? ⟨w1.heap.size, 1, none⟩ = some (.slice fo F.length fc) := (by rw [b5.cell (by first | omega | (simp; done) | (simp; omega))]; go_cell)
    have cl_5 : w1.heap.size < w5.heap.size := (by have := b5.size; first | omega | (revert this; simp; done) | (revert this; simp; omega))
    have x0_5 : w5.cell? ⟨w3.heap.size, 0, none⟩ = some (.slice xo X.length xc) := (by rw [b5.cell (by first | omega | (simp; done) | (simp; omega))]; go_cell)
    have x1_5 : w5.cell? ⟨w3.heap.size, 1, none⟩ = some (.slice xg G.length xd) := (by rw [b5.cell (by first | omega | (simp; done) | (simp; omega))]; go_cell)
    have xl_5 : w3.heap.size < w5.heap.size := (by have := b5.size; first | omega | (revert this; simp; done) | (revert this; simp; omega))
    clear c0_4 c1_4 cl_4 x0_4 x1_4 xl_4
    have HC_5 := hid (HC_4.out.later d5)
    have HX_5 := hid (HX_4.out.later d5)
    clear d5 b5 HC_4 HX_4
    clear SD
    cases hok : okC I F with
    | false =>
      have OK := fun (W : World) (v0 v1 : Value) (h : RSCache W v0 v1 I F) => specCOk_any v0 v1 I F W h.h0 h.h1
      rw [hok] at OK
      clear hok
      go_wp2_with fail
      refine (OK _ _ _ HC_5.out).mono ?_
      rintro e w6 ⟨rfl, b6⟩
      have d6 : Below w5.heap.size w5 w6 := (Below.trans (by go_grown) (b6.mono (by first | omega | (simp; done) | (simp; omega))))
      have c6 : Below w.heap.size w w6 := c5.trans (d6.mono c5.size)
      have c0_6 : w6.cell? ⟨w1.heap.size, 0, none⟩ = some (.slice io I.length ic) := (by rw [b6.cell (by first | omega | (simp; done) | (simp; omega))]; go_cell)
      have c1_6 : w6.cell? ⟨w1.heap.size, 1, none⟩ = some (.slice fo F.length fc) := (by rw [b6.cell (by first | omega | (simp; done) | (simp; omega))]; go_cell)
      have cl_6 : w1.heap.size < w6.heap.size := (by have := b6.size; first | omega | (revert this; simp; done) | (revert this; simp; omega))
      have x0_6 : w6.cell? ⟨w3.heap.size, 0, none⟩ = some (.slice xo X.length xc) := (by rw [b6.cell (by first | omega | (simp; done) | (simp; omega))]; go_cell)
      have x1_6 : w6.cell? ⟨w3.heap.size, 1, none⟩ = some (.slice xg G.length xd) := (by rw [b6.cell (by first | omega | (simp; done) | (simp; omega))]; go_cell)
      have xl_6 : w3.heap.size < w6.heap.size := (by have := b6.size; first | omega | (revert this; simp; done) | (revert this; simp; omega))
      clear c0_5 c1_5 cl_5 x0_5 x1_5 xl_5
      have HC_6 := hid (HC_5.out.later d6)
      have HX_6 := hid (HX_5.out.later d6)
      clear d6 b6 HC_5 HX_5
      go_wp2_with fail
      refine (OK _ _ _ HC_6.out).mono ?_
      rintro e w7 ⟨rfl, b7⟩
      have d7 : Below w6.heap.size w6 w7 := (Below.trans (by go_grown) (b7.mono (by first | omega | (simp; done) | (simp; omega))))
      have c7 : Below w.heap.size w w7 := c6.trans (d7.mono c6.size)
      have c0_7 : w7.cell? ⟨w1.heap.size, 0, none⟩ = some (.slice io I.length ic) := (by rw [b7.cell (by first | omega | (simp; done) | (simp; omega))]; go_cell)
      have c1_7 : w7.cell? ⟨w1.heap.size, 1, none⟩ = some (.slice fo F.length fc) := (by rw [b7.cell (by first | omega | (simp; done) | (simp; omega))]; go_cell)
      have cl_7 : w1.heap.size < w7.heap.size := (by have := b7.size; first | omega | (revert this; simp; done) | (revert this; simp; omega))
      have x0_7 : w7.cell? ⟨w3.heap.size, 0, none⟩ = some (.slice xo X.length xc) := (by rw [b7.cell (by first | omega | (simp; done) | (simp; omega))]; go_cell)
      have x1_7 : w7.cell? ⟨w3.heap.size, 1, none⟩ = some (.slice xg G.length xd) := (by rw [b7.cell (by first | omega | (simp; done) | (simp; omega))]; go_cell)
      have xl_7 : w3.heap.size < w7.heap.size := (by have := b7.size; first | omega | (revert this; simp; done) | (revert this; simp; omega))
      clear c0_6 c1_6 cl_6 x0_6 x1_6 xl_6
      have HC_7 := hid (HC_6.out.later d7)
      have HX_7 := hid (HX_6.out.later d7)
      clear d7 b7 HC_6 HX_6
      go_wp2
      go_ret
      exact ⟨by simp, (by first | exact c7 | exact Below.trans c7 (Below.mono (by go_grown) c7.size))⟩
    | true =>
      have HOK := hid hok
      have OK := fun (W : World) (v0 v1 : Value) (h : RSCache W v0 v1 I F) => specCOk_any v0 v1 I F W h.h0 h.h1
      rw [hok] at OK
      clear hok
      go_wp2_with fail
      refine (OK _ _ _ HC_5.out).mono ?_
      rintro e w6 ⟨rfl, b6⟩
      have d6 : Below w5.heap.size w5 w6 := (Below.trans (by go_grown) (b6.mono (by first | omega | (simp; done) | (simp; omega))))
      have c6 : Below w.heap.size w w6 := c5.trans (d6.mono c5.size)
      have c0_6 : w6.cell? ⟨w1.heap.size, 0, none⟩ = some (.slice io I.length ic) := (by rw [b6.cell (by first | omega | (simp; done) | (simp; omega))]; go_cell)
      have c1_6 : w6.cell? ⟨w1.heap.size, 1, none⟩ = some (.slice fo F.length fc) := (by rw [b6.cell (by first | omega | (simp; done) | (simp; omega))]; go_cell)
      have cl_6 : w1.heap.size < w6.heap.size := (by have := b6.size; first | omega | (revert this; simp; done) | (revert this; simp; omega))
      have x0_6 : w6.cell? ⟨w3.heap.size, 0, none⟩ = some (.slice xo X.length xc) := (by rw [b6.cell (by first | omega | (simp; done) | (simp; omega))]; go_cell)
      have x1_6 : w6.cell? ⟨w3.heap.size, 1, none⟩ = some (.slice xg G.length xd) := (by rw [b6.cell (by first | omega | (simp; done) | (simp; omega))]; go_cell)
      have xl_6 : w3.heap.size < w6.heap.size := (by have := b6.size; first | omega | (revert this; simp; done) | (revert this; simp; omega))
      clear c0_5 c1_5 cl_5 x0_5 x1_5 xl_5
      have HC_6 := hid (HC_5.out.later d6)
      have HX_6 := hid (HX_5.out.later d6)
      clear d6 b6 HC_5 HX_5
      by_cases hin : 0 ≤ key ∧ key < 24
      · obtain ⟨kk, rfl⟩ := Int.eq_ofNat_of_zero_le hin.1
        have hk24 : kk < 24 := by omega
        have e1 : X = (ansF I F (kk : Int) ver).1 := by rw [HD.out]
        have e2 : G = (ansF I F (kk : Int) ver).2 := by rw [HD.out]
        have hok2 : okC X G = true := by rw [e1, e2]; exact floor_ok HOK.out
        have hag : ansF X G (kk : Int) ver = (X, G) := by have := floor_again (key := (kk : Int)) (ver := ver) HOK.out; rw [← e1, ← e2, HD.out] at this; exact this
        have hfl : ver > 60 ∨ ver ≤ flr G kk := by rw [e2]; exact floor_flr HOK.out hk24
        obtain ⟨hQ1, hQ2, hQ3, hf0, hf1, hkG⟩ := put_none hok2 hk24
        have hG0 : 0 < G.length := by omega
        obtain ⟨bg, og, hxg⟩ := rdm_some HX_6.out.h1 hG0
        subst hxg
        have fc_6 := flo_cell HX_6.out.h1 kk hkG
        have fl_6 := rdm_lt HX_6.out.h1 hG0
        obtain ⟨f, hf⟩ : ∃ z : Int, flr G kk = z := ⟨_, rfl⟩
        rw [hf] at fc_6 hfl hQ1 hQ2 hQ3 hf0 hf1
        clear hf e1 e2
        obtain ⟨Y, hY⟩ : ∃ Y, putI (kk : Int) f 0 [] X = Y := ⟨_, rfl⟩
        obtain ⟨H, hH⟩ : ∃ Y, putF G (kk : Int) f = Y := ⟨_, rfl⟩
        rw [hY, hH] at hQ2 hQ3
        clear hY hH
        have M1 := fun (v0 v1 : Value) (W : World) (h : RSCache W v0 v1 X G) => implCPut_rd v0 v1 X G (kk : Int) (f - 1) 0 (.slice none 0 0) [] W h (Rd.nil W none 0) hQ1
        have M2 := fun (v0 v1 : Value) (W : World) (h : RSCache W v0 v1 X G) => implCPut_rd v0 v1 X G (kk : Int) f 0 (.slice none 0 0) [] W h (Rd.nil W none 0) hQ2
        have M3 := fun (v0 v1 : Value) (W : World) (h : RSCache W v0 v1 Y H) => implGet_yes v0 v1 Y H (kk : Int) W h hQ3
        have M4 := fun (v0 v1 : Value) (W : World) (h : RSCache W v0 v1 X G) => implCFloor_rd v0 v1 X G (kk : Int) ver W h hag
        simp only at M1 M2 M4
        have hkG' : (kk : Int) < (G.length : Int) := by omega
        have hk24' : (kk : Int) < 24 := by omega
        have g1 : decide ((kk : Int) < 0) = false := by simp
        have g2 : decide ((kk : Int) ≥ 24) = false := by simp; omega
        clear hQ1 hQ2 hQ3 hag hok2 hin HD OK HOK
        go_wp2_with fail
        refine (M1 _ _ _ HX_6.out).mono ?_
        rintro e w7 ⟨⟨po, pg, pc, pd, rfl, hy⟩, b7⟩
        clear hy
        have d7 : Below w6.heap.size w6 w7 := (Below.trans (by go_grown) (b7.mono (by first | omega | (simp; done) | (simp; omega))))
        have c7 : Below w.heap.size w w7 := c6.trans (d7.mono c6.size)
        have c0_7 : w7.cell? ⟨w1.heap.size, 0, none⟩ = some (.slice io I.length ic) := (by rw [b7.cell (by first | omega | (simp; done) | (simp; omega))]; go_cell)
        have c1_7 : w7.cell? ⟨w1.heap.size, 1, none⟩ = some (.slice fo F.length fc) := (by rw [b7.cell (by first | omega | (simp; done) | (simp; omega))]; go_cell)
        have cl_7 : w1.heap.size < w7.heap.size := (by have := b7.size; first | omega | (revert this; simp; done) | (revert this; simp; omega))
        have x0_7 : w7.cell? ⟨w3.heap.size, 0, none⟩ = some (.slice xo X.length xc) := (by rw [b7.cell (by first | omega | (simp; done) | (simp; omega))]; go_cell)
        have x1_7 : w7.cell? ⟨w3.heap.size, 1, none⟩ = some (.slice (some ⟨bg, og, none⟩) G.length xd) := (by rw [b7.cell (by first | omega | (simp; done) | (simp; omega))]; go_cell)
        have xl_7 : w3.heap.size < w7.heap.size := (by have := b7.size; first | omega | (revert this; simp; done) | (revert this; simp; omega))
        clear c0_6 c1_6 cl_6 x0_6 x1_6 xl_6
        have HC_7 := hid (HC_6.out.later d7)
        have HX_7 := hid (HX_6.out.later d7)
        have fc_7 := (d7.cell (p := ⟨bg, og + kk, none⟩) fl_6).trans fc_6
        have fl_7 : (⟨bg, og + kk, none⟩ : Addr).block < w7.heap.size := Nat.lt_of_lt_of_le fl_6 d7.size
        clear d7 b7 HC_6 HX_6 fc_6 fl_6
        go_wp2_with fail
        have p0_8 : (w7.alloc (.cells #[.slice po X.length pc, .slice pg G.length pd] 26)).cell? ⟨w7.heap.size, 0, none⟩ = some (.slice po X.length pc) := by go_cell
        have p1_8 : (w7.alloc (.cells #[.slice po X.length pc, .slice pg G.length pd] 26)).cell? ⟨w7.heap.size, 1, none⟩ = some (.slice pg G.length pd) := by go_cell
        have pl_8 : w7.heap.size < (w7.alloc (.cells #[.slice po X.length pc, .slice pg G.length pd] 26)).heap.size := by simp
        have d8 : Below w7.heap.size w7 (w7.alloc (.cells #[.slice po X.length pc, .slice pg G.length pd] 26)) := by go_grown
        generalize (w7.alloc (.cells #[.slice po X.length pc, .slice pg G.length pd] 26)) = w8 at p0_8 p1_8 pl_8 d8 ⊢
        have c8 : Below w.heap.size w w8 := c7.trans (d8.mono c7.size)
        have c0_8 : w8.cell? ⟨w1.heap.size, 0, none⟩ = some (.slice io I.length ic) := (by rw [d8.cell (by first | omega | (simp; done) | (simp; omega))]; go_cell)
        have c1_8 : w8.cell? ⟨w1.heap.size, 1, none⟩ = some (.slice fo F.length fc) := (by rw [d8.cell (by first | omega | (simp; done) | (simp; omega))]; go_cell)
        have cl_8 : w1.heap.size < w8.heap.size := (by have := d8.size; omega)
        have x0_8 : w8.cell? ⟨w3.heap.size, 0, none⟩ = some (.slice xo X.length xc) := (by rw [d8.cell (by first | omega | (simp; done) | (simp; omega))]; go_cell)
        have x1_8 : w8.cell? ⟨w3.heap.size, 1, none⟩ = some (.slice (some ⟨bg, og, none⟩) G.length xd) := (by rw [d8.cell (by first | omega | (simp; done) | (simp; omega))]; go_cell)
        have xl_8 : w3.heap.size < w8.heap.size := (by have := d8.size; omega)
        clear c0_7 c1_7 cl_7 x0_7 x1_7 xl_7
        have HC_8 := hid (HC_7.out.later d8)
        have HX_8 := hid (HX_7.out.later d8)
        have fc_8 := (d8.cell (p := ⟨bg, og + kk, none⟩) fl_7).trans fc_7
        have fl_8 : (⟨bg, og + kk, none⟩ : Addr).block < w8.heap.size := Nat.lt_of_lt_of_le fl_7 d8.size
        clear d8 HC_7 HX_7 fc_7 fl_7
        refine (M2 _ _ _ HX_8.out).mono ?_
        rintro e w9 ⟨⟨yo, yg, yc, yd, rfl, hy⟩, b9⟩
        have d9 : Below w8.heap.size w8 w9 := (Below.trans (by go_grown) (b9.mono (by first | omega | (simp; done) | (simp; omega))))
        have c9 : Below w.heap.size w w9 := c8.trans (d9.mono c8.size)
        have c0_9 : w9.cell? ⟨w1.heap.size, 0, none⟩ = some (.slice io I.length ic) := (by rw [b9.cell (by first | omega | (simp; done) | (simp; omega))]; go_cell)
        have c1_9 : w9.cell? ⟨w1.heap.size, 1, none⟩ = some (.slice fo F.length fc) := (by rw [b9.cell (by first | omega | (simp; done) | (simp; omega))]; go_cell)
        have cl_9 : w1.heap.size < w9.heap.size := (by have := b9.size; first | omega | (revert this; simp; done) | (revert this; simp; omega))
        have x0_9 : w9.cell? ⟨w3.heap.size, 0, none⟩ = some (.slice xo X.length xc) := (by rw [b9.cell (by first | omega | (simp; done) | (simp; omega))]; go_cell)
        have x1_9 : w9.cell? ⟨w3.heap.size, 1, none⟩ = some (.slice (some ⟨bg, og, none⟩) G.length xd) := (by rw [b9.cell (by first | omega | (simp; done) | (simp; omega))]; go_cell)
        have xl_9 : w3.heap.size < w9.heap.size := (by have := b9.size; first | omega | (revert this; simp; done) | (revert this; simp; omega))
        clear c0_8 c1_8 cl_8 x0_8 x1_8 xl_8
        have HC_9 := hid (HC_8.out.later d9)
        have HX_9 := hid (HX_8.out.later d9)
        have fc_9 := (d9.cell (p := ⟨bg, og + kk, none⟩) fl_8).trans fc_8
        have fl_9 : (⟨bg, og + kk, none⟩ : Addr).block < w9.heap.size := Nat.lt_of_lt_of_le fl_8 d9.size
        clear d9 b9 HC_8 HX_8 fc_8 fl_8
        have HY_9 := hid hy
        clear hy
        go_upto_region 12 with fail
        have y0_10 : (w9.alloc (.cells #[.slice yo Y.length yc, .slice yg H.length yd] 26)).cell? ⟨w9.heap.size, 0, none⟩ = some (.slice yo Y.length yc) := by go_cell
        have y1_10 : (w9.alloc (.cells #[.slice yo Y.length yc, .slice yg H.length yd] 26)).cell? ⟨w9.heap.size, 1, none⟩ = some (.slice yg H.length yd) := by go_cell
        have yl_10 : w9.heap.size < (w9.alloc (.cells #[.slice yo Y.length yc, .slice yg H.length yd] 26)).heap.size := by simp
        have d10 : Below w9.heap.size w9 (w9.alloc (.cells #[.slice yo Y.length yc, .slice yg H.length yd] 26)) := by go_grown
        generalize (w9.alloc (.cells #[.slice yo Y.length yc, .slice yg H.length yd] 26)) = w10 at y0_10 y1_10 yl_10 d10 ⊢
        have c10 : Below w.heap.size w w10 := c9.trans (d10.mono c9.size)
        have c0_10 : w10.cell? ⟨w1.heap.size, 0, none⟩ = some (.slice io I.length ic) := (by rw [d10.cell (by first | omega | (simp; done) | (simp; omega))]; go_cell)
        have c1_10 : w10.cell? ⟨w1.heap.size, 1, none⟩ = some (.slice fo F.length fc) := (by rw [d10.cell (by first | omega | (simp; done) | (simp; omega))]; go_cell)
        have cl_10 : w1.heap.size < w10.heap.size := (by have := d10.size; omega)
        have x0_10 : w10.cell? ⟨w3.heap.size, 0, none⟩ = some (.slice xo X.length xc) := (by rw [d10.cell (by first | omega | (simp; done) | (simp; omega))]; go_cell)
        have x1_10 : w10.cell? ⟨w3.heap.size, 1, none⟩ = some (.slice (some ⟨bg, og, none⟩) G.length xd) := (by rw [d10.cell (by first | omega | (simp; done) | (simp; omega))]; go_cell)
        have xl_10 : w3.heap.size < w10.heap.size := (by have := d10.size; omega)
        clear c0_9 c1_9 cl_9 x0_9 x1_9 xl_9
        have HC_10 := hid (HC_9.out.later d10)
        have HX_10 := hid (HX_9.out.later d10)
        have HY_10 := hid (HY_9.out.later d10)
        have fc_10 := (d10.cell (p := ⟨bg, og + kk, none⟩) fl_9).trans fc_9
        have fl_10 : (⟨bg, og + kk, none⟩ : Addr).block < w10.heap.size := Nat.lt_of_lt_of_le fl_9 d10.size
        clear d10 HC_9 HX_9 HY_9 fc_9 fl_9
        go_cut [12, 13] from 14 (fun _ s wx => s = .bool true ∧ Below w10.heap.size w10 wx)
        case first =>
          go_wp2_with fail
          refine (M3 _ _ _ HY_10.out).mono ?_
          rintro e w40 ⟨⟨ga, gc, rfl, hy⟩, b40⟩
          clear hy
          go_wp2_with fail
          go_meet
          exact ⟨rfl, (by first | exact b40 | exact Below.trans b40 (Below.mono (by go_grown) b40.size))⟩
        case rest =>
          obtain ⟨rfl, b11⟩ := hcut
          obtain ⟨w11, hw11⟩ : ∃ y, y = wc := ⟨_, rfl⟩
          subst hw11
          have d11 : Below w10.heap.size w10 w11 := (Below.trans (by go_grown) (b11.mono (by first | omega | (simp; done) | (simp; omega))))
          have c11 : Below w.heap.size w w11 := c10.trans (d11.mono c10.size)
          have c0_11 : w11.cell? ⟨w1.heap.size, 0, none⟩ = some (.slice io I.length ic) := (by rw [b11.cell (by first | omega | (simp; done) | (simp; omega))]; go_cell)
          have c1_11 : w11.cell? ⟨w1.heap.size, 1, none⟩ = some (.slice fo F.length fc) := (by rw [b11.cell (by first | omega | (simp; done) | (simp; omega))]; go_cell)
          have cl_11 : w1.heap.size < w11.heap.size := (by have := b11.size; first | omega | (revert this; simp; done) | (revert this; simp; omega))
          have x0_11 : w11.cell? ⟨w3.heap.size, 0, none⟩ = some (.slice xo X.length xc) := (by rw [b11.cell (by first | omega | (simp; done) | (simp; omega))]; go_cell)
          have x1_11 : w11.cell? ⟨w3.heap.size, 1, none⟩ = some (.slice (some ⟨bg, og, none⟩) G.length xd) := (by rw [b11.cell (by first | omega | (simp; done) | (simp; omega))]; go_cell)
          have xl_11 : w3.heap.size < w11.heap.size := (by have := b11.size; first | omega | (revert this; simp; done) | (revert this; simp; omega))
          have y0_11 : w11.cell? ⟨w9.heap.size, 0, none⟩ = some (.slice yo Y.length yc) := (by rw [b11.cell (by first | omega | (simp; done) | (simp; omega))]; go_cell)
          have y1_11 : w11.cell? ⟨w9.heap.size, 1, none⟩ = some (.slice yg H.length yd) := (by rw [b11.cell (by first | omega | (simp; done) | (simp; omega))]; go_cell)
          have yl_11 : w9.heap.size < w11.heap.size := (by have := b11.size; first | omega | (revert this; simp; done) | (revert this; simp; omega))
          clear c0_10 c1_10 cl_10 x0_10 x1_10 xl_10 y0_10 y1_10 yl_10
          have HC_11 := hid (HC_10.out.later d11)
          have HX_11 := hid (HX_10.out.later d11)
          have HY_11 := hid (HY_10.out.later d11)
          have fc_11 := (d11.cell (p := ⟨bg, og + kk, none⟩) fl_10).trans fc_10
          have fl_11 : (⟨bg, og + kk, none⟩ : Addr).block < w11.heap.size := Nat.lt_of_lt_of_le fl_10 d11.size
          clear d11 b11 HC_10 HX_10 HY_10 fc_10 fl_10
          clear M1 M2 M3 fc_11 fl_11 HC_11 HY_11 c0_11 c1_11 y0_11 y1_11
          go_upto_region 13 with fail
          by_cases h60 : ver > 60
          · have g3 : decide (ver > 60) = true := by simpa using h60
            clear hfl hver h60 hf0 hf1 g1 g2 hkG hkG' hk24 hk24' hG0
            first
              | go_region_held (fun w' => w'.cell? ⟨w3.heap.size, 0, none⟩ = some (.slice xo X.length xc) ∧ w'.cell? ⟨w3.heap.size, 1, none⟩ = some (.slice (some ⟨bg, og, none⟩) G.length xd)) (go_keep) (first
                | (go_at_call 12; refine (M4 _ _ _ (HX_11.out.later (by go_grown))).mono ?_; rintro e w50 ⟨⟨so, sg, sc, sd, rfl, hy⟩, b50⟩; have d50 : Below w11.heap.size w11 w50 := (Below.trans (by go_grown) (b50.mono (by first | omega | (simp; done) | (simp; omega)))); have c50 : Below w.heap.size w w50 := c11.trans (d50.mono c11.size); have x0_50 : w50.cell? ⟨w3.heap.size, 0, none⟩ = some (.slice xo X.length xc) := (by rw [b50.cell (by first | omega | (simp; done) | (simp; omega))]; go_cell); have x1_50 : w50.cell? ⟨w3.heap.size, 1, none⟩ = some (.slice (some ⟨bg, og, none⟩) G.length xd) := (by rw [b50.cell (by first | omega | (simp; done) | (simp; omega))]; go_cell); have xl_50 : w3.heap.size < w50.heap.size := (by have := b50.size; first | omega | (revert this; simp; done) | (revert this; simp; omega)); clear x0_11 x1_11 xl_11; have HY50 := hid hy; have HX50 := hid (HX_11.out.later d50); clear hy)
                | (go_at_call 17; refine (csame_is (HY50.out.later (by go_grown)) (HX50.out.later (by go_grown))).mono ?_; rintro e w51 ⟨rfl, b51⟩; have d51 : Below w50.heap.size w50 w51 := (Below.trans (by go_grown) (b51.mono (by first | omega | (simp; done) | (simp; omega)))); have c51 : Below w.heap.size w w51 := c50.trans (d51.mono c50.size); have x0_51 : w51.cell? ⟨w3.heap.size, 0, none⟩ = some (.slice xo X.length xc) := (by rw [b51.cell (by first | omega | (simp; done) | (simp; omega))]; go_cell); have x1_51 : w51.cell? ⟨w3.heap.size, 1, none⟩ = some (.slice (some ⟨bg, og, none⟩) G.length xd) := (by rw [b51.cell (by first | omega | (simp; done) | (simp; omega))]; go_cell); have xl_51 : w3.heap.size < w51.heap.size := (by have := b51.size; first | omega | (revert this; simp; done) | (revert this; simp; omega)); clear x0_50 x1_50 xl_50))
              | fail
            all_goals
              go_wp2
              go_ret
              exact ⟨by simp, c51⟩
          · have g3 : decide (ver > 60) = false := by simpa using h60
            have g4 : decide (f ≥ ver) = true := by simp; omega
            clear hfl hver h60 hf0 hf1 g1 g2 hkG hkG' hk24 hk24' hG0
            first
              | go_region_held3 (fun w' => w'.cell? ⟨w3.heap.size, 0, none⟩ = some (.slice xo X.length xc) ∧ w'.cell? ⟨w3.heap.size, 1, none⟩ = some (.slice (some ⟨bg, og, none⟩) G.length xd)) (go_keep) (first
                | (go_at_call 12; refine (M4 _ _ _ (HX_11.out.later (by go_grown))).mono ?_; rintro e w50 ⟨⟨so, sg, sc, sd, rfl, hy⟩, b50⟩; have d50 : Below w11.heap.size w11 w50 := (Below.trans (by go_grown) (b50.mono (by first | omega | (simp; done) | (simp; omega)))); have c50 : Below w.heap.size w w50 := c11.trans (d50.mono c11.size); have x0_50 : w50.cell? ⟨w3.heap.size, 0, none⟩ = some (.slice xo X.length xc) := (by rw [b50.cell (by first | omega | (simp; done) | (simp; omega))]; go_cell); have x1_50 : w50.cell? ⟨w3.heap.size, 1, none⟩ = some (.slice (some ⟨bg, og, none⟩) G.length xd) := (by rw [b50.cell (by first | omega | (simp; done) | (simp; omega))]; go_cell); have xl_50 : w3.heap.size < w50.heap.size := (by have := b50.size; first | omega | (revert this; simp; done) | (revert this; simp; omega)); clear x0_11 x1_11 xl_11; have HY50 := hid hy; have HX50 := hid (HX_11.out.later d50); clear hy)
                | (go_at_call 17; refine (csame_is (HY50.out.later (by go_grown)) (HX50.out.later (by go_grown))).mono ?_; rintro e w51 ⟨rfl, b51⟩; have d51 : Below w50.heap.size w50 w51 := (Below.trans (by go_grown) (b51.mono (by first | omega | (simp; done) | (simp; omega)))); have c51 : Below w.heap.size w w51 := c50.trans (d51.mono c50.size); have x0_51 : w51.cell? ⟨w3.heap.size, 0, none⟩ = some (.slice xo X.length xc) := (by rw [b51.cell (by first | omega | (simp; done) | (simp; omega))]; go_cell); have x1_51 : w51.cell? ⟨w3.heap.size, 1, none⟩ = some (.slice (some ⟨bg, og, none⟩) G.length xd) := (by rw [b51.cell (by first | omega | (simp; done) | (simp; omega))]; go_cell); have xl_51 : w3.heap.size < w51.heap.size := (by have := b51.size; first | omega | (revert this; simp; done) | (revert this; simp; omega)); clear x0_50 x1_50 xl_50))
              | fail
            all_goals
              go_wp2
              go_ret
              exact ⟨by simp, c51⟩
      · have hki : keyIn key = false := by cases h : keyIn key with | false => rfl | true => exact absurd (by simpa [keyIn] using h) hin
        have e := HD.out
        rw [floor_out HOK.out hki] at e
        obtain ⟨rfl, rfl⟩ := Prod.mk.inj e
        clear e hki HD HOK
        by_cases n0 : key < 0
        · clear hin
          go_wp2_with fail
          refine (OK _ _ _ HC_6.out).mono ?_
          rintro e w7 ⟨rfl, b7⟩
          have d7 : Below w6.heap.size w6 w7 := (Below.trans (by go_grown) (b7.mono (by first | omega | (simp; done) | (simp; omega))))
          have c7 : Below w.heap.size w w7 := c6.trans (d7.mono c6.size)
          have c0_7 : w7.cell? ⟨w1.heap.size, 0, none⟩ = some (.slice io I.length ic) := (by rw [b7.cell (by first | omega | (simp; done) | (simp; omega))]; go_cell)
          have c1_7 : w7.cell? ⟨w1.heap.size, 1, none⟩ = some (.slice fo F.length fc) := (by rw [b7.cell (by first | omega | (simp; done) | (simp; omega))]; go_cell)
          have cl_7 : w1.heap.size < w7.heap.size := (by have := b7.size; first | omega | (revert this; simp; done) | (revert this; simp; omega))
          have x0_7 : w7.cell? ⟨w3.heap.size, 0, none⟩ = some (.slice xo I.length xc) := (by rw [b7.cell (by first | omega | (simp; done) | (simp; omega))]; go_cell)
          have x1_7 : w7.cell? ⟨w3.heap.size, 1, none⟩ = some (.slice xg F.length xd) := (by rw [b7.cell (by first | omega | (simp; done) | (simp; omega))]; go_cell)
          have xl_7 : w3.heap.size < w7.heap.size := (by have := b7.size; first | omega | (revert this; simp; done) | (revert this; simp; omega))
          clear c0_6 c1_6 cl_6 x0_6 x1_6 xl_6
          have HC_7 := hid (HC_6.out.later d7)
          have HX_7 := hid (HX_6.out.later d7)
          clear d7 b7 HC_6 HX_6
          go_wp2_with fail
          refine (csame_is HX_7.out HC_7.out).mono ?_
          rintro e w8 ⟨rfl, b8⟩
          have d8 : Below w7.heap.size w7 w8 := (Below.trans (by go_grown) (b8.mono (by first | omega | (simp; done) | (simp; omega))))
          have c8 : Below w.heap.size w w8 := c7.trans (d8.mono c7.size)
          have c0_8 : w8.cell? ⟨w1.heap.size, 0, none⟩ = some (.slice io I.length ic) := (by rw [b8.cell (by first | omega | (simp; done) | (simp; omega))]; go_cell)
          have c1_8 : w8.cell? ⟨w1.heap.size, 1, none⟩ = some (.slice fo F.length fc) := (by rw [b8.cell (by first | omega | (simp; done) | (simp; omega))]; go_cell)
          have cl_8 : w1.heap.size < w8.heap.size := (by have := b8.size; first | omega | (revert this; simp; done) | (revert this; simp; omega))
          have x0_8 : w8.cell? ⟨w3.heap.size, 0, none⟩ = some (.slice xo I.length xc) := (by rw [b8.cell (by first | omega | (simp; done) | (simp; omega))]; go_cell)
          have x1_8 : w8.cell? ⟨w3.heap.size, 1, none⟩ = some (.slice xg F.length xd) := (by rw [b8.cell (by first | omega | (simp; done) | (simp; omega))]; go_cell)
          have xl_8 : w3.heap.size < w8.heap.size := (by have := b8.size; first | omega | (revert this; simp; done) | (revert this; simp; omega))
          clear c0_7 c1_7 cl_7 x0_7 x1_7 xl_7
          have HC_8 := hid (HC_7.out.later d8)
          have HX_8 := hid (HX_7.out.later d8)
          clear d8 b8 HC_7 HX_7
          go_wp2
          go_ret
          exact ⟨by simp, (by first | exact c8 | exact Below.trans c8 (Below.mono (by go_grown) c8.size))⟩
        · have n1 : key ≥ 24 := by omega
          clear hin
          go_wp2_with fail
          refine (OK _ _ _ HC_6.out).mono ?_
          rintro e w7 ⟨rfl, b7⟩
          have d7 : Below w6.heap.size w6 w7 := (Below.trans (by go_grown) (b7.mono (by first | omega | (simp; done) | (simp; omega))))
          have c7 : Below w.heap.size w w7 := c6.trans (d7.mono c6.size)
          have c0_7 : w7.cell? ⟨w1.heap.size, 0, none⟩ = some (.slice io I.length ic) := (by rw [b7.cell (by first | omega | (simp; done) | (simp; omega))]; go_cell)
          have c1_7 : w7.cell? ⟨w1.heap.size, 1, none⟩ = some (.slice fo F.length fc) := (by rw [b7.cell (by first | omega | (simp; done) | (simp; omega))]; go_cell)
          have cl_7 : w1.heap.size < w7.heap.size := (by have := b7.size; first | omega | (revert this; simp; done) | (revert this; simp; omega))
          have x0_7 : w7.cell? ⟨w3.heap.size, 0, none⟩ = some (.slice xo I.length xc) := (by rw [b7.cell (by first | omega | (simp; done) | (simp; omega))]; go_cell)
          have x1_7 : w7.cell? ⟨w3.heap.size, 1, none⟩ = some (.slice xg F.length xd) := (by rw [b7.cell (by first | omega | (simp; done) | (simp; omega))]; go_cell)
          have xl_7 : w3.heap.size < w7.heap.size := (by have := b7.size; first | omega | (revert this; simp; done) | (revert this; simp; omega))
          clear c0_6 c1_6 cl_6 x0_6 x1_6 xl_6
          have HC_7 := hid (HC_6.out.later d7)
          have HX_7 := hid (HX_6.out.later d7)
          clear d7 b7 HC_6 HX_6
          go_wp2_with fail
          refine (csame_is HX_7.out HC_7.out).mono ?_
          rintro e w8 ⟨rfl, b8⟩
          have d8 : Below w7.heap.size w7 w8 := (Below.trans (by go_grown) (b8.mono (by first | omega | (simp; done) | (simp; omega))))
          have c8 : Below w.heap.size w w8 := c7.trans (d8.mono c7.size)
          have c0_8 : w8.cell? ⟨w1.heap.size, 0, none⟩ = some (.slice io I.length ic) := (by rw [b8.cell (by first | omega | (simp; done) | (simp; omega))]; go_cell)
          have c1_8 : w8.cell? ⟨w1.heap.size, 1, none⟩ = some (.slice fo F.length fc) := (by rw [b8.cell (by first | omega | (simp; done) | (simp; omega))]; go_cell)
          have cl_8 : w1.heap.size < w8.heap.size := (by have := b8.size; first | omega | (revert this; simp; done) | (revert this; simp; omega))
          have x0_8 : w8.cell? ⟨w3.heap.size, 0, none⟩ = some (.slice xo I.length xc) := (by rw [b8.cell (by first | omega | (simp; done) | (simp; omega))]; go_cell)
          have x1_8 : w8.cell? ⟨w3.heap.size, 1, none⟩ = some (.slice xg F.length xd) := (by rw [b8.cell (by first | omega | (simp; done) | (simp; omega))]; go_cell)
          have xl_8 : w3.heap.size < w8.heap.size := (by have := b8.size; first | omega | (revert this; simp; done) | (revert this; simp; omega))
          clear c0_7 c1_7 cl_7 x0_7 x1_7 xl_7
          have HC_8 := hid (HC_7.out.later d8)
          have HX_8 := hid (HX_7.out.later d8)
          clear d8 b8 HC_7 HX_7
          go_wp2
          go_ret
          exact ⟨by simp, (by first | exact c8 | exact Below.trans c8 (Below.mono (by go_grown) c8.size))⟩
end Go.Proofs.Ytiebfechhgapiaa
