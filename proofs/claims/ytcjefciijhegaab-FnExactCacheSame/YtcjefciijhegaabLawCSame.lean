/- The law FnExactCacheSame: its walk. Written by a program (glaw.py). -/
import Derived.Test.YtcjefciijhegaabCb
import Derived.Deep.Cut
namespace Go.Proofs.Ytcjefciijhegaab
open Go.RowKit
attribute [local go_sem ↓] Go.wp_at_zero Go.wp_at_succ

set_option maxRecDepth 100000 in
set_option maxHeartbeats 4000000 in
theorem lawCSame_any (va0 va1 : Value) (A0 A1 : List KD) (vb0 vb1 : Value) (B0 B1 : List KD) (w : World) (ha : RSCache w va0 va1 A0 A1) (hb : RSCache w vb0 vb1 B0 B1) :
    Calls Try.prog 4 #[.agg #[va0, va1], .agg #[vb0, vb1]] w fun e w' => e = .returned (.bool true) ∧ Below w.heap.size w w' := by
  have HA := hid ha
  obtain ⟨ao0, ao1, ac0, ac1, rfl, rfl⟩ := ha.open
  have HB := hid hb
  obtain ⟨bo0, bo1, bc0, bc1, rfl, rfl⟩ := hb.open
  go_enter Try.func4, Try.ntmps4
  go_wp2_with fail
  have a0_1 : ((w.alloc (.cells #[.slice ao0 A0.length ac0, .slice ao1 A1.length ac1] 25)).alloc (.cells #[.slice bo0 B0.length bc0, .slice bo1 B1.length bc1] 25)).cell? ⟨w.heap.size, 0, none⟩ = some (.slice ao0 A0.length ac0) := by go_cell
  have a1_1 : ((w.alloc (.cells #[.slice ao0 A0.length ac0, .slice ao1 A1.length ac1] 25)).alloc (.cells #[.slice bo0 B0.length bc0, .slice bo1 B1.length bc1] 25)).cell? ⟨w.heap.size, 1, none⟩ = some (.slice ao1 A1.length ac1) := by go_cell
  have al_1 : w.heap.size < ((w.alloc (.cells #[.slice ao0 A0.length ac0, .slice ao1 A1.length ac1] 25)).alloc (.cells #[.slice bo0 B0.length bc0, .slice bo1 B1.length bc1] 25)).heap.size := by first | (simp; done) | (simp; omega)
  have b0_1 : ((w.alloc (.cells #[.slice ao0 A0.length ac0, .slice ao1 A1.length ac1] 25)).alloc (.cells #[.slice bo0 B0.length bc0, .slice bo1 B1.length bc1] 25)).cell? ⟨w.heap.size + 1, 0, none⟩ = some (.slice bo0 B0.length bc0) := by go_cell
  have b1_1 : ((w.alloc (.cells #[.slice ao0 A0.length ac0, .slice ao1 A1.length ac1] 25)).alloc (.cells #[.slice bo0 B0.length bc0, .slice bo1 B1.length bc1] 25)).cell? ⟨w.heap.size + 1, 1, none⟩ = some (.slice bo1 B1.length bc1) := by go_cell
  have bl_1 : w.heap.size + 1 < ((w.alloc (.cells #[.slice ao0 A0.length ac0, .slice ao1 A1.length ac1] 25)).alloc (.cells #[.slice bo0 B0.length bc0, .slice bo1 B1.length bc1] 25)).heap.size := by first | (simp; done) | (simp; omega)
  have c1 : Below w.heap.size w ((w.alloc (.cells #[.slice ao0 A0.length ac0, .slice ao1 A1.length ac1] 25)).alloc (.cells #[.slice bo0 B0.length bc0, .slice bo1 B1.length bc1] 25)) := by go_grown
  have s1 : ((w.alloc (.cells #[.slice ao0 A0.length ac0, .slice ao1 A1.length ac1] 25)).alloc (.cells #[.slice bo0 B0.length bc0, .slice bo1 B1.length bc1] 25)).heap.size = w.heap.size + 2 := by simp
  generalize ((w.alloc (.cells #[.slice ao0 A0.length ac0, .slice ao1 A1.length ac1] 25)).alloc (.cells #[.slice bo0 B0.length bc0, .slice bo1 B1.length bc1] 25)) = w1 at a0_1 a1_1 al_1 b0_1 b1_1 bl_1 c1 s1 ⊢
  have qa0_1 := cell_regrown a0_1
  have qa1_1 := cell_regrown a1_1
  have qb0_1 := cell_regrown b0_1
  have qb1_1 := cell_regrown b1_1
  refine (szCache_rd _ _ A0 A1 _ _ (HA.out.later c1) (by omega) (by omega)).mono ?_
  rintro e w2 ⟨hs, b2⟩
  have d2 : Below w1.heap.size w1 w2 := (Below.trans (by go_grown) (b2.mono (by first | omega | (simp; done) | (simp; omega))))
  have c2 : Below w.heap.size w w2 := c1.trans (d2.mono c1.size)
  have a0_2 : w2.cell? ⟨w.heap.size, 0, none⟩ = some (.slice ao0 A0.length ac0) := (by rw [b2.cell (by first | omega | (simp; done) | (simp; omega))]; go_cell)
  have a1_2 : w2.cell? ⟨w.heap.size, 1, none⟩ = some (.slice ao1 A1.length ac1) := (by rw [b2.cell (by first | omega | (simp; done) | (simp; omega))]; go_cell)
  have al_2 : w.heap.size < w2.heap.size := (by have := b2.size; first | omega | (revert this; simp; done) | (revert this; simp; omega))
  have b0_2 : w2.cell? ⟨w.heap.size + 1, 0, none⟩ = some (.slice bo0 B0.length bc0) := (by rw [b2.cell (by first | omega | (simp; done) | (simp; omega))]; go_cell)
  have b1_2 : w2.cell? ⟨w.heap.size + 1, 1, none⟩ = some (.slice bo1 B1.length bc1) := (by rw [b2.cell (by first | omega | (simp; done) | (simp; omega))]; go_cell)
  have bl_2 : w.heap.size + 1 < w2.heap.size := (by have := b2.size; first | omega | (revert this; simp; done) | (revert this; simp; omega))
  clear a0_1 a1_1 al_1 b0_1 b1_1 bl_1
  clear b2 d2
  rcases hs with ⟨r, rfl, hr0, hr1, hA⟩ | rfl
  · have HLA := hid hA
    have hr2 : ¬ (r < 0) := by omega
    clear hA
    go_wp2_with fail
    refine (szCache_rd _ _ B0 B1 _ _ (HB.out.later c2) (by omega) (by omega)).mono ?_
    rintro e w3 ⟨hs, b3⟩
    have d3 : Below w2.heap.size w2 w3 := (Below.trans (by go_grown) (b3.mono (by first | omega | (simp; done) | (simp; omega))))
    have c3 : Below w.heap.size w w3 := c2.trans (d3.mono c2.size)
    have a0_3 : w3.cell? ⟨w.heap.size, 0, none⟩ = some (.slice ao0 A0.length ac0) := (by rw [b3.cell (by first | omega | (simp; done) | (simp; omega))]; go_cell)
    have a1_3 : w3.cell? ⟨w.heap.size, 1, none⟩ = some (.slice ao1 A1.length ac1) := (by rw [b3.cell (by first | omega | (simp; done) | (simp; omega))]; go_cell)
    have al_3 : w.heap.size < w3.heap.size := (by have := b3.size; first | omega | (revert this; simp; done) | (revert this; simp; omega))
    have b0_3 : w3.cell? ⟨w.heap.size + 1, 0, none⟩ = some (.slice bo0 B0.length bc0) := (by rw [b3.cell (by first | omega | (simp; done) | (simp; omega))]; go_cell)
    have b1_3 : w3.cell? ⟨w.heap.size + 1, 1, none⟩ = some (.slice bo1 B1.length bc1) := (by rw [b3.cell (by first | omega | (simp; done) | (simp; omega))]; go_cell)
    have bl_3 : w.heap.size + 1 < w3.heap.size := (by have := b3.size; first | omega | (revert this; simp; done) | (revert this; simp; omega))
    clear a0_2 a1_2 al_2 b0_2 b1_2 bl_2
    clear b3 d3
    rcases hs with ⟨q, rfl, hq0, hq1, hB⟩ | rfl
    · have HLB := hid hB
      have hq2 : ¬ (q < 0) := by omega
      clear hB
      go_wp2_with fail
      go_upto_region 8 with fail
      go_cut [6] from 10 (fun s wx => s = .bool (eqM A0 B0 && eqM A1 B1) ∧ Below w3.heap.size w3 wx)
      case first =>
        go_region_with (first
          | (go_at_call 11; first
            | (have zz := a0_3; clear zz; refine (toCache_rd (.slice ao0 A0.length ac0) (.slice ao1 A1.length ac1) A0 A1 _ (HA.out.later (c3.drew)) HLA.out).mono ?_; rintro e w4 ⟨⟨xo0, xo1, xc0, xc1, rfl, oa⟩, b4⟩; have OA4 := hid oa; clear oa; have d4 : Below w3.heap.size w3 w4 := (Below.trans (by go_grown) (b4.mono (by first | omega | (simp; done) | (simp; omega)))); have c4 : Below w.heap.size w w4 := c3.trans (d4.mono c3.size); have a0_4 : w4.cell? ⟨w.heap.size, 0, none⟩ = some (.slice ao0 A0.length ac0) := (by rw [b4.cell (by first | omega | (simp; done) | (simp; omega))]; go_cell); have a1_4 : w4.cell? ⟨w.heap.size, 1, none⟩ = some (.slice ao1 A1.length ac1) := (by rw [b4.cell (by first | omega | (simp; done) | (simp; omega))]; go_cell); have al_4 : w.heap.size < w4.heap.size := (by have := b4.size; first | omega | (revert this; simp; done) | (revert this; simp; omega)); have b0_4 : w4.cell? ⟨w.heap.size + 1, 0, none⟩ = some (.slice bo0 B0.length bc0) := (by rw [b4.cell (by first | omega | (simp; done) | (simp; omega))]; go_cell); have b1_4 : w4.cell? ⟨w.heap.size + 1, 1, none⟩ = some (.slice bo1 B1.length bc1) := (by rw [b4.cell (by first | omega | (simp; done) | (simp; omega))]; go_cell); have bl_4 : w.heap.size + 1 < w4.heap.size := (by have := b4.size; first | omega | (revert this; simp; done) | (revert this; simp; omega)); clear a0_3 a1_3 al_3 b0_3 b1_3 bl_3)
            | (refine (toCache_rd (.slice bo0 B0.length bc0) (.slice bo1 B1.length bc1) B0 B1 _ (HB.out.later c4) HLB.out).mono ?_; rintro e w5 ⟨⟨yo0, yo1, yc0, yc1, rfl, oa⟩, b5⟩; have OB5 := hid oa; clear oa; have d5 : Below w4.heap.size w4 w5 := (Below.trans (by go_grown) (b5.mono (by first | omega | (simp; done) | (simp; omega)))); have c5 : Below w.heap.size w w5 := c4.trans (d5.mono c4.size)))
          | (go_at_call 14; refine (specCSame_any _ _ _ _ A0 A1 B0 B1 _ (OA4.out.later d5).h0 (OA4.out.later d5).h1 OB5.out.h0 OB5.out.h1).mono ?_; rintro e w6 ⟨rfl, b6⟩; have d6 : Below w5.heap.size w5 w6 := (Below.trans (by go_grown) (b6.mono (by first | omega | (simp; done) | (simp; omega)))); have c6 : Below w.heap.size w w6 := c5.trans (d6.mono c5.size)))
        all_goals
          go_wp2_with fail
          go_meet
          exact ⟨rfl, (d4.trans (d5.mono d4.size)).trans (d6.mono (Nat.le_trans d4.size d5.size))⟩
      case rest =>
        obtain ⟨rfl, b4⟩ := hcut
        obtain ⟨w4, hw4⟩ : ∃ x, x = wc := ⟨_, rfl⟩
        subst hw4
        have d4 : Below w3.heap.size w3 w4 := (Below.trans (by go_grown) (b4.mono (by first | omega | (simp; done) | (simp; omega))))
        have c4 : Below w.heap.size w w4 := c3.trans (d4.mono c3.size)
        have a0_4 : w4.cell? ⟨w.heap.size, 0, none⟩ = some (.slice ao0 A0.length ac0) := (by rw [b4.cell (by first | omega | (simp; done) | (simp; omega))]; go_cell)
        have a1_4 : w4.cell? ⟨w.heap.size, 1, none⟩ = some (.slice ao1 A1.length ac1) := (by rw [b4.cell (by first | omega | (simp; done) | (simp; omega))]; go_cell)
        have al_4 : w.heap.size < w4.heap.size := (by have := b4.size; first | omega | (revert this; simp; done) | (revert this; simp; omega))
        have b0_4 : w4.cell? ⟨w.heap.size + 1, 0, none⟩ = some (.slice bo0 B0.length bc0) := (by rw [b4.cell (by first | omega | (simp; done) | (simp; omega))]; go_cell)
        have b1_4 : w4.cell? ⟨w.heap.size + 1, 1, none⟩ = some (.slice bo1 B1.length bc1) := (by rw [b4.cell (by first | omega | (simp; done) | (simp; omega))]; go_cell)
        have bl_4 : w.heap.size + 1 < w4.heap.size := (by have := b4.size; first | omega | (revert this; simp; done) | (revert this; simp; omega))
        clear a0_3 a1_3 al_3 b0_3 b1_3 bl_3
        clear b4 d4
        go_wp2_with fail
        refine (toCache_rd _ _ A0 A1 _ (HA.out.later c4) HLA.out).mono ?_
        rintro e w5 ⟨⟨po0, po1, pc0, pc1, rfl, oa⟩, b5⟩
        have OC5 := hid oa
        clear oa
        have d5 : Below w4.heap.size w4 w5 := (Below.trans (by go_grown) (b5.mono (by first | omega | (simp; done) | (simp; omega))))
        have c5 : Below w.heap.size w w5 := c4.trans (d5.mono c4.size)
        have a0_5 : w5.cell? ⟨w.heap.size, 0, none⟩ = some (.slice ao0 A0.length ac0) := (by rw [b5.cell (by first | omega | (simp; done) | (simp; omega))]; go_cell)
        have a1_5 : w5.cell? ⟨w.heap.size, 1, none⟩ = some (.slice ao1 A1.length ac1) := (by rw [b5.cell (by first | omega | (simp; done) | (simp; omega))]; go_cell)
        have al_5 : w.heap.size < w5.heap.size := (by have := b5.size; first | omega | (revert this; simp; done) | (revert this; simp; omega))
        have b0_5 : w5.cell? ⟨w.heap.size + 1, 0, none⟩ = some (.slice bo0 B0.length bc0) := (by rw [b5.cell (by first | omega | (simp; done) | (simp; omega))]; go_cell)
        have b1_5 : w5.cell? ⟨w.heap.size + 1, 1, none⟩ = some (.slice bo1 B1.length bc1) := (by rw [b5.cell (by first | omega | (simp; done) | (simp; omega))]; go_cell)
        have bl_5 : w.heap.size + 1 < w5.heap.size := (by have := b5.size; first | omega | (revert this; simp; done) | (revert this; simp; omega))
        clear a0_4 a1_4 al_4 b0_4 b1_4 bl_4
        clear b5 d5
        go_wp2_with fail
        have x0_6 : (w5.alloc (.cells #[.slice po0 A0.length pc0, .slice po1 A1.length pc1] 30)).cell? ⟨w5.heap.size, 0, none⟩ = some (.slice po0 A0.length pc0) := by go_cell
        have x1_6 : (w5.alloc (.cells #[.slice po0 A0.length pc0, .slice po1 A1.length pc1] 30)).cell? ⟨w5.heap.size, 1, none⟩ = some (.slice po1 A1.length pc1) := by go_cell
        have xl_6 : w5.heap.size < (w5.alloc (.cells #[.slice po0 A0.length pc0, .slice po1 A1.length pc1] 30)).heap.size := by simp
        have d6 : Below w5.heap.size w5 (w5.alloc (.cells #[.slice po0 A0.length pc0, .slice po1 A1.length pc1] 30)) := by go_grown
        generalize (w5.alloc (.cells #[.slice po0 A0.length pc0, .slice po1 A1.length pc1] 30)) = w6 at x0_6 x1_6 xl_6 d6 ⊢
        have c6 : Below w.heap.size w w6 := c5.trans (d6.mono c5.size)
        have a0_6 : w6.cell? ⟨w.heap.size, 0, none⟩ = some (.slice ao0 A0.length ac0) := (by rw [d6.cell (by first | omega | (simp; done) | (simp; omega))]; go_cell)
        have a1_6 : w6.cell? ⟨w.heap.size, 1, none⟩ = some (.slice ao1 A1.length ac1) := (by rw [d6.cell (by first | omega | (simp; done) | (simp; omega))]; go_cell)
        have al_6 : w.heap.size < w6.heap.size := (by have := d6.size; omega)
        have b0_6 : w6.cell? ⟨w.heap.size + 1, 0, none⟩ = some (.slice bo0 B0.length bc0) := (by rw [d6.cell (by first | omega | (simp; done) | (simp; omega))]; go_cell)
        have b1_6 : w6.cell? ⟨w.heap.size + 1, 1, none⟩ = some (.slice bo1 B1.length bc1) := (by rw [d6.cell (by first | omega | (simp; done) | (simp; omega))]; go_cell)
        have bl_6 : w.heap.size + 1 < w6.heap.size := (by have := d6.size; omega)
        clear a0_5 a1_5 al_5 b0_5 b1_5 bl_5
        have OC6 := hid (OC5.out.later d6)
        clear d6
        refine (toCache_rd _ _ B0 B1 _ (HB.out.later c6) HLB.out).mono ?_
        rintro e w7 ⟨⟨qo0, qo1, qc0, qc1, rfl, oa⟩, b7⟩
        have OD7 := hid oa
        clear oa
        have d7 : Below w6.heap.size w6 w7 := (Below.trans (by go_grown) (b7.mono (by first | omega | (simp; done) | (simp; omega))))
        have c7 : Below w.heap.size w w7 := c6.trans (d7.mono c6.size)
        have a0_7 : w7.cell? ⟨w.heap.size, 0, none⟩ = some (.slice ao0 A0.length ac0) := (by rw [b7.cell (by first | omega | (simp; done) | (simp; omega))]; go_cell)
        have a1_7 : w7.cell? ⟨w.heap.size, 1, none⟩ = some (.slice ao1 A1.length ac1) := (by rw [b7.cell (by first | omega | (simp; done) | (simp; omega))]; go_cell)
        have al_7 : w.heap.size < w7.heap.size := (by have := b7.size; first | omega | (revert this; simp; done) | (revert this; simp; omega))
        have b0_7 : w7.cell? ⟨w.heap.size + 1, 0, none⟩ = some (.slice bo0 B0.length bc0) := (by rw [b7.cell (by first | omega | (simp; done) | (simp; omega))]; go_cell)
        have b1_7 : w7.cell? ⟨w.heap.size + 1, 1, none⟩ = some (.slice bo1 B1.length bc1) := (by rw [b7.cell (by first | omega | (simp; done) | (simp; omega))]; go_cell)
        have bl_7 : w.heap.size + 1 < w7.heap.size := (by have := b7.size; first | omega | (revert this; simp; done) | (revert this; simp; omega))
        have x0_7 : w7.cell? ⟨w5.heap.size, 0, none⟩ = some (.slice po0 A0.length pc0) := (by rw [b7.cell (by first | omega | (simp; done) | (simp; omega))]; go_cell)
        have x1_7 : w7.cell? ⟨w5.heap.size, 1, none⟩ = some (.slice po1 A1.length pc1) := (by rw [b7.cell (by first | omega | (simp; done) | (simp; omega))]; go_cell)
        have xl_7 : w5.heap.size < w7.heap.size := (by have := b7.size; first | omega | (revert this; simp; done) | (revert this; simp; omega))
        clear a0_6 a1_6 al_6 b0_6 b1_6 bl_6 x0_6 x1_6 xl_6
        have OC7 := hid (OC6.out.later d7)
        clear b7 d7
        go_wp2_with fail
        have y0_8 : (w7.alloc (.cells #[.slice qo0 B0.length qc0, .slice qo1 B1.length qc1] 30)).cell? ⟨w7.heap.size, 0, none⟩ = some (.slice qo0 B0.length qc0) := by go_cell
        have y1_8 : (w7.alloc (.cells #[.slice qo0 B0.length qc0, .slice qo1 B1.length qc1] 30)).cell? ⟨w7.heap.size, 1, none⟩ = some (.slice qo1 B1.length qc1) := by go_cell
        have yl_8 : w7.heap.size < (w7.alloc (.cells #[.slice qo0 B0.length qc0, .slice qo1 B1.length qc1] 30)).heap.size := by simp
        have d8 : Below w7.heap.size w7 (w7.alloc (.cells #[.slice qo0 B0.length qc0, .slice qo1 B1.length qc1] 30)) := by go_grown
        generalize (w7.alloc (.cells #[.slice qo0 B0.length qc0, .slice qo1 B1.length qc1] 30)) = w8 at y0_8 y1_8 yl_8 d8 ⊢
        have c8 : Below w.heap.size w w8 := c7.trans (d8.mono c7.size)
        have a0_8 : w8.cell? ⟨w.heap.size, 0, none⟩ = some (.slice ao0 A0.length ac0) := (by rw [d8.cell (by first | omega | (simp; done) | (simp; omega))]; go_cell)
        have a1_8 : w8.cell? ⟨w.heap.size, 1, none⟩ = some (.slice ao1 A1.length ac1) := (by rw [d8.cell (by first | omega | (simp; done) | (simp; omega))]; go_cell)
        have al_8 : w.heap.size < w8.heap.size := (by have := d8.size; omega)
        have b0_8 : w8.cell? ⟨w.heap.size + 1, 0, none⟩ = some (.slice bo0 B0.length bc0) := (by rw [d8.cell (by first | omega | (simp; done) | (simp; omega))]; go_cell)
        have b1_8 : w8.cell? ⟨w.heap.size + 1, 1, none⟩ = some (.slice bo1 B1.length bc1) := (by rw [d8.cell (by first | omega | (simp; done) | (simp; omega))]; go_cell)
        have bl_8 : w.heap.size + 1 < w8.heap.size := (by have := d8.size; omega)
        have x0_8 : w8.cell? ⟨w5.heap.size, 0, none⟩ = some (.slice po0 A0.length pc0) := (by rw [d8.cell (by first | omega | (simp; done) | (simp; omega))]; go_cell)
        have x1_8 : w8.cell? ⟨w5.heap.size, 1, none⟩ = some (.slice po1 A1.length pc1) := (by rw [d8.cell (by first | omega | (simp; done) | (simp; omega))]; go_cell)
        have xl_8 : w5.heap.size < w8.heap.size := (by have := d8.size; omega)
        clear a0_7 a1_7 al_7 b0_7 b1_7 bl_7 x0_7 x1_7 xl_7
        have OC8 := hid (OC7.out.later d8)
        have OD8 := hid (OD7.out.later d8)
        clear d8
        refine (implCSame_any _ _ _ _ A0 A1 B0 B1 _ OC8.out.h0 OC8.out.h1 OD8.out.h0 OD8.out.h1).mono ?_
        rintro e w9 ⟨rfl, b9⟩
        have d9 : Below w8.heap.size w8 w9 := (Below.trans (by go_grown) (b9.mono (by first | omega | (simp; done) | (simp; omega))))
        have c9 : Below w.heap.size w w9 := c8.trans (d9.mono c8.size)
        have a0_9 : w9.cell? ⟨w.heap.size, 0, none⟩ = some (.slice ao0 A0.length ac0) := (by rw [b9.cell (by first | omega | (simp; done) | (simp; omega))]; go_cell)
        have a1_9 : w9.cell? ⟨w.heap.size, 1, none⟩ = some (.slice ao1 A1.length ac1) := (by rw [b9.cell (by first | omega | (simp; done) | (simp; omega))]; go_cell)
        have al_9 : w.heap.size < w9.heap.size := (by have := b9.size; first | omega | (revert this; simp; done) | (revert this; simp; omega))
        have b0_9 : w9.cell? ⟨w.heap.size + 1, 0, none⟩ = some (.slice bo0 B0.length bc0) := (by rw [b9.cell (by first | omega | (simp; done) | (simp; omega))]; go_cell)
        have b1_9 : w9.cell? ⟨w.heap.size + 1, 1, none⟩ = some (.slice bo1 B1.length bc1) := (by rw [b9.cell (by first | omega | (simp; done) | (simp; omega))]; go_cell)
        have bl_9 : w.heap.size + 1 < w9.heap.size := (by have := b9.size; first | omega | (revert this; simp; done) | (revert this; simp; omega))
        have x0_9 : w9.cell? ⟨w5.heap.size, 0, none⟩ = some (.slice po0 A0.length pc0) := (by rw [b9.cell (by first | omega | (simp; done) | (simp; omega))]; go_cell)
        have x1_9 : w9.cell? ⟨w5.heap.size, 1, none⟩ = some (.slice po1 A1.length pc1) := (by rw [b9.cell (by first | omega | (simp; done) | (simp; omega))]; go_cell)
        have xl_9 : w5.heap.size < w9.heap.size := (by have := b9.size; first | omega | (revert this; simp; done) | (revert this; simp; omega))
        have y0_9 : w9.cell? ⟨w7.heap.size, 0, none⟩ = some (.slice qo0 B0.length qc0) := (by rw [b9.cell (by first | omega | (simp; done) | (simp; omega))]; go_cell)
        have y1_9 : w9.cell? ⟨w7.heap.size, 1, none⟩ = some (.slice qo1 B1.length qc1) := (by rw [b9.cell (by first | omega | (simp; done) | (simp; omega))]; go_cell)
        have yl_9 : w7.heap.size < w9.heap.size := (by have := b9.size; first | omega | (revert this; simp; done) | (revert this; simp; omega))
        clear a0_8 a1_8 al_8 b0_8 b1_8 bl_8 x0_8 x1_8 xl_8 y0_8 y1_8 yl_8
        have OC9 := hid (OC8.out.later d9)
        have OD9 := hid (OD8.out.later d9)
        clear b9 d9
        go_upto_region 14 with fail
        go_cut [39] from 10 (fun s wx => s = .bool false ∧ Below w9.heap.size w9 wx)
        case first =>
          go_region_with (first
            | (go_at_call 11; refine (toCache_rd (.slice ao0 A0.length ac0) (.slice ao1 A1.length ac1) A0 A1 _ (HA.out.later (c9.drew)) HLA.out).mono ?_; rintro e w10 ⟨⟨zo0, zo1, zc0, zc1, rfl, oa⟩, b10⟩; have OE10 := hid oa; clear oa; have d10 : Below w9.heap.size w9 w10 := (Below.trans (by go_grown) (b10.mono (by first | omega | (simp; done) | (simp; omega)))); have c10 : Below w.heap.size w w10 := c9.trans (d10.mono c9.size); have x0_10 : w10.cell? ⟨w5.heap.size, 0, none⟩ = some (.slice po0 A0.length pc0) := (by rw [b10.cell (by first | omega | (simp; done) | (simp; omega))]; go_cell); have x1_10 : w10.cell? ⟨w5.heap.size, 1, none⟩ = some (.slice po1 A1.length pc1) := (by rw [b10.cell (by first | omega | (simp; done) | (simp; omega))]; go_cell); have xl_10 : w5.heap.size < w10.heap.size := (by have := b10.size; first | omega | (revert this; simp; done) | (revert this; simp; omega)); clear x0_9 x1_9 xl_9)
            | (go_at_call 13; refine (eqCache_rd _ _ _ _ A0 A1 _ (OC9.out.later d10) OE10.out).mono ?_; rintro e w11 ⟨rfl, b11⟩; have d11 : Below w10.heap.size w10 w11 := (Below.trans (by go_grown) (b11.mono (by first | omega | (simp; done) | (simp; omega)))); have c11 : Below w.heap.size w w11 := c10.trans (d11.mono c10.size)))
          all_goals
            go_wp2_with fail
            go_meet
            exact ⟨rfl, d10.trans (d11.mono d10.size)⟩
        case rest =>
          obtain ⟨rfl, b10⟩ := hcut
          obtain ⟨w10, hw10⟩ : ∃ x, x = wc := ⟨_, rfl⟩
          subst hw10
          have d10 : Below w9.heap.size w9 w10 := (Below.trans (by go_grown) (b10.mono (by first | omega | (simp; done) | (simp; omega))))
          have c10 : Below w.heap.size w w10 := c9.trans (d10.mono c9.size)
          have b0_10 : w10.cell? ⟨w.heap.size + 1, 0, none⟩ = some (.slice bo0 B0.length bc0) := (by rw [b10.cell (by first | omega | (simp; done) | (simp; omega))]; go_cell)
          have b1_10 : w10.cell? ⟨w.heap.size + 1, 1, none⟩ = some (.slice bo1 B1.length bc1) := (by rw [b10.cell (by first | omega | (simp; done) | (simp; omega))]; go_cell)
          have bl_10 : w.heap.size + 1 < w10.heap.size := (by have := b10.size; first | omega | (revert this; simp; done) | (revert this; simp; omega))
          have y0_10 : w10.cell? ⟨w7.heap.size, 0, none⟩ = some (.slice qo0 B0.length qc0) := (by rw [b10.cell (by first | omega | (simp; done) | (simp; omega))]; go_cell)
          have y1_10 : w10.cell? ⟨w7.heap.size, 1, none⟩ = some (.slice qo1 B1.length qc1) := (by rw [b10.cell (by first | omega | (simp; done) | (simp; omega))]; go_cell)
          have yl_10 : w7.heap.size < w10.heap.size := (by have := b10.size; first | omega | (revert this; simp; done) | (revert this; simp; omega))
          clear b0_9 b1_9 bl_9 y0_9 y1_9 yl_9
          have OD10 := hid (OD9.out.later d10)
          clear b10 d10
          go_upto_region 16 with fail
          go_cut [44] from 10 (fun s wx => s = .bool false ∧ Below w10.heap.size w10 wx)
          case first =>
            go_region_with (first
              | (go_at_call 11; refine (toCache_rd (.slice bo0 B0.length bc0) (.slice bo1 B1.length bc1) B0 B1 _ (HB.out.later (c10.drew)) HLB.out).mono ?_; rintro e w11 ⟨⟨zo0, zo1, zc0, zc1, rfl, oa⟩, b11⟩; have OE11 := hid oa; clear oa; have d11 : Below w10.heap.size w10 w11 := (Below.trans (by go_grown) (b11.mono (by first | omega | (simp; done) | (simp; omega)))); have c11 : Below w.heap.size w w11 := c10.trans (d11.mono c10.size); have y0_11 : w11.cell? ⟨w7.heap.size, 0, none⟩ = some (.slice qo0 B0.length qc0) := (by rw [b11.cell (by first | omega | (simp; done) | (simp; omega))]; go_cell); have y1_11 : w11.cell? ⟨w7.heap.size, 1, none⟩ = some (.slice qo1 B1.length qc1) := (by rw [b11.cell (by first | omega | (simp; done) | (simp; omega))]; go_cell); have yl_11 : w7.heap.size < w11.heap.size := (by have := b11.size; first | omega | (revert this; simp; done) | (revert this; simp; omega)); clear y0_10 y1_10 yl_10)
              | (go_at_call 13; refine (eqCache_rd _ _ _ _ B0 B1 _ (OD10.out.later d11) OE11.out).mono ?_; rintro e w12 ⟨rfl, b12⟩; have d12 : Below w11.heap.size w11 w12 := (Below.trans (by go_grown) (b12.mono (by first | omega | (simp; done) | (simp; omega)))); have c12 : Below w.heap.size w w12 := c11.trans (d12.mono c11.size)))
            all_goals
              go_wp2_with fail
              go_meet
              exact ⟨rfl, d11.trans (d12.mono d11.size)⟩
          case rest =>
            obtain ⟨rfl, b12⟩ := hcut
            have c12 := c10.trans (b12.mono c10.size)
            clear b12
            go_wp2
            go_ret
            exact ⟨by simp, c12⟩
    · go_wp2
      go_ret
      exact ⟨by simp, c3⟩
  · go_wp2
    go_ret
    exact ⟨by simp, c2⟩
end Go.Proofs.Ytcjefciijhegaab
