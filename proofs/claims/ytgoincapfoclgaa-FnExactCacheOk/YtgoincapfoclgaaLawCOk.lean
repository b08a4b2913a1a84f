/- The law FnExactCacheOk: its walk. Written by a program (glaw.py). -/
import Derived.Test.YtgoincapfoclgaaXl
import Derived.Deep.Cut
namespace Go.Proofs.Ytgoincapfoclgaa
open Go.RowKit
attribute [local go_sem ↓] Go.wp_at_zero Go.wp_at_succ

set_option maxRecDepth 100000 in
set_option maxHeartbeats 4000000 in
theorem lawCOk_any (va0 va1 : Value) (A0 A1 : List KD) (w : World) (ha : RSCache w va0 va1 A0 A1) :
    Calls Try.prog 3 #[.agg #[va0, va1]] w fun e w' => e = .returned (.bool true) ∧ Below w.heap.size w w' := by
  have HA := hid ha
  obtain ⟨ao0, ao1, ac0, ac1, rfl, rfl⟩ := ha.open
  go_enter Try.func3, Try.ntmps3
  go_wp2_with fail
  have a0_1 : (w.alloc (.cells #[.slice ao0 A0.length ac0, .slice ao1 A1.length ac1] 25)).cell? ⟨w.heap.size, 0, none⟩ = some (.slice ao0 A0.length ac0) := by go_cell
  have a1_1 : (w.alloc (.cells #[.slice ao0 A0.length ac0, .slice ao1 A1.length ac1] 25)).cell? ⟨w.heap.size, 1, none⟩ = some (.slice ao1 A1.length ac1) := by go_cell
  have al_1 : w.heap.size < (w.alloc (.cells #[.slice ao0 A0.length ac0, .slice ao1 A1.length ac1] 25)).heap.size := by first | (simp; done) | (simp; omega)
  have c1 : Below w.heap.size w (w.alloc (.cells #[.slice ao0 A0.length ac0, .slice ao1 A1.length ac1] 25)) := by go_grown
  have s1 : (w.alloc (.cells #[.slice ao0 A0.length ac0, .slice ao1 A1.length ac1] 25)).heap.size = w.heap.size + 1 := by simp
  generalize (w.alloc (.cells #[.slice ao0 A0.length ac0, .slice ao1 A1.length ac1] 25)) = w1 at a0_1 a1_1 al_1 c1 s1 ⊢
  have qa0_1 := cell_regrown a0_1
  have qa1_1 := cell_regrown a1_1
  refine (szCache_rd _ _ A0 A1 _ _ (HA.out.later c1) (by omega) (by omega)).mono ?_
  rintro e w2 ⟨hs, b2⟩
  have d2 : Below w1.heap.size w1 w2 := (Below.trans (by go_grown) (b2.mono (by first | omega | (simp; done) | (simp; omega))))
  have c2 : Below w.heap.size w w2 := c1.trans (d2.mono c1.size)
  have a0_2 : w2.cell? ⟨w.heap.size, 0, none⟩ = some (.slice ao0 A0.length ac0) := (by rw [b2.cell (by first | omega | (simp; done) | (simp; omega))]; go_cell)
  have a1_2 : w2.cell? ⟨w.heap.size, 1, none⟩ = some (.slice ao1 A1.length ac1) := (by rw [b2.cell (by first | omega | (simp; done) | (simp; omega))]; go_cell)
  have al_2 : w.heap.size < w2.heap.size := (by have := b2.size; first | omega | (revert this; simp; done) | (revert this; simp; omega))
  clear a0_1 a1_1 al_1
  clear b2 d2
  rcases hs with ⟨r, rfl, hr0, hr1, hA⟩ | rfl
  · have HLA := hid hA
    have hr2 : ¬ (r < 0) := by omega
    clear hA
    go_wp2_with fail
    refine (toCache_rd _ _ A0 A1 _ (HA.out.later c2) HLA.out).mono ?_
    rintro e w3 ⟨⟨xo0, xo1, xc0, xc1, rfl, oa⟩, b3⟩
    have OA3 := hid oa
    clear oa
    have d3 : Below w2.heap.size w2 w3 := (Below.trans (by go_grown) (b3.mono (by first | omega | (simp; done) | (simp; omega))))
    have c3 : Below w.heap.size w w3 := c2.trans (d3.mono c2.size)
    have a0_3 : w3.cell? ⟨w.heap.size, 0, none⟩ = some (.slice ao0 A0.length ac0) := (by rw [b3.cell (by first | omega | (simp; done) | (simp; omega))]; go_cell)
    have a1_3 : w3.cell? ⟨w.heap.size, 1, none⟩ = some (.slice ao1 A1.length ac1) := (by rw [b3.cell (by first | omega | (simp; done) | (simp; omega))]; go_cell)
    have al_3 : w.heap.size < w3.heap.size := (by have := b3.size; first | omega | (revert this; simp; done) | (revert this; simp; omega))
    clear a0_2 a1_2 al_2
    clear b3 d3
    go_wp2_with fail
    refine (specCOk_any _ _ A0 A1 _ OA3.out.h0 OA3.out.h1).mono ?_
    rintro e w4 ⟨rfl, b4⟩
    have d4 : Below w3.heap.size w3 w4 := (Below.trans (by go_grown) (b4.mono (by first | omega | (simp; done) | (simp; omega))))
    have c4 : Below w.heap.size w w4 := c3.trans (d4.mono c3.size)
    have a0_4 : w4.cell? ⟨w.heap.size, 0, none⟩ = some (.slice ao0 A0.length ac0) := (by rw [b4.cell (by first | omega | (simp; done) | (simp; omega))]; go_cell)
    have a1_4 : w4.cell? ⟨w.heap.size, 1, none⟩ = some (.slice ao1 A1.length ac1) := (by rw [b4.cell (by first | omega | (simp; done) | (simp; omega))]; go_cell)
    have al_4 : w.heap.size < w4.heap.size := (by have := b4.size; first | omega | (revert this; simp; done) | (revert this; simp; omega))
    clear a0_3 a1_3 al_3
    clear b4 d4
    go_wp2_with fail
    refine (toCache_rd _ _ A0 A1 _ (HA.out.later c4) HLA.out).mono ?_
    rintro e w5 ⟨⟨po0, po1, pc0, pc1, rfl, oa⟩, b5⟩
    have OC5 := hid oa
    clear oa
    have d5 : Below w4.heap.size w4 w5 := (Below.trans (by go_grown) (b5.mono (by first | omega | (simp; done) | (simp; omega))))
    have c5 : Below w.heap.size w w5 := c4.trans (d5.mono c4.size)
    have a0_5 : w5.cell? ⟨w.heap.size, 0, none⟩ = some (.slice ao0 A0.length ac0) := (by rw [b5.cell (by first | omega | (simp; done) | (simp; omega))]; go_cell)
    have a1_5 : w5.cell? ⟨w.heap.size, 1, none⟩ = some (.slice ao1 A1.length ac1) := (by rw [b5.cell (by first | omega | (simp; done) | (simp; omega))]; go_cell)
    have al_5 : w.heap.size < w5.heap.size := (by have := b5.size; first | omega | (revert this; simp; done) | (revert this; simp; omega))
    clear a0_4 a1_4 al_4
    clear b5 d5
    go_wp2_with fail
    have x0_6 : (w5.alloc (.cells #[.slice po0 A0.length pc0, .slice po1 A1.length pc1] 30)).cell? ⟨w5.heap.size, 0, none⟩ = some (.slice po0 A0.length pc0) := by go_cell
    have x1_6 : (w5.alloc (.cells #[.slice po0 A0.length pc0, .slice po1 A1.length pc1] 30)).cell? ⟨w5.heap.size, 1, none⟩ = some (.slice po1 A1.length pc1) := by go_cell
    have xl_6 : w5.heap.size < (w5.alloc (.cells #[.slice po0 A0.length pc0, .slice po1 A1.length pc1] 30)).heap.size := by simp
    have d6 : Below w5.heap.size w5 (w5.alloc (.cells #[.slice po0 A0.length pc0, .slice po1 A1.length pc1] 30)) := by go_grown
    generalize (w5.alloc (.cells #[.slice po0 A0.length pc0, .slice po1 A1.length pc1] 30)) = w6 at x0_6 x1_6 xl_6 d6 ⊢
    have c6 : Below w.heap.size w w6 := c5.trans (d6.mono c5.size)
    have a0_6 : w6.cell? ⟨w.heap.size, 0, none⟩ = some (.slice ao0 A0.length ac0) := (by rw [d6.cell (by first | omega | (simp; done) | (simp; omega))]; go_cell)
    have a1_6 : w6.cell? ⟨w.heap.size, 1, none⟩ = some (.slice ao1 A1.length ac1) := (by rw [d6.cell (by first | omega | (simp; done) | (simp; omega))]; go_cell)
    have al_6 : w.heap.size < w6.heap.size := (by have := d6.size; omega)
    clear a0_5 a1_5 al_5
    have OC6 := hid (OC5.out.later d6)
    clear d6
    refine (implCOk_any _ _ A0 A1 _ OC6.out.h0 OC6.out.h1).mono ?_
    rintro e w7 ⟨rfl, b7⟩
    have d7 : Below w6.heap.size w6 w7 := (Below.trans (by go_grown) (b7.mono (by first | omega | (simp; done) | (simp; omega))))
    have c7 : Below w.heap.size w w7 := c6.trans (d7.mono c6.size)
    have a0_7 : w7.cell? ⟨w.heap.size, 0, none⟩ = some (.slice ao0 A0.length ac0) := (by rw [b7.cell (by first | omega | (simp; done) | (simp; omega))]; go_cell)
    have a1_7 : w7.cell? ⟨w.heap.size, 1, none⟩ = some (.slice ao1 A1.length ac1) := (by rw [b7.cell (by first | omega | (simp; done) | (simp; omega))]; go_cell)
    have al_7 : w.heap.size < w7.heap.size := (by have := b7.size; first | omega | (revert this; simp; done) | (revert this; simp; omega))
    have x0_7 : w7.cell? ⟨w5.heap.size, 0, none⟩ = some (.slice po0 A0.length pc0) := (by rw [b7.cell (by first | omega | (simp; done) | (simp; omega))]; go_cell)
    have x1_7 : w7.cell? ⟨w5.heap.size, 1, none⟩ = some (.slice po1 A1.length pc1) := (by rw [b7.cell (by first | omega | (simp; done) | (simp; omega))]; go_cell)
    have xl_7 : w5.heap.size < w7.heap.size := (by have := b7.size; first | omega | (revert this; simp; done) | (revert this; simp; omega))
    clear a0_6 a1_6 al_6 x0_6 x1_6 xl_6
    have OC7 := hid (OC6.out.later d7)
    clear b7 d7
    go_upto_region 10 with fail
    go_cut [26] from 10 (fun s wx => s = .bool false ∧ Below w7.heap.size w7 wx)
    case first =>
      go_region_with (first
        | (go_at_call 6; refine (toCache_rd (.slice ao0 A0.length ac0) (.slice ao1 A1.length ac1) A0 A1 _ (HA.out.later (c7.drew)) HLA.out).mono ?_; rintro e w10 ⟨⟨zo0, zo1, zc0, zc1, rfl, oa⟩, b10⟩; have OE10 := hid oa; clear oa; have d10 : Below w7.heap.size w7 w10 := (Below.trans (by go_grown) (b10.mono (by first | omega | (simp; done) | (simp; omega)))); have c10 : Below w.heap.size w w10 := c7.trans (d10.mono c7.size); have x0_10 : w10.cell? ⟨w5.heap.size, 0, none⟩ = some (.slice po0 A0.length pc0) := (by rw [b10.cell (by first | omega | (simp; done) | (simp; omega))]; go_cell); have x1_10 : w10.cell? ⟨w5.heap.size, 1, none⟩ = some (.slice po1 A1.length pc1) := (by rw [b10.cell (by first | omega | (simp; done) | (simp; omega))]; go_cell); have xl_10 : w5.heap.size < w10.heap.size := (by have := b10.size; first | omega | (revert this; simp; done) | (revert this; simp; omega)); clear x0_7 x1_7 xl_7)
        | (go_at_call 8; refine (eqCache_rd _ _ _ _ A0 A1 _ (OC7.out.later d10) OE10.out).mono ?_; rintro e w11 ⟨rfl, b11⟩; have d11 : Below w10.heap.size w10 w11 := (Below.trans (by go_grown) (b11.mono (by first | omega | (simp; done) | (simp; omega)))); have c11 : Below w.heap.size w w11 := c10.trans (d11.mono c10.size)))
      all_goals
        go_wp2_with fail
        go_meet
        exact ⟨rfl, d10.trans (d11.mono d10.size)⟩
    case rest =>
      obtain ⟨rfl, b10⟩ := hcut
      have c8 := c7.trans (b10.mono c7.size)
      clear b10
      go_wp2
      go_ret
      exact ⟨by simp, c8⟩
  · go_wp2
    go_ret
    exact ⟨by simp, c2⟩
end Go.Proofs.Ytgoincapfoclgaa
