/- The law FnExactGraphSame: its walk. -/
import Derived.Test.YtnpfkhbnfihbdabGs
import Derived.Deep.Cut
namespace Go.Proofs.Ytnpfkhbnfihbdab
open Go.RowKit

set_option maxRecDepth 100000 in
set_option maxHeartbeats 4000000 in
theorem lawGSame_any (va : Value) (la : List ValD) (vb : Value) (lb : List ValD) (w : World) (ha : RdG w va la) (hb : RdG w vb lb) :
    Calls Try.prog 8 #[.agg #[va], .agg #[vb]] w fun e w' => e = .returned (.bool true) ∧ Below w.heap.size w w' := by
  have HA := hid ha
  have HB := hid hb
  obtain ⟨ao, cap, hv, _⟩ := ha
  subst hv
  obtain ⟨bo, cbp, hv, _⟩ := hb
  subst hv
  go_enter Try.func8, Try.ntmps8
  go_wp2_with fail
  have a0_1 : ((w.alloc (.cells #[.slice ao la.length cap] 49)).alloc (.cells #[.slice bo lb.length cbp] 49)).cell? ⟨w.heap.size, 0, none⟩ = some (.slice ao la.length cap) := by go_cell
  have al_1 : w.heap.size < ((w.alloc (.cells #[.slice ao la.length cap] 49)).alloc (.cells #[.slice bo lb.length cbp] 49)).heap.size := by first | (simp; done) | (simp; omega)
  have b0_1 : ((w.alloc (.cells #[.slice ao la.length cap] 49)).alloc (.cells #[.slice bo lb.length cbp] 49)).cell? ⟨w.heap.size + 1, 0, none⟩ = some (.slice bo lb.length cbp) := by go_cell
  have bl_1 : w.heap.size + 1 < ((w.alloc (.cells #[.slice ao la.length cap] 49)).alloc (.cells #[.slice bo lb.length cbp] 49)).heap.size := by first | (simp; done) | (simp; omega)
  have c1 : Below w.heap.size w ((w.alloc (.cells #[.slice ao la.length cap] 49)).alloc (.cells #[.slice bo lb.length cbp] 49)) := by go_grown
  have s1 : ((w.alloc (.cells #[.slice ao la.length cap] 49)).alloc (.cells #[.slice bo lb.length cbp] 49)).heap.size = w.heap.size + 2 := by simp
  generalize ((w.alloc (.cells #[.slice ao la.length cap] 49)).alloc (.cells #[.slice bo lb.length cbp] 49)) = w1 at a0_1 al_1 b0_1 bl_1 c1 s1 ⊢
  have qa0_1 := cell_regrown a0_1
  have qb0_1 := cell_regrown b0_1
  refine (szGraph_any _ la _ _ (HA.out.later c1) (by omega) (by omega)).mono ?_
  rintro e w2 ⟨hs, b2⟩
  have d2 : Below w1.heap.size w1 w2 := (Below.trans (by go_grown) (b2.mono (by first | omega | (simp; done) | (simp; omega))))
  have c2 : Below w.heap.size w w2 := c1.trans (d2.mono c1.size)
  have a0_2 : w2.cell? ⟨w.heap.size, 0, none⟩ = some (.slice ao la.length cap) := (by rw [b2.cell (by first | omega | (simp; done) | (simp; omega))]; go_cell)
  have al_2 : w.heap.size < w2.heap.size := (by have := b2.size; first | omega | (revert this; simp; done) | (revert this; simp; omega))
  have b0_2 : w2.cell? ⟨w.heap.size + 1, 0, none⟩ = some (.slice bo lb.length cbp) := (by rw [b2.cell (by first | omega | (simp; done) | (simp; omega))]; go_cell)
  have bl_2 : w.heap.size + 1 < w2.heap.size := (by have := b2.size; first | omega | (revert this; simp; done) | (revert this; simp; omega))
  clear a0_1 al_1 b0_1 bl_1
  clear b2 d2
  rcases hs with ⟨rfl, hs⟩ | ⟨rfl, _⟩
  · have hsz : (la.length : Int) + bulkG la ≤ 1048576 := by omega
    have hr0 : ¬ (1048576 - (la.length : Int) - (bulkG la : Int) < 0) := by omega
    obtain ⟨r, hr⟩ : ∃ r : Int, 1048576 - (la.length : Int) - (bulkG la : Int) = r := ⟨_, rfl⟩
    rw [hr] at hr0 ⊢
    have hr1 : r ≤ 1048576 := by omega
    have HBA := hid (show ∀ i, i < la.length → (la.getD i valD0).2.length ≤ 1048576 from fun i hi => by have := bulk_get la i hi; omega)
    have hla : la.length ≤ 1048576 := by omega
    clear hr hs hsz
    go_wp2_with fail
    refine (szGraph_any _ lb _ _ (HB.out.later c2) (by omega) (by omega)).mono ?_
    rintro e w3 ⟨hs, b3⟩
    have d3 : Below w2.heap.size w2 w3 := (Below.trans (by go_grown) (b3.mono (by first | omega | (simp; done) | (simp; omega))))
    have c3 : Below w.heap.size w w3 := c2.trans (d3.mono c2.size)
    have a0_3 : w3.cell? ⟨w.heap.size, 0, none⟩ = some (.slice ao la.length cap) := (by rw [b3.cell (by first | omega | (simp; done) | (simp; omega))]; go_cell)
    have al_3 : w.heap.size < w3.heap.size := (by have := b3.size; first | omega | (revert this; simp; done) | (revert this; simp; omega))
    have b0_3 : w3.cell? ⟨w.heap.size + 1, 0, none⟩ = some (.slice bo lb.length cbp) := (by rw [b3.cell (by first | omega | (simp; done) | (simp; omega))]; go_cell)
    have bl_3 : w.heap.size + 1 < w3.heap.size := (by have := b3.size; first | omega | (revert this; simp; done) | (revert this; simp; omega))
    clear a0_2 al_2 b0_2 bl_2
    clear b3 d3
    rcases hs with ⟨rfl, hs⟩ | ⟨rfl, _⟩
    · have hq0 : ¬ (r - (lb.length : Int) - (bulkG lb : Int) < 0) := by omega
      have HBB := hid (show ∀ i, i < lb.length → (lb.getD i valD0).2.length ≤ 1048576 from fun i hi => by have := bulk_get lb i hi; omega)
      have hlb : lb.length ≤ 1048576 := by omega
      obtain ⟨q, hq⟩ : ∃ q : Int, r - (lb.length : Int) - (bulkG lb : Int) = q := ⟨_, rfl⟩
      rw [hq] at hq0 ⊢
      clear hq hs
      go_wp2_with fail
      go_upto_region 8 with fail
      go_cut [6] from 10 (fun s wx => s = .bool (eqG la lb) ∧ Below w3.heap.size w3 wx)
      case first =>
        go_region_with (first
          | (go_at_call 28; first
            | (have zz := a0_3; clear zz; refine (toGraph_any (.slice ao la.length cap) la _ (HA.out.later (c3.drew)) hla HBA.out).mono ?_; rintro e w4 ⟨xa, rfl, oa, b4⟩; have OA4 := hid oa; clear oa; have d4 : Below w3.heap.size w3 w4 := (Below.trans (by go_grown) (b4.mono (by first | omega | (simp; done) | (simp; omega)))); have c4 : Below w.heap.size w w4 := c3.trans (d4.mono c3.size); have a0_4 : w4.cell? ⟨w.heap.size, 0, none⟩ = some (.slice ao la.length cap) := (by rw [b4.cell (by first | omega | (simp; done) | (simp; omega))]; go_cell); have al_4 : w.heap.size < w4.heap.size := (by have := b4.size; first | omega | (revert this; simp; done) | (revert this; simp; omega)); have b0_4 : w4.cell? ⟨w.heap.size + 1, 0, none⟩ = some (.slice bo lb.length cbp) := (by rw [b4.cell (by first | omega | (simp; done) | (simp; omega))]; go_cell); have bl_4 : w.heap.size + 1 < w4.heap.size := (by have := b4.size; first | omega | (revert this; simp; done) | (revert this; simp; omega)); clear a0_3 al_3 b0_3 bl_3)
            | (refine (toGraph_any (.slice bo lb.length cbp) lb _ (HB.out.later c4) hlb HBB.out).mono ?_; rintro e w5 ⟨xb, rfl, ob, b5⟩; have OB5 := hid ob; clear ob; have d5 : Below w4.heap.size w4 w5 := (Below.trans (by go_grown) (b5.mono (by first | omega | (simp; done) | (simp; omega)))); have c5 : Below w.heap.size w w5 := c4.trans (d5.mono c4.size)))
          | (go_at_call 30; refine (specGSame_any _ _ la lb _ (OA4.out.rd.later d5) OB5.out.rd).mono ?_; rintro e w6 ⟨rfl, b6⟩; have d6 : Below w5.heap.size w5 w6 := (Below.trans (by go_grown) (b6.mono (by first | omega | (simp; done) | (simp; omega)))); have c6 : Below w.heap.size w w6 := c5.trans (d6.mono c5.size)))
        all_goals
          go_wp2_with fail
          go_meet
          exact ⟨rfl, (d4.trans (d5.mono d4.size)).trans (d6.mono (Nat.le_trans d4.size d5.size))⟩
      case rest =>
        obtain ⟨rfl, b4⟩ := hcut
        obtain ⟨w4, hw4⟩ : ∃ x, x = wc := ⟨_, rfl⟩
        subst hw4
        have d4 : Below w3.heap.size w3 w4 := (Below.trans (by go_grown) (b4.mono (by first | omega | (simp; done) | (simp; omega))))
        have c4 : Below w.heap.size w w4 := c3.trans (d4.mono c3.size)
        have a0_4 : w4.cell? ⟨w.heap.size, 0, none⟩ = some (.slice ao la.length cap) := (by rw [b4.cell (by first | omega | (simp; done) | (simp; omega))]; go_cell)
        have al_4 : w.heap.size < w4.heap.size := (by have := b4.size; first | omega | (revert this; simp; done) | (revert this; simp; omega))
        have b0_4 : w4.cell? ⟨w.heap.size + 1, 0, none⟩ = some (.slice bo lb.length cbp) := (by rw [b4.cell (by first | omega | (simp; done) | (simp; omega))]; go_cell)
        have bl_4 : w.heap.size + 1 < w4.heap.size := (by have := b4.size; first | omega | (revert this; simp; done) | (revert this; simp; omega))
        clear a0_3 al_3 b0_3 bl_3
        clear b4 d4
        go_wp2_with fail
        refine (toGraph_any _ la _ (HA.out.later c4) hla HBA.out).mono ?_
        rintro e w5 ⟨xc, rfl, oc, b5⟩
        have OC5 := hid oc
        obtain ⟨co, cc, hv, _⟩ := oc.rd
        subst hv
        clear oc
        have d5 : Below w4.heap.size w4 w5 := (Below.trans (by go_grown) (b5.mono (by first | omega | (simp; done) | (simp; omega))))
        have c5 : Below w.heap.size w w5 := c4.trans (d5.mono c4.size)
        have a0_5 : w5.cell? ⟨w.heap.size, 0, none⟩ = some (.slice ao la.length cap) := (by rw [b5.cell (by first | omega | (simp; done) | (simp; omega))]; go_cell)
        have al_5 : w.heap.size < w5.heap.size := (by have := b5.size; first | omega | (revert this; simp; done) | (revert this; simp; omega))
        have b0_5 : w5.cell? ⟨w.heap.size + 1, 0, none⟩ = some (.slice bo lb.length cbp) := (by rw [b5.cell (by first | omega | (simp; done) | (simp; omega))]; go_cell)
        have bl_5 : w.heap.size + 1 < w5.heap.size := (by have := b5.size; first | omega | (revert this; simp; done) | (revert this; simp; omega))
        clear a0_4 al_4 b0_4 bl_4
        clear b5 d5
        go_wp2_with fail
        have x0_6 : (w5.alloc (.cells #[.slice co la.length cc] 42)).cell? ⟨w5.heap.size, 0, none⟩ = some (.slice co la.length cc) := by go_cell
        have xl_6 : w5.heap.size < (w5.alloc (.cells #[.slice co la.length cc] 42)).heap.size := by simp
        have d6 : Below w5.heap.size w5 (w5.alloc (.cells #[.slice co la.length cc] 42)) := by go_grown
        generalize (w5.alloc (.cells #[.slice co la.length cc] 42)) = w6 at x0_6 xl_6 d6 ⊢
        have c6 : Below w.heap.size w w6 := c5.trans (d6.mono c5.size)
        have a0_6 : w6.cell? ⟨w.heap.size, 0, none⟩ = some (.slice ao la.length cap) := (by rw [d6.cell (by first | omega | (simp; done) | (simp; omega))]; go_cell)
        have al_6 : w.heap.size < w6.heap.size := (by have := d6.size; omega)
        have b0_6 : w6.cell? ⟨w.heap.size + 1, 0, none⟩ = some (.slice bo lb.length cbp) := (by rw [d6.cell (by first | omega | (simp; done) | (simp; omega))]; go_cell)
        have bl_6 : w.heap.size + 1 < w6.heap.size := (by have := d6.size; omega)
        clear a0_5 al_5 b0_5 bl_5
        have OC6 := hid (OC5.out.later d6)
        clear d6
        refine (toGraph_any _ lb _ (HB.out.later c6) hlb HBB.out).mono ?_
        rintro e w7 ⟨xd, rfl, od, b7⟩
        have OD7 := hid od
        obtain ⟨eo, ec, hv, _⟩ := od.rd
        subst hv
        clear od
        have d7 : Below w6.heap.size w6 w7 := (Below.trans (by go_grown) (b7.mono (by first | omega | (simp; done) | (simp; omega))))
        have c7 : Below w.heap.size w w7 := c6.trans (d7.mono c6.size)
        have a0_7 : w7.cell? ⟨w.heap.size, 0, none⟩ = some (.slice ao la.length cap) := (by rw [b7.cell (by first | omega | (simp; done) | (simp; omega))]; go_cell)
        have al_7 : w.heap.size < w7.heap.size := (by have := b7.size; first | omega | (revert this; simp; done) | (revert this; simp; omega))
        have b0_7 : w7.cell? ⟨w.heap.size + 1, 0, none⟩ = some (.slice bo lb.length cbp) := (by rw [b7.cell (by first | omega | (simp; done) | (simp; omega))]; go_cell)
        have bl_7 : w.heap.size + 1 < w7.heap.size := (by have := b7.size; first | omega | (revert this; simp; done) | (revert this; simp; omega))
        have x0_7 : w7.cell? ⟨w5.heap.size, 0, none⟩ = some (.slice co la.length cc) := (by rw [b7.cell (by first | omega | (simp; done) | (simp; omega))]; go_cell)
        have xl_7 : w5.heap.size < w7.heap.size := (by have := b7.size; first | omega | (revert this; simp; done) | (revert this; simp; omega))
        clear a0_6 al_6 b0_6 bl_6 x0_6 xl_6
        have OC7 := hid (OC6.out.later d7)
        clear b7 d7
        go_wp2_with fail
        have y0_8 : (w7.alloc (.cells #[.slice eo lb.length ec] 42)).cell? ⟨w7.heap.size, 0, none⟩ = some (.slice eo lb.length ec) := by go_cell
        have yl_8 : w7.heap.size < (w7.alloc (.cells #[.slice eo lb.length ec] 42)).heap.size := by simp
        have d8 : Below w7.heap.size w7 (w7.alloc (.cells #[.slice eo lb.length ec] 42)) := by go_grown
        generalize (w7.alloc (.cells #[.slice eo lb.length ec] 42)) = w8 at y0_8 yl_8 d8 ⊢
        have c8 : Below w.heap.size w w8 := c7.trans (d8.mono c7.size)
        have a0_8 : w8.cell? ⟨w.heap.size, 0, none⟩ = some (.slice ao la.length cap) := (by rw [d8.cell (by first | omega | (simp; done) | (simp; omega))]; go_cell)
        have al_8 : w.heap.size < w8.heap.size := (by have := d8.size; omega)
        have b0_8 : w8.cell? ⟨w.heap.size + 1, 0, none⟩ = some (.slice bo lb.length cbp) := (by rw [d8.cell (by first | omega | (simp; done) | (simp; omega))]; go_cell)
        have bl_8 : w.heap.size + 1 < w8.heap.size := (by have := d8.size; omega)
        have x0_8 : w8.cell? ⟨w5.heap.size, 0, none⟩ = some (.slice co la.length cc) := (by rw [d8.cell (by first | omega | (simp; done) | (simp; omega))]; go_cell)
        have xl_8 : w5.heap.size < w8.heap.size := (by have := d8.size; omega)
        clear a0_7 al_7 b0_7 bl_7 x0_7 xl_7
        have OC8 := hid (OC7.out.later d8)
        have OD8 := hid (OD7.out.later d8)
        clear d8
        refine (implGSame_any _ _ la lb _ OC8.out.rd OD8.out.rd).mono ?_
        rintro e w9 ⟨rfl, b9⟩
        have d9 : Below w8.heap.size w8 w9 := (Below.trans (by go_grown) (b9.mono (by first | omega | (simp; done) | (simp; omega))))
        have c9 : Below w.heap.size w w9 := c8.trans (d9.mono c8.size)
        have a0_9 : w9.cell? ⟨w.heap.size, 0, none⟩ = some (.slice ao la.length cap) := (by rw [b9.cell (by first | omega | (simp; done) | (simp; omega))]; go_cell)
        have al_9 : w.heap.size < w9.heap.size := (by have := b9.size; first | omega | (revert this; simp; done) | (revert this; simp; omega))
        have b0_9 : w9.cell? ⟨w.heap.size + 1, 0, none⟩ = some (.slice bo lb.length cbp) := (by rw [b9.cell (by first | omega | (simp; done) | (simp; omega))]; go_cell)
        have bl_9 : w.heap.size + 1 < w9.heap.size := (by have := b9.size; first | omega | (revert this; simp; done) | (revert this; simp; omega))
        have x0_9 : w9.cell? ⟨w5.heap.size, 0, none⟩ = some (.slice co la.length cc) := (by rw [b9.cell (by first | omega | (simp; done) | (simp; omega))]; go_cell)
        have xl_9 : w5.heap.size < w9.heap.size := (by have := b9.size; first | omega | (revert this; simp; done) | (revert this; simp; omega))
        have y0_9 : w9.cell? ⟨w7.heap.size, 0, none⟩ = some (.slice eo lb.length ec) := (by rw [b9.cell (by first | omega | (simp; done) | (simp; omega))]; go_cell)
        have yl_9 : w7.heap.size < w9.heap.size := (by have := b9.size; first | omega | (revert this; simp; done) | (revert this; simp; omega))
        clear a0_8 al_8 b0_8 bl_8 x0_8 xl_8 y0_8 yl_8
        have OC9 := hid (OC8.out.later d9)
        have OD9 := hid (OD8.out.later d9)
        clear b9 d9
        go_upto_region 14 with fail
        go_cut [39] from 10 (fun s wx => s = .bool false ∧ Below w9.heap.size w9 wx)
        case first =>
          go_region_with (first
            | (go_at_call 28; refine (toGraph_any (.slice ao la.length cap) la _ (HA.out.later (c9.drew)) hla HBA.out).mono ?_; rintro e w10 ⟨xe, rfl, oe, b10⟩; have OE10 := hid oe; clear oe; have d10 : Below w9.heap.size w9 w10 := (Below.trans (by go_grown) (b10.mono (by first | omega | (simp; done) | (simp; omega)))); have c10 : Below w.heap.size w w10 := c9.trans (d10.mono c9.size); have x0_10 : w10.cell? ⟨w5.heap.size, 0, none⟩ = some (.slice co la.length cc) := (by rw [b10.cell (by first | omega | (simp; done) | (simp; omega))]; go_cell); have xl_10 : w5.heap.size < w10.heap.size := (by have := b10.size; first | omega | (revert this; simp; done) | (revert this; simp; omega)); clear x0_9 xl_9)
            | (go_at_call 23; refine (eqGraph_any _ _ la la _ (OC9.out.rd.later d10) OE10.out.rd).mono ?_; rintro e w11 ⟨rfl, b11⟩; rw [eqG_refl]; have d11 : Below w10.heap.size w10 w11 := (Below.trans (by go_grown) (b11.mono (by first | omega | (simp; done) | (simp; omega)))); have c11 : Below w.heap.size w w11 := c10.trans (d11.mono c10.size)))
          all_goals
            go_wp2_with fail
            go_meet
            exact ⟨rfl, d10.trans (d11.mono d10.size)⟩
        case rest =>
          obtain ⟨rfl, b10⟩ := hcut
          obtain ⟨w10, hw10⟩ : ∃ x, x = wc := ⟨_, rfl⟩
          subst hw10
          have d10 : Below w9.heap.size w9 w10 := (Below.trans (by go_grown) (b10.mono (by first | omega | (simp; done) | (simp; omega))))
          have c10 : Below w.heap.size w w10 := c9.trans (d10.mono c9.size)
          have b0_10 : w10.cell? ⟨w.heap.size + 1, 0, none⟩ = some (.slice bo lb.length cbp) := (by rw [b10.cell (by first | omega | (simp; done) | (simp; omega))]; go_cell)
          have bl_10 : w.heap.size + 1 < w10.heap.size := (by have := b10.size; first | omega | (revert this; simp; done) | (revert this; simp; omega))
          have y0_10 : w10.cell? ⟨w7.heap.size, 0, none⟩ = some (.slice eo lb.length ec) := (by rw [b10.cell (by first | omega | (simp; done) | (simp; omega))]; go_cell)
          have yl_10 : w7.heap.size < w10.heap.size := (by have := b10.size; first | omega | (revert this; simp; done) | (revert this; simp; omega))
          clear b0_9 bl_9 y0_9 yl_9
          have OD10 := hid (OD9.out.later d10)
          clear b10 d10
          go_upto_region 16 with fail
          go_cut [44] from 10 (fun s wx => s = .bool false ∧ Below w10.heap.size w10 wx)
          case first =>
            go_region_with (first
              | (go_at_call 28; refine (toGraph_any (.slice bo lb.length cbp) lb _ (HB.out.later (c10.drew)) hlb HBB.out).mono ?_; rintro e w11 ⟨xe, rfl, oe, b11⟩; have OE11 := hid oe; clear oe; have d11 : Below w10.heap.size w10 w11 := (Below.trans (by go_grown) (b11.mono (by first | omega | (simp; done) | (simp; omega)))); have c11 : Below w.heap.size w w11 := c10.trans (d11.mono c10.size); have y0_11 : w11.cell? ⟨w7.heap.size, 0, none⟩ = some (.slice eo lb.length ec) := (by rw [b11.cell (by first | omega | (simp; done) | (simp; omega))]; go_cell); have yl_11 : w7.heap.size < w11.heap.size := (by have := b11.size; first | omega | (revert this; simp; done) | (revert this; simp; omega)); clear y0_10 yl_10)
              | (go_at_call 23; refine (eqGraph_any _ _ lb lb _ (OD10.out.rd.later d11) OE11.out.rd).mono ?_; rintro e w12 ⟨rfl, b12⟩; rw [eqG_refl]; have d12 : Below w11.heap.size w11 w12 := (Below.trans (by go_grown) (b12.mono (by first | omega | (simp; done) | (simp; omega)))); have c12 : Below w.heap.size w w12 := c11.trans (d12.mono c11.size)))
            all_goals
              go_wp2_with fail
              go_meet
              exact ⟨rfl, d11.trans (d12.mono d11.size)⟩
          case rest =>
            obtain ⟨rfl, b12⟩ := hcut
            have c12 := c10.trans (b12.mono c10.size)
            clear b12
            go_wp2
            go_ret
            exact ⟨by simp, c12⟩
    · go_wp2
      go_ret
      exact ⟨by simp, c3⟩
  · go_wp2
    go_ret
    exact ⟨by simp, c2⟩
end Go.Proofs.Ytnpfkhbnfihbdab
