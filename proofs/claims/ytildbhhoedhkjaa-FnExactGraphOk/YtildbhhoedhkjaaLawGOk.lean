/- The law FnExactGraphOk: its walk. -/
import Derived.Test.YtildbhhoedhkjaaGs
import Derived.Test.YtildbhhoedhkjaaAu
import Derived.Test.YtildbhhoedhkjaaAx
import Derived.Deep.Cut
namespace Go.Proofs.Ytildbhhoedhkjaa
open Go.RowKit
attribute [local go_sem ↓] Go.wp_at_zero Go.wp_at_succ

set_option maxRecDepth 100000 in
set_option maxHeartbeats 4000000 in
theorem lawGOk_any (va : Value) (la : List ValD) (w : World) (ha : RdG w va la) :
    Calls Try.prog 5 #[.agg #[va]] w fun e w' => e = .returned (.bool true) ∧ Below w.heap.size w w' := by
  have HA := hid ha
  obtain ⟨ao, cap, hv, _⟩ := ha
  subst hv
  go_enter Try.func5, Try.ntmps5
  go_wp2_with fail
  have a0_1 : (w.alloc (.cells #[.slice ao la.length cap] 45)).cell? ⟨w.heap.size, 0, none⟩ = some (.slice ao la.length cap) := by go_cell
  have al_1 : w.heap.size < (w.alloc (.cells #[.slice ao la.length cap] 45)).heap.size := by first | (simp; done) | (simp; omega)
  have c1 : Below w.heap.size w (w.alloc (.cells #[.slice ao la.length cap] 45)) := by go_grown
  have s1 : (w.alloc (.cells #[.slice ao la.length cap] 45)).heap.size = w.heap.size + 1 := by simp
  generalize (w.alloc (.cells #[.slice ao la.length cap] 45)) = w1 at a0_1 al_1 c1 s1 ⊢
  have qa0_1 := cell_regrown a0_1
  refine (szGraph_any _ la _ _ (HA.out.later c1) (by omega) (by omega)).mono ?_
  rintro e w2 ⟨hs, b2⟩
  have d2 : Below w1.heap.size w1 w2 := (Below.trans (by go_grown) (b2.mono (by first | omega | (simp; done) | (simp; omega))))
  have c2 : Below w.heap.size w w2 := c1.trans (d2.mono c1.size)
  have a0_2 : w2.cell? ⟨w.heap.size, 0, none⟩ = some (.slice ao la.length cap) := (by rw [b2.cell (by first | omega | (simp; done) | (simp; omega))]; go_cell)
  have al_2 : w.heap.size < w2.heap.size := (by have := b2.size; first | omega | (revert this; simp; done) | (revert this; simp; omega))
  clear a0_1 al_1
  clear b2 d2
  rcases hs with ⟨rfl, hs⟩ | ⟨rfl, _⟩
  · have hsz : (la.length : Int) + bulkG la ≤ 1048576 := by omega
    have hr0 : ¬ (1048576 - (la.length : Int) - (bulkG la : Int) < 0) := by omega
    obtain ⟨r, hr⟩ : ∃ r : Int, 1048576 - (la.length : Int) - (bulkG la : Int) = r := ⟨_, rfl⟩
    rw [hr] at hr0 ⊢
    have HBA := hid (show ∀ i, i < la.length → (la.getD i valD0).2.length ≤ 1048576 from fun i hi => by have := bulk_get la i hi; omega)
    have hla : la.length ≤ 1048576 := by omega
    clear hr hs hsz
    go_wp2_with fail
    refine (toGraph_any _ la _ (HA.out.later c2) hla HBA.out).mono ?_
    rintro e w3 ⟨xa, rfl, oa, b3⟩
    have OA3 := hid oa
    obtain ⟨uo, uc, hv, _⟩ := oa.rd
    subst hv
    clear oa
    have d3 : Below w2.heap.size w2 w3 := (Below.trans (by go_grown) (b3.mono (by first | omega | (simp; done) | (simp; omega))))
    have c3 : Below w.heap.size w w3 := c2.trans (d3.mono c2.size)
    have a0_3 : w3.cell? ⟨w.heap.size, 0, none⟩ = some (.slice ao la.length cap) := (by rw [b3.cell (by first | omega | (simp; done) | (simp; omega))]; go_cell)
    have al_3 : w.heap.size < w3.heap.size := (by have := b3.size; first | omega | (revert this; simp; done) | (revert this; simp; omega))
    clear a0_2 al_2
    clear b3 d3
    go_wp2_with fail
    refine (specGOk_any _ la _ OA3.out.rd).mono ?_
    rintro e w4 ⟨rfl, b4⟩
    have d4 : Below w3.heap.size w3 w4 := (Below.trans (by go_grown) (b4.mono (by first | omega | (simp; done) | (simp; omega))))
    have c4 : Below w.heap.size w w4 := c3.trans (d4.mono c3.size)
    have a0_4 : w4.cell? ⟨w.heap.size, 0, none⟩ = some (.slice ao la.length cap) := (by rw [b4.cell (by first | omega | (simp; done) | (simp; omega))]; go_cell)
    have al_4 : w.heap.size < w4.heap.size := (by have := b4.size; first | omega | (revert this; simp; done) | (revert this; simp; omega))
    clear a0_3 al_3
    clear b4 d4
    go_wp2_with fail
    refine (toGraph_any _ la _ (HA.out.later c4) hla HBA.out).mono ?_
    rintro e w5 ⟨xc, rfl, oc, b5⟩
    have OC5 := hid oc
    obtain ⟨co, cc, hv, _⟩ := oc.rd
    subst hv
    clear oc
    have d5 : Below w4.heap.size w4 w5 := (Below.trans (by go_grown) (b5.mono (by first | omega | (simp; done) | (simp; omega))))
    have c5 : Below w.heap.size w w5 := c4.trans (d5.mono c4.size)
    have a0_5 : w5.cell? ⟨w.heap.size, 0, none⟩ = some (.slice ao la.length cap) := (by rw [b5.cell (by first | omega | (simp; done) | (simp; omega))]; go_cell)
    have al_5 : w.heap.size < w5.heap.size := (by have := b5.size; first | omega | (revert this; simp; done) | (revert this; simp; omega))
    clear a0_4 al_4
    clear b5 d5
    go_wp2_with fail
    have x0_6 : (w5.alloc (.cells #[.slice co la.length cc] 50)).cell? ⟨w5.heap.size, 0, none⟩ = some (.slice co la.length cc) := by go_cell
    have xl_6 : w5.heap.size < (w5.alloc (.cells #[.slice co la.length cc] 50)).heap.size := by simp
    have d6 : Below w5.heap.size w5 (w5.alloc (.cells #[.slice co la.length cc] 50)) := by go_grown
    generalize (w5.alloc (.cells #[.slice co la.length cc] 50)) = w6 at x0_6 xl_6 d6 ⊢
    have c6 : Below w.heap.size w w6 := c5.trans (d6.mono c5.size)
    have a0_6 : w6.cell? ⟨w.heap.size, 0, none⟩ = some (.slice ao la.length cap) := (by rw [d6.cell (by first | omega | (simp; done) | (simp; omega))]; go_cell)
    have al_6 : w.heap.size < w6.heap.size := (by have := d6.size; omega)
    clear a0_5 al_5
    have OC6 := hid (OC5.out.later d6)
    clear d6
    refine (implGOk_any _ la _ OC6.out.rd).mono ?_
    rintro e w7 ⟨rfl, b7⟩
    have d7 : Below w6.heap.size w6 w7 := (Below.trans (by go_grown) (b7.mono (by first | omega | (simp; done) | (simp; omega))))
    have c7 : Below w.heap.size w w7 := c6.trans (d7.mono c6.size)
    have a0_7 : w7.cell? ⟨w.heap.size, 0, none⟩ = some (.slice ao la.length cap) := (by rw [b7.cell (by first | omega | (simp; done) | (simp; omega))]; go_cell)
    have al_7 : w.heap.size < w7.heap.size := (by have := b7.size; first | omega | (revert this; simp; done) | (revert this; simp; omega))
    have x0_7 : w7.cell? ⟨w5.heap.size, 0, none⟩ = some (.slice co la.length cc) := (by rw [b7.cell (by first | omega | (simp; done) | (simp; omega))]; go_cell)
    have xl_7 : w5.heap.size < w7.heap.size := (by have := b7.size; first | omega | (revert this; simp; done) | (revert this; simp; omega))
    clear a0_6 al_6 x0_6 xl_6
    have OC7 := hid (OC6.out.later d7)
    clear b7 d7
    go_upto_region 10 with fail
    go_cut [26] from 10 (fun s wx => s = .bool false ∧ Below w7.heap.size w7 wx)
    case first =>
      go_region_with (first
        | (go_at_call 17; refine (toGraph_any (.slice ao la.length cap) la _ (HA.out.later (c7.drew)) hla HBA.out).mono ?_; rintro e w8 ⟨xe, rfl, oe, b8⟩; have OE8 := hid oe; clear oe; have d8 : Below w7.heap.size w7 w8 := (Below.trans (by go_grown) (b8.mono (by first | omega | (simp; done) | (simp; omega)))); have c8 : Below w.heap.size w w8 := c7.trans (d8.mono c7.size); have x0_8 : w8.cell? ⟨w5.heap.size, 0, none⟩ = some (.slice co la.length cc) := (by rw [b8.cell (by first | omega | (simp; done) | (simp; omega))]; go_cell); have xl_8 : w5.heap.size < w8.heap.size := (by have := b8.size; first | omega | (revert this; simp; done) | (revert this; simp; omega)); clear x0_7 xl_7)
        | (go_at_call 19; refine (eqGraph_any _ _ la la _ (OC7.out.rd.later d8) OE8.out.rd).mono ?_; rintro e w9 ⟨rfl, b9⟩; rw [eqG_refl]; have d9 : Below w8.heap.size w8 w9 := (Below.trans (by go_grown) (b9.mono (by first | omega | (simp; done) | (simp; omega)))); have c9 : Below w.heap.size w w9 := c8.trans (d9.mono c8.size)))
      all_goals
        go_wp2_with fail
        go_meet
        exact ⟨rfl, d8.trans (d9.mono d8.size)⟩
    case rest =>
      obtain ⟨rfl, b8⟩ := hcut
      have c8 := c7.trans (b8.mono c7.size)
      clear b8
      go_wp2
      go_ret
      exact ⟨by simp, c8⟩
  · go_wp2
    go_ret
    exact ⟨by simp, c2⟩
end Go.Proofs.Ytildbhhoedhkjaa
