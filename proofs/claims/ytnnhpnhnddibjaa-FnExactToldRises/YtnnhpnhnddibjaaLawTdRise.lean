/- The law FnExactToldRises: its walk. Written by a program (gtd.py). -/
import Derived.Test.YtnnhpnhnddibjaaJh
import Derived.Deep.Cut
namespace Go.Proofs.Ytnnhpnhnddibjaa
open Go.RowKit
attribute [local go_sem ↓] Go.wp_at_zero Go.wp_at_succ

set_option maxRecDepth 100000 in
set_option maxHeartbeats 4000000 in
theorem lawTdRise_any (v0 : Value) (L : List KD) (w : World) (h : RdT w v0 L) :
    Calls Try.prog 3 #[v0] w fun e w' => e = .returned (.bool true) ∧ Below w.heap.size w w' := by
  have H0 := hid h
  obtain ⟨ao, cap, rfl, _, _⟩ := h
  go_enter Try.func3, Try.ntmps3
  go_wp2_with fail
  refine (szToldS_any _ L _ _ H0.out (by omega) (by omega)).mono ?_
  rintro e w2 ⟨hs, c2⟩
  rcases hs with ⟨rfl, hpos⟩ | ⟨rfl, hneg⟩
  · have HL : Hid (L.length ≤ 1048576 ∧ (∀ i, i < L.length → (L.getD i kd0).2.length ≤ 1048576) ∧ L.length + bulkM L ≤ 1048576) := hid ⟨by omega, fun i hi => by have := bulkM_get L i hi; omega, by omega⟩
    generalize hr : (1048576 : Int) - (L.length : Int) - (bulkM L : Int) = r at *
    have hr2 : ¬ (r < 0) := by omega
    clear hr hpos
    go_wp2_with fail
    refine (toToldS_own _ L _ (H0.out.later c2) HL.out.1 HL.out.2.1).mono ?_
    rintro e w3 ⟨x3, rfl, o3, b3⟩
    have c3 := c2.trans (b3.mono c2.size)
    have R3 := hid o3
    clear o3 b3
    go_wp2_with fail
    refine (specToldRises_any _ L _ _ R3.out HL.out.1).mono ?_
    rintro e w4 ⟨rfl, b4⟩
    have c4 := c3.trans (b4.mono c3.size)
    clear b4
    generalize hg : rises L = gg at *
    go_wp2_with fail
    refine (toToldS_own _ L _ (H0.out.later c4) HL.out.1 HL.out.2.1).mono ?_
    rintro e w5 ⟨x5, rfl, o5, b5⟩
    have c5 := c4.trans (b5.mono c4.size)
    have R5 := hid o5.rd
    clear o5 b5
    go_wp2_with fail
    refine (implToldRises_any _ L _ R5.out HL.out.1).mono ?_
    rintro e w6 ⟨rfl, b6⟩
    have c6 := c5.trans (b6.mono c5.size)
    have R6 := hid (R5.out.later b6)
    clear b6
    rw [hg]
    go_wp2_with fail
    refine (toToldS_own _ L _ (H0.out.later c6) HL.out.1 HL.out.2.1).mono ?_
    rintro e w7 ⟨x7, rfl, o7, b7⟩
    have c7 := c6.trans (b7.mono c6.size)
    have R7 := hid o7.rd
    have R67 := hid (R6.out.later b7)
    clear o7 b7
    go_wp2_with fail
    refine (eqToldS_any _ _ L L _ R67.out R7.out).mono ?_
    rintro e w8 ⟨rfl, b8⟩
    have c8 := c7.trans (b8.mono c7.size)
    rw [eqM_refl]
    go_wp2
    go_ret
    exact ⟨by simp, c8⟩
  · go_wp2
    go_ret
    exact ⟨by simp, c2⟩
end Go.Proofs.Ytnnhpnhnddibjaa
