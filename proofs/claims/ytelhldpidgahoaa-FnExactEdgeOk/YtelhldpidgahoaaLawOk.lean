/- The law FnExactEdgeOk: its walk. -/
import Derived.Test.YtelhldpidgahoaaOkS
import Derived.Test.YtelhldpidgahoaaOkI
import Derived.Test.YtelhldpidgahoaaEq
import Derived.Test.YtelhldpidgahoaaTo
namespace Go.Proofs.Ytelhldpidgahoaa
open Go.RowKit

set_option maxHeartbeats 1000000 in
theorem lawOk_any (v : Value) (l : List (Int × Int)) (w : World) (h : Rd w v l) :
    Calls Try.prog 6 #[v] w fun e w' => e = .returned (.bool true) ∧ Below w.heap.size w w' := by
  obtain ⟨ao, cap, hv, hml, hc⟩ := id h
  subst hv
  clear hc
  by_cases hbig : l.length ≤ 1048576
  · go_enter Try.func6, Try.ntmps6
    go_wp2_with fail
    refine (sz_fits ao l.length cap _ (by omega) (by omega) _).mono ?_
    rintro e w1 ⟨rfl, rfl⟩
    go_wp2_with fail
    refine (toEdgeS_any _ l _ h hbig).mono ?_
    rintro e w2 ⟨va, rfl, oa, b2⟩
    go_wp2_with fail
    refine (specOk_any _ l _ oa.rd).mono ?_
    rintro e w3 ⟨rfl, b3⟩
    have b13 := b2.trans (b3.mono b2.size)
    go_wp2_with fail
    refine (toEdgeS_any _ l _ (h.later b13) hbig).mono ?_
    rintro e w4 ⟨vb, rfl, ob, b4⟩
    have b14 := b13.trans (b4.mono b13.size)
    go_wp2_with fail
    refine (implOk_any _ l _ ob.rd).mono ?_
    rintro e w5 ⟨rfl, b5⟩
    have b15 := b14.trans (b5.mono b14.size)
    generalize okL l = q
    go_wp2_with fail
    refine (toEdgeS_any _ l _ (h.later b15) hbig).mono ?_
    rintro e w6 ⟨vc, rfl, oc, b6⟩
    have b16 := b15.trans (b6.mono b15.size)
    go_wp2_with fail
    refine (eqEdgeS_any _ _ l l _ ((ob.rd.later b5).later b6) oc.rd).mono ?_
    rintro e w7 ⟨rfl, b7⟩
    rw [eqL_refl]
    go_wp2
    go_ret
    exact ⟨by simp, b16.trans (b7.mono b16.size)⟩
  · go_enter Try.func6, Try.ntmps6
    go_wp2_with fail
    refine (sz_over ao l.length cap _ hml (by omega) (by omega) (by omega) _).mono ?_
    rintro e w1 ⟨rfl, rfl⟩
    go_wp2
    go_ret
    exact ⟨by simp, Below.refl _ _⟩
end Go.Proofs.Ytelhldpidgahoaa
