/- The law FnExactEdgeHas: its walk. -/
import Derived.Test.YtelhldpidgahoabHas
import Derived.Test.YtelhldpidgahoabEq
import Derived.Test.YtelhldpidgahoabTo
namespace Go.Proofs.Ytelhldpidgahoab
open Go.RowKit

set_option maxHeartbeats 1000000 in
theorem lawHas_any (v : Value) (l : List (Int × Int)) (who : Int) (w : World) (h : Rd w v l) :
    Calls Try.prog 5 #[v, .int .i64 who] w fun e w' => e = .returned (.bool true) ∧ Below w.heap.size w w' := by
  obtain ⟨ao, cap, hv, hml, hc⟩ := id h
  subst hv
  clear hc
  by_cases hbig : l.length ≤ 1048576
  · go_enter Try.func5, Try.ntmps5
    go_wp2_with fail
    refine (sz_fits ao l.length cap _ (by omega) (by omega) _).mono ?_
    rintro e w1 ⟨rfl, rfl⟩
    go_wp2_with fail
    refine (toEdgeS_any _ l _ h hbig).mono ?_
    rintro e w2 ⟨va, rfl, oa, b2⟩
    go_wp2_with fail
    refine (specHas_any _ l who _ oa.rd).mono ?_
    rintro e w3 ⟨rfl, rfl⟩
    go_wp2_with fail
    refine (toEdgeS_any _ l _ (h.later b2) hbig).mono ?_
    rintro e w4 ⟨vb, rfl, ob, b4⟩
    go_wp2_with fail
    refine (implHas_any _ l who _ ob.rd).mono ?_
    rintro e w5 ⟨rfl, b5⟩
    have hs2 := b2.size
    have hs4 := b4.size
    have b25 : Below w1.heap.size w1 w5 := (b2.trans (b4.mono hs2)).trans (b5.mono (by omega))
    go_wp2_with fail
    refine (toEdgeS_any _ l _ (h.later b25) hbig).mono ?_
    rintro e w6 ⟨vc, rfl, oc, b6⟩
    go_wp2_with fail
    refine (eqEdgeS_any _ _ l l _ (ob.rd.later (b5.trans (b6.mono b5.size))) oc.rd).mono ?_
    rintro e w7 ⟨rfl, b7⟩
    rw [eqL_refl]
    go_wp2
    go_ret
    exact ⟨by simp, (b25.trans (b6.mono b25.size)).trans (b7.mono (Nat.le_trans b25.size b6.size))⟩
  · go_enter Try.func5, Try.ntmps5
    go_wp2_with fail
    refine (sz_over ao l.length cap _ hml (by omega) (by omega) (by omega) _).mono ?_
    rintro e w1 ⟨rfl, rfl⟩
    go_wp2
    go_ret
    exact ⟨by simp, Below.refl _ _⟩
end Go.Proofs.Ytelhldpidgahoab
