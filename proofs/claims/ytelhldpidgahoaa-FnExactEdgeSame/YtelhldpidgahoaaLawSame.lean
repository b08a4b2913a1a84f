/- The law FnExactEdgeSame: its walk. -/
import Derived.Test.YtelhldpidgahoaaSame
import Derived.Test.YtelhldpidgahoaaEq
import Derived.Test.YtelhldpidgahoaaTo
namespace Go.Proofs.Ytelhldpidgahoaa
open Go.RowKit

set_option maxHeartbeats 1000000 in
theorem lawSame_any (v : Value) (l : List (Int × Int)) (u : Value) (m : List (Int × Int)) (w : World) (h : Rd w v l) (hu : Rd w u m) :
    Calls Try.prog 7 #[v, u] w fun e w' => e = .returned (.bool true) ∧ Below w.heap.size w w' := by
  obtain ⟨ao, cap, hv, hml, hc⟩ := id h
  subst hv
  clear hc
  obtain ⟨bo, cbp, hv, hmm, hc⟩ := id hu
  subst hv
  clear hc
  by_cases hbig : l.length ≤ 1048576
  · by_cases hbig2 : l.length + m.length ≤ 1048576
    · go_enter Try.func7, Try.ntmps7
      go_wp2_with fail
      refine (sz_fits ao l.length cap _ (by omega) (by omega) _).mono ?_
      rintro e w1 ⟨rfl, rfl⟩
      go_wp2_with fail
      refine (sz_fits bo m.length cbp _ (by omega) (by omega) _).mono ?_
      rintro e w1 ⟨rfl, rfl⟩
      go_wp2_with fail
      refine (toEdgeS_any _ l _ h hbig).mono ?_
      rintro e w2 ⟨va, rfl, oa, b2⟩
      go_wp2_with fail
      refine (toEdgeS_any _ m _ (hu.later b2) (by omega)).mono ?_
      rintro e w3 ⟨vb, rfl, ob, b3⟩
      have hs2 := b2.size
      have b13 := b2.trans (b3.mono hs2)
      go_wp2_with fail
      refine (specSame_any _ _ l m _ (oa.rd.later b3) ob.rd).mono ?_
      rintro e w4 ⟨rfl, b4⟩
      have b14 := b13.trans (b4.mono b13.size)
      go_wp2_with fail
      refine (toEdgeS_any _ l _ (h.later b14) hbig).mono ?_
      rintro e w5 ⟨vc, rfl, oc, b5⟩
      have b15 := b14.trans (b5.mono b14.size)
      go_wp2_with fail
      refine (toEdgeS_any _ m _ (hu.later b15) (by omega)).mono ?_
      rintro e w6 ⟨vd, rfl, od, b6⟩
      have b16 := b15.trans (b6.mono b15.size)
      go_wp2_with fail
      refine (implSame_any _ _ l m _ (oc.rd.later b6) od.rd).mono ?_
      rintro e w7 ⟨rfl, b7⟩
      have b17 := b16.trans (b7.mono b16.size)
      have rc := (oc.rd.later b6).later b7
      have rd := od.rd.later b7
      generalize eqL l m = q
      go_wp2_with fail
      refine (toEdgeS_any _ l _ (h.later b17) hbig).mono ?_
      rintro e w8 ⟨ve, rfl, oe, b8⟩
      have b18 := b17.trans (b8.mono b17.size)
      go_wp2_with fail
      refine (eqEdgeS_any _ _ l l _ (rc.later b8) oe.rd).mono ?_
      rintro e w9 ⟨rfl, b9⟩
      have b19 := b18.trans (b9.mono b18.size)
      rw [eqL_refl]
      go_wp2_with fail
      refine (toEdgeS_any _ m _ (hu.later b19) (by omega)).mono ?_
      rintro e w10 ⟨vf, rfl, og, b10⟩
      have b110 := b19.trans (b10.mono b19.size)
      go_wp2_with fail
      refine (eqEdgeS_any _ _ m m _ (((rd.later b8).later b9).later b10) og.rd).mono ?_
      rintro e w11 ⟨rfl, b11⟩
      rw [eqL_refl]
      go_wp2
      go_ret
      exact ⟨by simp, b110.trans (b11.mono b110.size)⟩
    · go_enter Try.func7, Try.ntmps7
      go_wp2_with fail
      refine (sz_fits ao l.length cap _ (by omega) (by omega) _).mono ?_
      rintro e w1 ⟨rfl, rfl⟩
      go_wp2_with fail
      refine (sz_over bo m.length cbp _ hmm (by omega) (by omega) (by omega) _).mono ?_
      rintro e w1 ⟨rfl, rfl⟩
      go_wp2
      go_ret
      exact ⟨by simp, Below.refl _ _⟩
  · go_enter Try.func7, Try.ntmps7
    go_wp2_with fail
    refine (sz_over ao l.length cap _ hml (by omega) (by omega) (by omega) _).mono ?_
    rintro e w1 ⟨rfl, rfl⟩
    go_wp2
    go_ret
    exact ⟨by simp, Below.refl _ _⟩
end Go.Proofs.Ytelhldpidgahoaa
