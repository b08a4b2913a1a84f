/- The law FnExactEdgeText: its walk. -/
import Derived.Test.YtdcendbfkjmfjabDoorTj
import Derived.Test.YtdcendbfkjmfjabDoorEq
namespace Go.Proofs.YtdcendbfkjmfjabDoor
open Go.RowKit

set_option maxRecDepth 10000 in
set_option maxHeartbeats 1000000 in
theorem lawText_any (v : Value) (l : List (Int × Int)) (w : World) (h : Rd w v l) (hw : WfL l) (ht : Tab w) :
    Calls Tryd.prog 4 #[v] w fun e w' => e = .returned (.bool true) ∧ Below w.heap.size w w' := by
  obtain ⟨ao, cap, hv, hml, hc⟩ := id h
  subst hv
  clear hc
  have HT := hid ht
  clear ht
  by_cases hbig : l.length ≤ 1048576
  · go_enter Tryd.func4, Tryd.ntmps4
    go_wp2_with fail
    refine (sz_fits ao l.length cap _ (by omega) (by omega) _).mono ?_
    rintro e w1 ⟨rfl, rfl⟩
    go_wp2_with fail
    refine (toEdgeS_any _ l _ h hbig).mono ?_
    rintro e w2 ⟨va, rfl, oa, b2⟩
    go_wp2_with fail
    refine (specText_any _ l _ oa.rd hbig hw).mono ?_
    rintro e w3 ⟨rfl, b3⟩
    have b13 := b2.trans (b3.mono b2.size)
    go_wp2_with fail
    refine (toEdgeS_any _ l _ (h.later b13) hbig).mono ?_
    rintro e w4 ⟨vb, rfl, ob, b4⟩
    have b14 := b13.trans (b4.mono b13.size)
    go_wp2_with fail
    refine (implText_any _ l _ ob.rd hbig hw (HT.out.below b14)).mono ?_
    rintro e w5 ⟨rfl, b5⟩
    have b15 := b14.trans (b5.mono b14.size)
    generalize (⟨(textL l).toArray⟩ : ByteArray) = q
    go_wp2_with fail
    refine (toEdgeS_any _ l _ (h.later b15) hbig).mono ?_
    rintro e w6 ⟨vc, rfl, oc, b6⟩
    have b16 := b15.trans (b6.mono b15.size)
    go_wp2_with fail
    refine (eqEdgeS_any _ _ l l _ ((ob.rd.later b5).later b6) oc.rd).mono ?_
    rintro e w7 ⟨rfl, b7⟩
    rw [eqL_refl]
    go_wp2
    go_ret
    exact ⟨by simp, b16.trans (b7.mono b16.size)⟩
  · go_enter Tryd.func4, Tryd.ntmps4
    go_wp2_with fail
    refine (sz_over ao l.length cap _ hml (by omega) (by omega) (by omega) _).mono ?_
    rintro e w1 ⟨rfl, rfl⟩
    go_wp2
    go_ret
    exact ⟨by simp, Below.refl _ _⟩
end Go.Proofs.YtdcendbfkjmfjabDoor
