/- The law FnExactEdgeAdd: its walk. -/
import Derived.Test.YtelhldpidgahoabAdS
import Derived.Test.YtelhldpidgahoabEq
import Derived.Test.YtelhldpidgahoabTo
import Derived.Test.YtelhldpidgahoabMark
namespace Go.Proofs.Ytelhldpidgahoab
open Go.RowKit

set_option maxHeartbeats 2000000 in
theorem lawAdd_any (v : Value) (l : List (Int × Int)) (who : Int) (since : Int) (w : World) (h : Rd w v l) :
    Calls Try.prog 3 #[v, .int .i64 who, .int .i64 since] w fun e w' => e = .returned (.bool true) ∧ Below w.heap.size w w' := by
  obtain ⟨ao, cap, hv, hml, _⟩ := id h
  subst hv
  by_cases hbig : l.length ≤ 1048576
  · have hll : l.length ≤ 1099511627776 := by omega
    have hF : (addL l who since).length ≤ 1099511627776 := Nat.le_trans (addL_length l who since) (by omega)
    go_enter Try.func3, Try.ntmps3
    go_wp2_with fail
    refine (sz_fits ao l.length cap _ (by omega) (by omega) _).mono ?_
    rintro e w1 ⟨rfl, rfl⟩
    have H := hid h
    clear h
    go_wp2_with fail
    refine (toEdgeS_any _ l _ H.out hbig).mono ?_
    rintro e w2 ⟨va, rfl, oa, b2⟩
    go_wp2_with fail
    refine (specAdd_any _ l who since _ oa.rd hll).mono ?_
    rintro e w3 ⟨vs, rfl, os, b3⟩
    have a3 := b2.trans (b3.mono b2.size)
    go_wp2_with fail
    refine (toEdgeS_any _ l _ (H.out.later a3) hbig).mono ?_
    rintro e w4 ⟨vx, rfl, ox, b4⟩
    have os4 := os.later b4
    have a4 := a3.trans (b4.mono a3.size)
    go_wp2_with fail
    refine (implAdd_any _ l who since _ ox.rd hll).mono ?_
    rintro e w5 ⟨vg, rfl, og, b5⟩
    have hxs := ox.apart' os (Nat.le_refl _)
    have hgs := og.apart' os4 (Nat.le_refl _)
    have hxg := og.apart ox (Nat.le_refl _)
    have os5 := os4.later b5
    have ox5 := ox.later b5
    have a5 := a4.trans (b5.mono a4.size)
    obtain ⟨gq, hgq⟩ : ∃ gq, addB l who since = gq := ⟨_, rfl⟩
    have HQ := hid hgq
    rw [hgq]
    clear hgq
    go_wp2_with fail
    refine (eqEdgeS_any _ _ _ _ _ og.rd os5.rd).mono ?_
    rintro e w6 ⟨rfl, b6⟩
    rw [eqL_refl]
    have os6 := os5.later b6
    have ox6 := ox5.later b6
    have og6 := og.later b6
    have a6 := a5.trans (b6.mono a5.size)
    go_wp2_with fail
    refine (toEdgeS_any _ l _ (H.out.later a6) hbig).mono ?_
    rintro e w7 ⟨vy, rfl, oy, b7⟩
    have os7 := os6.later b7
    have ox7 := ox6.later b7
    have og7 := og6.later b7
    have a7 := a6.trans (b7.mono a6.size)
    go_wp2_with fail
    refine (eqEdgeS_any _ _ _ _ _ ox7.rd oy.rd).mono ?_
    rintro e w8 ⟨rfl, b8⟩
    rw [eqL_refl]
    have os8 := os7.later b8
    have ox8 := ox7.later b8
    have og8 := og7.later b8
    have a8 := a7.trans (b8.mono a7.size)
    have s4 : w1.heap.size ≤ w3.heap.size := a3.size
    have s5 : w1.heap.size ≤ w4.heap.size := a4.size
    clear os os4 os5 os6 os7 ox ox5 ox6 ox7 og og6 og7 oa oy a3 a4 a5 a6 a7
    go_wp2_with fail
    refine (mark_any vx l 1 _ _ ox8 (by omega) (by omega) hll).mono ?_
    rintro e w9 ⟨rfl, ox9, g9⟩
    have os9 := os8.kept g9 (hxs.imp id fun x => x)
    have og9 := og8.kept g9 hxg
    have a9 : Below w1.heap.size w1 w9 := a8.grown g9 a8.size (fun k e => Nat.le_trans s4 (ox8.block k e).1)
    have os8' := os8
    clear os8 og8 ox8 a8
    go_wp2_with fail
    refine (eqEdgeS_any _ _ _ _ _ og9.rd os9.rd).mono ?_
    rintro e w10 ⟨rfl, b10⟩
    rw [eqL_refl]
    have os10 := os9.later b10
    have og10 := og9.later b10
    have a10 := a9.trans (b10.mono a9.size)
    go_wp2_with fail
    refine (mark_any vg _ 1 _ _ og10 (by omega) (by omega) hF).mono ?_
    rintro e w11 ⟨rfl, og11, g11⟩
    have os11 := os10.kept g11 hgs
    have a11 : Below w1.heap.size w1 w11 := a10.grown g11 a10.size (fun k e => Nat.le_trans s5 (og10.block k e).1)
    go_wp2_with fail
    refine (held_any vg _ 1 _ og11.rd (by omega) (by omega) hF).mono ?_
    rintro e w12 ⟨rfl, rfl⟩
    have hn0 : (0 : Int) ≤ ((addL l who since).length : Int) := by omega
    go_wp2_with fail
    refine (toEdgeS_any _ l _ (H.out.later a11) hbig).mono ?_
    rintro e w13 ⟨vz, rfl, oz, b13⟩
    have os13 := os11.later b13
    have og13 := og11.later b13
    have a13 := a11.trans (b13.mono a11.size)
    go_wp2_with fail
    refine (implAdd_any _ l who since _ oz.rd hll).mono ?_
    rintro e w14 ⟨vh, rfl, oh, b14⟩
    have os14 := os13.later b14
    have og14 := og13.later b14
    have a14 := a13.trans (b14.mono a13.size)
    rw [HQ.out]
    go_wp2_with fail
    refine (eqEdgeS_any _ _ _ _ _ oh.rd os14.rd).mono ?_
    rintro e w15 ⟨rfl, b15⟩
    rw [eqL_refl]
    have og15 := og14.later b15
    have a15 := a14.trans (b15.mono a14.size)
    go_wp2_with fail
    refine (held_any vg _ 1 _ og15.rd (by omega) (by omega) hF).mono ?_
    rintro e w16 ⟨rfl, rfl⟩
    go_wp2
    go_ret
    exact ⟨by simp, a15⟩
  · go_enter Try.func3, Try.ntmps3
    go_wp2_with fail
    refine (sz_over ao l.length cap _ hml (by omega) (by omega) (by omega) _).mono ?_
    rintro e w1 ⟨rfl, rfl⟩
    go_wp2
    go_ret
    exact ⟨by simp, Below.refl _ _⟩
end Go.Proofs.Ytelhldpidgahoab
