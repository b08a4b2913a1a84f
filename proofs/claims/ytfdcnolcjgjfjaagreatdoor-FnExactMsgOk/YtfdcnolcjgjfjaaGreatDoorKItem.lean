/- The law's own helpers of Item and of lists of such: contracts. Written by a program (gk.py). -/
import Derived.Test.YtfdcnolcjgjfjaaGreatDoorFb
import Derived.Test.YtfdcnolcjgjfjaaGreatDoorGe
import Derived.Deep.RegionHeld3
import Derived.Lib.QuietBelow
namespace Go.Proofs.YtfdcnolcjgjfjaaGreatDoor
open Go.RowKit
attribute [local go_sem ↓] Go.wp_at_zero Go.wp_at_succ

set_option maxHeartbeats 2000000 in
theorem eqItem_any (p0 p1 p2 t0 t1 t2 : Int) (la lb : List (Int × Int)) (va vb : Value) (w : World) (ha : Rd w va la) (hb : Rd w vb lb) :
    Calls Tryz.prog 51 #[.agg #[.int .i64 p0, .int .i64 p1, .int .i64 p2, va], .agg #[.int .i64 t0, .int .i64 t1, .int .i64 t2, vb]] w fun e w' => e = .returned (.bool (eqK ([p0, p1, p2], la) ([t0, t1, t2], lb))) ∧ Below w.heap.size w w' := by
  have HA := hid ha
  have HB := hid hb
  clear ha hb
  go_enter Tryz.func51, Tryz.ntmps51
  go_wp2_with (first | (go_at_call 91; refine (eqVal_any p2 t2 va vb la lb _ (HA.out.later (by go_grown)) (HB.out.later (by go_grown))).mono ?_; rintro e w2 ⟨rfl, b2⟩; have bb : Below w.heap.size w w2 := (Below.trans (by go_grown) (b2.mono (by first | omega | (simp; done) | (simp; omega))))))
  all_goals
    go_ret
    exact ⟨by first | (simp_all [eqK, eqL]; done) | (simp_all [eqK, eqL]; omega) | (simp_all [eqK, eqL]; intro h; rename_i h0; exact h0.resolve_left (fun g => g h)), by first | exact bb | go_grown⟩

end Go.Proofs.YtfdcnolcjgjfjaaGreatDoor
