/- The law's own helpers of Intent and of lists of such: contracts. Written by a program (gk.py). -/
import Derived.Test.YtddpoheoecafjaaGrA
import Derived.Deep.RegionHeld3
import Derived.Lib.QuietBelow
namespace Go.Proofs.Ytddpoheoecafjaa
open Go.RowKit
attribute [local go_sem ↓] Go.wp_at_zero Go.wp_at_succ

set_option maxHeartbeats 1000000 in
theorem eqOp_all (p0 p1 p2 p3 t0 t1 t2 t3 : Int) (w : World) :
    Calls Try.prog 12 #[.agg #[.int .i64 p0, .int .i64 p1, .int .i64 p2, .int .i64 p3], .agg #[.int .i64 t0, .int .i64 t1, .int .i64 t2, .int .i64 t3]] w fun e w' => e = .returned (.bool (decide (p0 = t0) && decide (p1 = t1) && decide (p2 = t2) && decide (p3 = t3))) ∧ Below w.heap.size w w' := by
  go_enter Try.func12, Try.ntmps12
  go_wp2
  all_goals
    go_ret
    exact ⟨by simp_all, by go_grown⟩

end Go.Proofs.Ytddpoheoecafjaa
