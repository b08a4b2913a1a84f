/- The law's own helpers of Intent and of lists of such: contracts. Written by a program (gk.py). -/
import Derived.Test.YtddpoheoecafjaaGreatGrA
import Derived.Deep.RegionHeld3
import Derived.Lib.QuietBelow
namespace Go.Proofs.YtddpoheoecafjaaGreat
open Go.RowKit
attribute [local go_sem ↓] Go.wp_at_zero Go.wp_at_succ

set_option maxHeartbeats 1000000 in
theorem eqOp_all (p0 p1 p2 p3 t0 t1 t2 t3 : Int) (w : World) :
    Calls Tryz.prog 42 #[.agg #[.int .i64 p0, .int .i64 p1, .int .i64 p2, .int .i64 p3], .agg #[.int .i64 t0, .int .i64 t1, .int .i64 t2, .int .i64 t3]] w fun e w' => e = .returned (.bool (decide (p0 = t0) && decide (p1 = t1) && decide (p2 = t2) && decide (p3 = t3))) ∧ Below w.heap.size w w' := by
  go_enter Tryz.func42, Tryz.ntmps42
  go_wp2
  all_goals
    go_ret
    exact ⟨by simp_all, by go_grown⟩

set_option maxHeartbeats 1000000 in
theorem toOp_all (p0 p1 p2 p3 : Int) (w : World) :
    Calls Tryz.prog 24 #[.agg #[.int .i64 p0, .int .i64 p1, .int .i64 p2, .int .i64 p3]] w fun e w' => e = .returned (.agg #[.int .i64 p0, .int .i64 p1, .int .i64 p2, .int .i64 p3]) ∧ Below w.heap.size w w' := by
  go_enter Tryz.func24, Tryz.ntmps24
  go_wp2
  refine bodyPost_ret (v := .agg #[.int .i64 p0, .int .i64 p1, .int .i64 p2, .int .i64 p3]) (by simp [results, Tryz.results24, go_sem]) rfl ⟨rfl, ?_⟩
  go_grown

end Go.Proofs.YtddpoheoecafjaaGreat
