/- impl.reqRight, spec.l6None: contracts. -/
import Derived.Test.YtddpoheoecafjaaGreatGrC
namespace Go.Proofs.YtddpoheoecafjaaGreat
open Go.RowKit
attribute [local go_sem ↓] Go.wp_at_zero Go.wp_at_succ

def reqR (a b c : Int) : Bool := decide (0 ≤ a ∧ a < 2 ∧ 0 ≤ b ∧ 0 ≤ c)
theorem reqRight_any (a b c : Int) (w : World) : Calls Tryz.prog 37 #[.agg #[.int .i64 a, .int .i64 b, .int .i64 c]] w fun e w' => e = .returned (.bool (reqR a b c)) ∧ Below w.heap.size w w' := by
  go_enter Tryz.func37, Tryz.ntmps37
  go_wp2
  all_goals
    go_ret
    exact ⟨by first | (simp_all [reqR]; done) | (simp_all [reqR]; omega), by go_grown⟩
def zO (a b c d : Int) : Bool := decide (a = 0 ∧ b = 0 ∧ c = 0 ∧ d = 0)
theorem l6None_any (a b c d : Int) (w : World) : Calls Tryz.prog 32 #[.agg #[.int .i64 a, .int .i64 b, .int .i64 c, .int .i64 d]] w fun e w' => e = .returned (.bool (zO a b c d)) ∧ Below w.heap.size w w' := by
  go_enter Tryz.func32, Tryz.ntmps32
  go_wp2
  all_goals
    go_ret
    exact ⟨by first | (simp_all [zO]; done) | (simp_all [zO]; omega), by go_grown⟩
end Go.Proofs.YtddpoheoecafjaaGreat
