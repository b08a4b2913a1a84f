/- impl.reqRight, spec.l6None: contracts. -/
import Derived.Test.YtefhpbcdjgllnaaGreatGrC
namespace Go.Proofs.YtefhpbcdjgllnaaGreat
open Go.RowKit
attribute [local go_sem ↓] Go.wp_at_zero Go.wp_at_succ

def reqR (a b c : Int) : Bool := decide (0 ≤ a ∧ a < 2 ∧ 0 ≤ b ∧ 0 ≤ c)
theorem reqRight_any (a b c : Int) (w : World) : Calls Tryz.prog 85 #[.agg #[.int .i64 a, .int .i64 b, .int .i64 c]] w fun e w' => e = .returned (.bool (reqR a b c)) ∧ Below w.heap.size w w' := by
  go_enter Tryz.func85, Tryz.ntmps85
  go_wp2
  all_goals
    go_ret
    exact ⟨by first | (simp_all [reqR]; done) | (simp_all [reqR]; omega), by go_grown⟩
def zO (a b c d : Int) : Bool := decide (a = 0 ∧ b = 0 ∧ c = 0 ∧ d = 0)
end Go.Proofs.YtefhpbcdjgllnaaGreat
