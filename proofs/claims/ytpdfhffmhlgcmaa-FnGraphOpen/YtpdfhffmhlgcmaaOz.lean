/- OpOk, OpOther and their like, of both; toOp: contracts. -/
import Derived.Test.YtpdfhffmhlgcmaaOy
namespace Go.Proofs.Ytpdfhffmhlgcmaa
open Go.RowKit
attribute [local go_sem ↓] Go.wp_at_zero Go.wp_at_succ

theorem method_setOther (k a b n : Int) (w : World) : (method 229 82 (.agg #[.int .i64 k, .int .i64 a, .int .i64 b, .int .i64 n]) "loop.example/kith/impl.other").run Try.prog w = .ok (83, .agg #[.int .i64 k, .int .i64 a, .int .i64 b, .int .i64 n]) w := by kernel_rfl
theorem method_bindOther (k a b n : Int) (w : World) : (method 229 85 (.agg #[.int .i64 k, .int .i64 a, .int .i64 b, .int .i64 n]) "loop.example/kith/impl.other").run Try.prog w = .ok (87, .agg #[.int .i64 k, .int .i64 a, .int .i64 b, .int .i64 n]) w := by kernel_rfl
theorem method_partOther (k a b n : Int) (w : World) : (method 229 86 (.agg #[.int .i64 k, .int .i64 a, .int .i64 b, .int .i64 n]) "loop.example/kith/impl.other").run Try.prog w = .ok (87, .agg #[.int .i64 k, .int .i64 a, .int .i64 b, .int .i64 n]) w := by kernel_rfl
theorem method_noOther (w : World) : (method 229 71 (.agg #[]) "loop.example/kith/impl.other").run Try.prog w = .ok (78, .agg #[]) w := by kernel_rfl
theorem setOther_any (k a b n : Int) (w : World) : Calls Try.prog 83 #[.agg #[.int .i64 k, .int .i64 a, .int .i64 b, .int .i64 n]] w fun e w' => e = .returned (.int .i64 (-1)) ∧ Below w.heap.size w w' := by
  go_enter Try.func83, Try.ntmps83
  go_wp2
  go_ret
  exact ⟨by simp, by go_grown⟩
theorem noOther_any (w : World) : Calls Try.prog 78 #[.agg #[]] w fun e w' => e = .returned (.int .i64 (-1)) ∧ Below w.heap.size w w' := by
  go_enter Try.func78, Try.ntmps78
  go_wp2
  go_ret
  exact ⟨by simp, by go_grown⟩

end Go.Proofs.Ytpdfhffmhlgcmaa
