/- impl.OpKey: contracts. -/
import Derived.Test.YtpdfhffmhlgcmaaOy
namespace Go.Proofs.Ytpdfhffmhlgcmaa
open Go.RowKit
attribute [local go_sem ↓] Go.wp_at_zero Go.wp_at_succ

theorem method_setKey (k a b n : Int) (w : World) : (method 229 82 (.agg #[.int .i64 k, .int .i64 a, .int .i64 b, .int .i64 n]) "loop.example/kith/impl.key").run Try.prog w = .ok (82, .agg #[.int .i64 k, .int .i64 a, .int .i64 b, .int .i64 n]) w := by kernel_rfl
theorem method_bindKey (k a b n : Int) (w : World) : (method 229 85 (.agg #[.int .i64 k, .int .i64 a, .int .i64 b, .int .i64 n]) "loop.example/kith/impl.key").run Try.prog w = .ok (86, .agg #[.int .i64 k, .int .i64 a, .int .i64 b, .int .i64 n]) w := by kernel_rfl
theorem method_partKey (k a b n : Int) (w : World) : (method 229 86 (.agg #[.int .i64 k, .int .i64 a, .int .i64 b, .int .i64 n]) "loop.example/kith/impl.key").run Try.prog w = .ok (86, .agg #[.int .i64 k, .int .i64 a, .int .i64 b, .int .i64 n]) w := by kernel_rfl
theorem method_noKey (w : World) : (method 229 71 (.agg #[]) "loop.example/kith/impl.key").run Try.prog w = .ok (77, .agg #[]) w := by kernel_rfl
theorem noKey_any (w : World) : Calls Try.prog 77 #[.agg #[]] w fun e w' => e = .returned (.int .i64 (-1)) ∧ Below w.heap.size w w' := by
  go_enter Try.func77, Try.ntmps77
  go_wp2
  go_ret
  exact ⟨by simp, by go_grown⟩
end Go.Proofs.Ytpdfhffmhlgcmaa
