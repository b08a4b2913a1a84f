/- impl.OpDo, OpBack: contracts. -/
import Derived.Test.YtpdfhffmhlgcmaaOa
namespace Go.Proofs.Ytpdfhffmhlgcmaa
open Go.RowKit
attribute [local go_sem ↓] Go.wp_at_zero Go.wp_at_succ

theorem method_setDo (k a b n : Int) (w : World) : (method 229 82 (.agg #[.int .i64 k, .int .i64 a, .int .i64 b, .int .i64 n]) "loop.example/kith/impl.do").run Try.prog w = .ok (81, .agg #[.int .i64 k, .int .i64 a, .int .i64 b, .int .i64 n]) w := by kernel_rfl
theorem method_setBack (k a b n : Int) (w : World) : (method 229 82 (.agg #[.int .i64 k, .int .i64 a, .int .i64 b, .int .i64 n]) "loop.example/kith/impl.back").run Try.prog w = .ok (80, .agg #[.int .i64 k, .int .i64 a, .int .i64 b, .int .i64 n]) w := by kernel_rfl
theorem method_bindDo (k a b n : Int) (w : World) : (method 229 85 (.agg #[.int .i64 k, .int .i64 a, .int .i64 b, .int .i64 n]) "loop.example/kith/impl.do").run Try.prog w = .ok (89, .agg #[.int .i64 k, .int .i64 a, .int .i64 b, .int .i64 n]) w := by kernel_rfl
theorem method_bindBack (k a b n : Int) (w : World) : (method 229 85 (.agg #[.int .i64 k, .int .i64 a, .int .i64 b, .int .i64 n]) "loop.example/kith/impl.back").run Try.prog w = .ok (88, .agg #[.int .i64 k, .int .i64 a, .int .i64 b, .int .i64 n]) w := by kernel_rfl
theorem method_partDo (k a b n : Int) (w : World) : (method 229 86 (.agg #[.int .i64 k, .int .i64 a, .int .i64 b, .int .i64 n]) "loop.example/kith/impl.do").run Try.prog w = .ok (92, .agg #[.int .i64 k, .int .i64 a, .int .i64 b, .int .i64 n]) w := by kernel_rfl
theorem method_partBack (k a b n : Int) (w : World) : (method 229 86 (.agg #[.int .i64 k, .int .i64 a, .int .i64 b, .int .i64 n]) "loop.example/kith/impl.back").run Try.prog w = .ok (91, .agg #[.int .i64 k, .int .i64 a, .int .i64 b, .int .i64 n]) w := by kernel_rfl
theorem method_noDo (w : World) : (method 229 71 (.agg #[]) "loop.example/kith/impl.do").run Try.prog w = .ok (76, .agg #[]) w := by kernel_rfl
theorem method_noBack (w : World) : (method 229 71 (.agg #[]) "loop.example/kith/impl.back").run Try.prog w = .ok (75, .agg #[]) w := by kernel_rfl
theorem setBack_any (k a b n m : Int) (v : Value) (w : World) : Calls Try.prog 80 #[.agg #[.int .i64 k, .int .i64 a, .int .i64 b, .int .i64 n], .agg #[.int .i64 m, v]] w fun e w' => e = .returned (.agg #[.int .i64 0, .slice none 0 0]) ∧ Below w.heap.size w w' := by
  go_enter Try.func80, Try.ntmps80
  go_wp2
  refine bodyPost_ret (v := .agg #[.int .i64 0, .slice none 0 0]) (by simp [results, Try.results80, go_sem]) rfl ⟨rfl, ?_⟩
  go_grown
theorem noDo_any (m : Int) (v : Value) (w : World) : Calls Try.prog 76 #[.agg #[], .agg #[.int .i64 m, v]] w fun e w' => e = .returned (.agg #[.int .i64 0, .slice none 0 0]) ∧ Below w.heap.size w w' := by
  go_enter Try.func76, Try.ntmps76
  go_wp2
  refine bodyPost_ret (v := .agg #[.int .i64 0, .slice none 0 0]) (by simp [results, Try.results76, go_sem]) rfl ⟨rfl, ?_⟩
  go_grown
theorem noBack_any (m : Int) (v : Value) (w : World) : Calls Try.prog 75 #[.agg #[], .agg #[.int .i64 m, v]] w fun e w' => e = .returned (.agg #[.int .i64 0, .slice none 0 0]) ∧ Below w.heap.size w w' := by
  go_enter Try.func75, Try.ntmps75
  go_wp2
  refine bodyPost_ret (v := .agg #[.int .i64 0, .slice none 0 0]) (by simp [results, Try.results75, go_sem]) rfl ⟨rfl, ?_⟩
  go_grown
end Go.Proofs.Ytpdfhffmhlgcmaa
