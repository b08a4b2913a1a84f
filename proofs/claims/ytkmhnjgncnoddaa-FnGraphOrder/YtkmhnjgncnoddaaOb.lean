/- impl.OpDo, OpBack: contracts. -/
import Derived.Test.YtkmhnjgncnoddaaOa
namespace Go.Proofs.Ytkmhnjgncnoddaa
open Go.RowKit
attribute [local go_sem ↓] Go.wp_at_zero Go.wp_at_succ

theorem method_setDo (k a b n : Int) (w : World) : (method 323 155 (.agg #[.int .i64 k, .int .i64 a, .int .i64 b, .int .i64 n]) "loop.example/kith/impl.do").run Try.prog w = .ok (156, .agg #[.int .i64 k, .int .i64 a, .int .i64 b, .int .i64 n]) w := by kernel_rfl
theorem method_setBack (k a b n : Int) (w : World) : (method 323 155 (.agg #[.int .i64 k, .int .i64 a, .int .i64 b, .int .i64 n]) "loop.example/kith/impl.back").run Try.prog w = .ok (155, .agg #[.int .i64 k, .int .i64 a, .int .i64 b, .int .i64 n]) w := by kernel_rfl
theorem method_bindDo (k a b n : Int) (w : World) : (method 323 158 (.agg #[.int .i64 k, .int .i64 a, .int .i64 b, .int .i64 n]) "loop.example/kith/impl.do").run Try.prog w = .ok (164, .agg #[.int .i64 k, .int .i64 a, .int .i64 b, .int .i64 n]) w := by kernel_rfl
theorem method_bindBack (k a b n : Int) (w : World) : (method 323 158 (.agg #[.int .i64 k, .int .i64 a, .int .i64 b, .int .i64 n]) "loop.example/kith/impl.back").run Try.prog w = .ok (163, .agg #[.int .i64 k, .int .i64 a, .int .i64 b, .int .i64 n]) w := by kernel_rfl
theorem method_partDo (k a b n : Int) (w : World) : (method 323 159 (.agg #[.int .i64 k, .int .i64 a, .int .i64 b, .int .i64 n]) "loop.example/kith/impl.do").run Try.prog w = .ok (167, .agg #[.int .i64 k, .int .i64 a, .int .i64 b, .int .i64 n]) w := by kernel_rfl
theorem method_partBack (k a b n : Int) (w : World) : (method 323 159 (.agg #[.int .i64 k, .int .i64 a, .int .i64 b, .int .i64 n]) "loop.example/kith/impl.back").run Try.prog w = .ok (166, .agg #[.int .i64 k, .int .i64 a, .int .i64 b, .int .i64 n]) w := by kernel_rfl
theorem method_noDo (w : World) : (method 323 120 (.agg #[]) "loop.example/kith/impl.do").run Try.prog w = .ok (151, .agg #[]) w := by kernel_rfl
theorem method_noBack (w : World) : (method 323 120 (.agg #[]) "loop.example/kith/impl.back").run Try.prog w = .ok (150, .agg #[]) w := by kernel_rfl
theorem setBack_any (k a b n m : Int) (v : Value) (w : World) : Calls Try.prog 155 #[.agg #[.int .i64 k, .int .i64 a, .int .i64 b, .int .i64 n], .agg #[.int .i64 m, v]] w fun e w' => e = .returned (.agg #[.int .i64 0, .slice none 0 0]) ∧ Below w.heap.size w w' := by
  go_enter Try.func155, Try.ntmps155
  go_wp2
  refine bodyPost_ret (v := .agg #[.int .i64 0, .slice none 0 0]) (by simp [results, Try.results155, go_sem]) rfl ⟨rfl, ?_⟩
  go_grown
theorem noDo_any (m : Int) (v : Value) (w : World) : Calls Try.prog 151 #[.agg #[], .agg #[.int .i64 m, v]] w fun e w' => e = .returned (.agg #[.int .i64 0, .slice none 0 0]) ∧ Below w.heap.size w w' := by
  go_enter Try.func151, Try.ntmps151
  go_wp2
  refine bodyPost_ret (v := .agg #[.int .i64 0, .slice none 0 0]) (by simp [results, Try.results151, go_sem]) rfl ⟨rfl, ?_⟩
  go_grown
theorem noBack_any (m : Int) (v : Value) (w : World) : Calls Try.prog 150 #[.agg #[], .agg #[.int .i64 m, v]] w fun e w' => e = .returned (.agg #[.int .i64 0, .slice none 0 0]) ∧ Below w.heap.size w w' := by
  go_enter Try.func150, Try.ntmps150
  go_wp2
  refine bodyPost_ret (v := .agg #[.int .i64 0, .slice none 0 0]) (by simp [results, Try.results150, go_sem]) rfl ⟨rfl, ?_⟩
  go_grown
end Go.Proofs.Ytkmhnjgncnoddaa
