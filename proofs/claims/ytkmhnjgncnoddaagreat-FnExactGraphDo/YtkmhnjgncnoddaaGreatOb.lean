/- impl.OpDo, OpBack: contracts. -/
import Derived.Test.YtkmhnjgncnoddaaGreatOa
namespace Go.Proofs.YtkmhnjgncnoddaaGreat
open Go.RowKit
attribute [local go_sem ↓] Go.wp_at_zero Go.wp_at_succ

theorem method_setDo (k a b n : Int) (w : World) : (method 413 206 (.agg #[.int .i64 k, .int .i64 a, .int .i64 b, .int .i64 n]) "loop.example/kith/impl.do").run Tryz.prog w = .ok (257, .agg #[.int .i64 k, .int .i64 a, .int .i64 b, .int .i64 n]) w := by kernel_rfl
theorem method_setBack (k a b n : Int) (w : World) : (method 413 206 (.agg #[.int .i64 k, .int .i64 a, .int .i64 b, .int .i64 n]) "loop.example/kith/impl.back").run Tryz.prog w = .ok (256, .agg #[.int .i64 k, .int .i64 a, .int .i64 b, .int .i64 n]) w := by kernel_rfl
theorem method_bindDo (k a b n : Int) (w : World) : (method 413 209 (.agg #[.int .i64 k, .int .i64 a, .int .i64 b, .int .i64 n]) "loop.example/kith/impl.do").run Tryz.prog w = .ok (265, .agg #[.int .i64 k, .int .i64 a, .int .i64 b, .int .i64 n]) w := by kernel_rfl
theorem method_bindBack (k a b n : Int) (w : World) : (method 413 209 (.agg #[.int .i64 k, .int .i64 a, .int .i64 b, .int .i64 n]) "loop.example/kith/impl.back").run Tryz.prog w = .ok (264, .agg #[.int .i64 k, .int .i64 a, .int .i64 b, .int .i64 n]) w := by kernel_rfl
theorem method_partDo (k a b n : Int) (w : World) : (method 413 210 (.agg #[.int .i64 k, .int .i64 a, .int .i64 b, .int .i64 n]) "loop.example/kith/impl.do").run Tryz.prog w = .ok (268, .agg #[.int .i64 k, .int .i64 a, .int .i64 b, .int .i64 n]) w := by kernel_rfl
theorem method_partBack (k a b n : Int) (w : World) : (method 413 210 (.agg #[.int .i64 k, .int .i64 a, .int .i64 b, .int .i64 n]) "loop.example/kith/impl.back").run Tryz.prog w = .ok (267, .agg #[.int .i64 k, .int .i64 a, .int .i64 b, .int .i64 n]) w := by kernel_rfl
theorem method_noDo (w : World) : (method 413 139 (.agg #[]) "loop.example/kith/impl.do").run Tryz.prog w = .ok (252, .agg #[]) w := by kernel_rfl
theorem method_noBack (w : World) : (method 413 139 (.agg #[]) "loop.example/kith/impl.back").run Tryz.prog w = .ok (251, .agg #[]) w := by kernel_rfl
theorem setBack_any (k a b n m : Int) (v : Value) (w : World) : Calls Tryz.prog 256 #[.agg #[.int .i64 k, .int .i64 a, .int .i64 b, .int .i64 n], .agg #[.int .i64 m, v]] w fun e w' => e = .returned (.agg #[.int .i64 0, .slice none 0 0]) ∧ Below w.heap.size w w' := by
  go_enter Tryz.func256, Tryz.ntmps256
  go_wp2
  refine bodyPost_ret (v := .agg #[.int .i64 0, .slice none 0 0]) (by simp [results, Tryz.results256, go_sem]) rfl ⟨rfl, ?_⟩
  go_grown
theorem noDo_any (m : Int) (v : Value) (w : World) : Calls Tryz.prog 252 #[.agg #[], .agg #[.int .i64 m, v]] w fun e w' => e = .returned (.agg #[.int .i64 0, .slice none 0 0]) ∧ Below w.heap.size w w' := by
  go_enter Tryz.func252, Tryz.ntmps252
  go_wp2
  refine bodyPost_ret (v := .agg #[.int .i64 0, .slice none 0 0]) (by simp [results, Tryz.results252, go_sem]) rfl ⟨rfl, ?_⟩
  go_grown
theorem noBack_any (m : Int) (v : Value) (w : World) : Calls Tryz.prog 251 #[.agg #[], .agg #[.int .i64 m, v]] w fun e w' => e = .returned (.agg #[.int .i64 0, .slice none 0 0]) ∧ Below w.heap.size w w' := by
  go_enter Tryz.func251, Tryz.ntmps251
  go_wp2
  refine bodyPost_ret (v := .agg #[.int .i64 0, .slice none 0 0]) (by simp [results, Tryz.results251, go_sem]) rfl ⟨rfl, ?_⟩
  go_grown
end Go.Proofs.YtkmhnjgncnoddaaGreat
