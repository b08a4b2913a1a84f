/- heldBy, the assertion, the methods val: contracts. -/
import Derived.Test.YtkmhnjgncnoddaaGreatPl
import Derived.Test.YtkmhnjgncnoddaaGreatKk
import Derived.Deep.RegionHeld3
import Derived.Deep.DrawnRows
namespace Go.Proofs.YtkmhnjgncnoddaaGreat
open Go.RowKit
attribute [local go_sem ↓] Go.wp_at_zero Go.wp_at_succ

theorem heldBy_num (k n : Int) (v : Value) (w : World) (hk : kindOf k = 0) :
    Calls Tryz.prog 154 #[.int .i64 k, .agg #[.int .i64 n, v]] w fun e w' => e = .returned (.iface 239 (.int .i64 n)) ∧ Below w.heap.size w w' := by
  go_enter Tryz.func154, Tryz.ntmps154
  go_wp2_with fail
  refine (implKind_any k _).mono ?_
  rintro e w1 ⟨rfl, rfl⟩
  rw [hk]
  go_wp2
  go_ret
  exact ⟨by simp, by go_grown⟩

theorem heldBy_kin (k n : Int) (v : Value) (w : World) (hk : (kindOf k == 0) = false) :
    Calls Tryz.prog 154 #[.int .i64 k, .agg #[.int .i64 n, v]] w fun e w' => e = .returned (.iface 240 v) ∧ Below w.heap.size w w' := by
  go_enter Tryz.func154, Tryz.ntmps154
  go_wp2_with fail
  refine (implKind_any k _).mono ?_
  rintro e w1 ⟨rfl, rfl⟩
  go_wp2
  go_ret
  exact ⟨by simp, by go_grown⟩

theorem assert_num (n : Int) (w : World) : (Instr.typeAssert (.iface 239 (.int .i64 n)) 220 239 true).run Tryz.prog w = .ok (.tuple #[.int .i64 n, .bool true]) w := by kernel_rfl
theorem assert_kin (v : Value) (w : World) : (Instr.typeAssert (.iface 240 v) 220 239 true).run Tryz.prog w = .ok (.tuple #[.int .i64 0, .bool false]) w := by kernel_rfl

theorem numVal_any (n : Int) (w : World) :
    Calls Tryz.prog 272 #[.int .i64 n] w fun e w' => e = .returned (.agg #[.int .i64 n, .slice none 0 0]) ∧ Below w.heap.size w w' := by
  go_enter Tryz.func272, Tryz.ntmps272
  go_wp2
  refine bodyPost_ret (v := .agg #[.int .i64 n, .slice none 0 0]) (by simp [results, Tryz.results272, go_sem]) rfl ⟨rfl, ?_⟩
  go_grown
theorem kinVal_any (ao : Option Addr) (len cap : Nat) (w : World) :
    Calls Tryz.prog 273 #[.slice ao len cap] w fun e w' => e = .returned (.agg #[.int .i64 0, .slice ao len cap]) ∧ Below w.heap.size w w' := by
  go_enter Tryz.func273, Tryz.ntmps273
  go_wp2
  refine bodyPost_ret (v := .agg #[.int .i64 0, .slice ao len cap]) (by simp [results, Tryz.results273, go_sem]) rfl ⟨rfl, ?_⟩
  go_grown

theorem method_num (n : Int) (w : World) : (method 413 239 (.int .i64 n) "loop.example/kith/impl.val").run Tryz.prog w = .ok (272, .int .i64 n) w := by kernel_rfl
theorem method_kin (v : Value) (w : World) : (method 413 240 v "loop.example/kith/impl.val").run Tryz.prog w = .ok (273, v) w := by kernel_rfl
end Go.Proofs.YtkmhnjgncnoddaaGreat
