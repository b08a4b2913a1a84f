/- heldBy, the assertion, the methods val: contracts. -/
import Derived.Test.YtnpfkhbnfihbdacDoorPl
import Derived.Test.YtnpfkhbnfihbdacDoorKk
import Derived.Deep.RegionHeld3
import Derived.Deep.DrawnRows
namespace Go.Proofs.YtnpfkhbnfihbdacDoor
open Go.RowKit
attribute [local go_sem ↓] Go.wp_at_zero Go.wp_at_succ

theorem assert_num (n : Int) (w : World) : (Instr.typeAssert (.iface 72 (.int .i64 n)) 48 72 true).run Tryd.prog w = .ok (.tuple #[.int .i64 n, .bool true]) w := by kernel_rfl
theorem assert_kin (v : Value) (w : World) : (Instr.typeAssert (.iface 73 v) 48 72 true).run Tryd.prog w = .ok (.tuple #[.int .i64 0, .bool false]) w := by kernel_rfl

theorem numVal_any (n : Int) (w : World) :
    Calls Tryd.prog 112 #[.int .i64 n] w fun e w' => e = .returned (.agg #[.int .i64 n, .slice none 0 0]) ∧ Below w.heap.size w w' := by
  go_enter Tryd.func112, Tryd.ntmps112
  go_wp2
  refine bodyPost_ret (v := .agg #[.int .i64 n, .slice none 0 0]) (by simp [results, Tryd.results112, go_sem]) rfl ⟨rfl, ?_⟩
  go_grown
theorem kinVal_any (ao : Option Addr) (len cap : Nat) (w : World) :
    Calls Tryd.prog 113 #[.slice ao len cap] w fun e w' => e = .returned (.agg #[.int .i64 0, .slice ao len cap]) ∧ Below w.heap.size w w' := by
  go_enter Tryd.func113, Tryd.ntmps113
  go_wp2
  refine bodyPost_ret (v := .agg #[.int .i64 0, .slice ao len cap]) (by simp [results, Tryd.results113, go_sem]) rfl ⟨rfl, ?_⟩
  go_grown

theorem method_num (n : Int) (w : World) : (method 247 72 (.int .i64 n) "loop.example/kith/impl.val").run Tryd.prog w = .ok (112, .int .i64 n) w := by kernel_rfl
theorem method_kin (v : Value) (w : World) : (method 247 73 v "loop.example/kith/impl.val").run Tryd.prog w = .ok (113, v) w := by kernel_rfl
end Go.Proofs.YtnpfkhbnfihbdacDoor
