/- heldBy, the assertion, the methods val: contracts. -/
import Derived.Test.YtdcendbfkjmfjabDoorPl
import Derived.Test.YtdcendbfkjmfjabDoorKk
import Derived.Deep.RegionHeld3
import Derived.Deep.DrawnRows
namespace Go.Proofs.YtdcendbfkjmfjabDoor
open Go.RowKit
attribute [local go_sem ↓] Go.wp_at_zero Go.wp_at_succ

theorem heldBy_num (k n : Int) (v : Value) (w : World) (hk : kindOf k = 0) :
    Calls Tryd.prog 28 #[.int .i64 k, .agg #[.int .i64 n, v]] w fun e w' => e = .returned (.iface 73 (.int .i64 n)) ∧ Below w.heap.size w w' := by
  go_enter Tryd.func28, Tryd.ntmps28
  go_wp2_with fail
  refine (implKind_any k _).mono ?_
  rintro e w1 ⟨rfl, rfl⟩
  rw [hk]
  go_wp2
  go_ret
  exact ⟨by simp, by go_grown⟩

theorem heldBy_kin (k n : Int) (v : Value) (w : World) (hk : (kindOf k == 0) = false) :
    Calls Tryd.prog 28 #[.int .i64 k, .agg #[.int .i64 n, v]] w fun e w' => e = .returned (.iface 74 v) ∧ Below w.heap.size w w' := by
  go_enter Tryd.func28, Tryd.ntmps28
  go_wp2_with fail
  refine (implKind_any k _).mono ?_
  rintro e w1 ⟨rfl, rfl⟩
  go_wp2
  go_ret
  exact ⟨by simp, by go_grown⟩

theorem assert_num (n : Int) (w : World) : (Instr.typeAssert (.iface 73 (.int .i64 n)) 49 73 true).run Tryd.prog w = .ok (.tuple #[.int .i64 n, .bool true]) w := by kernel_rfl
theorem assert_kin (v : Value) (w : World) : (Instr.typeAssert (.iface 74 v) 49 73 true).run Tryd.prog w = .ok (.tuple #[.int .i64 0, .bool false]) w := by kernel_rfl

theorem numVal_any (n : Int) (w : World) :
    Calls Tryd.prog 129 #[.int .i64 n] w fun e w' => e = .returned (.agg #[.int .i64 n, .slice none 0 0]) ∧ Below w.heap.size w w' := by
  go_enter Tryd.func129, Tryd.ntmps129
  go_wp2
  refine bodyPost_ret (v := .agg #[.int .i64 n, .slice none 0 0]) (by simp [results, Tryd.results129, go_sem]) rfl ⟨rfl, ?_⟩
  go_grown
theorem kinVal_any (ao : Option Addr) (len cap : Nat) (w : World) :
    Calls Tryd.prog 130 #[.slice ao len cap] w fun e w' => e = .returned (.agg #[.int .i64 0, .slice ao len cap]) ∧ Below w.heap.size w w' := by
  go_enter Tryd.func130, Tryd.ntmps130
  go_wp2
  refine bodyPost_ret (v := .agg #[.int .i64 0, .slice ao len cap]) (by simp [results, Tryd.results130, go_sem]) rfl ⟨rfl, ?_⟩
  go_grown

theorem method_num (n : Int) (w : World) : (method 264 73 (.int .i64 n) "loop.example/kith/impl.val").run Tryd.prog w = .ok (129, .int .i64 n) w := by kernel_rfl
theorem method_kin (v : Value) (w : World) : (method 264 74 v "loop.example/kith/impl.val").run Tryd.prog w = .ok (130, v) w := by kernel_rfl
end Go.Proofs.YtdcendbfkjmfjabDoor
