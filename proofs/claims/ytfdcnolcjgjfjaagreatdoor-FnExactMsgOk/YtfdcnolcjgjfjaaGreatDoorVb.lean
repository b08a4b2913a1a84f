/- heldBy, the assertion, the methods val: contracts. -/
import Derived.Test.YtfdcnolcjgjfjaaGreatDoorPl
import Derived.Test.YtfdcnolcjgjfjaaGreatDoorKk
import Derived.Deep.RegionHeld3
import Derived.Deep.DrawnRows
namespace Go.Proofs.YtfdcnolcjgjfjaaGreatDoor
open Go.RowKit
attribute [local go_sem ↓] Go.wp_at_zero Go.wp_at_succ

theorem heldBy_num (k n : Int) (v : Value) (w : World) (hk : kindOf k = 0) :
    Calls Tryz.prog 95 #[.int .i64 k, .agg #[.int .i64 n, v]] w fun e w' => e = .returned (.iface 140 (.int .i64 n)) ∧ Below w.heap.size w w' := by
  go_enter Tryz.func95, Tryz.ntmps95
  go_wp2_with fail
  refine (implKind_any k _).mono ?_
  rintro e w1 ⟨rfl, rfl⟩
  rw [hk]
  go_wp2
  go_ret
  exact ⟨by simp, by go_grown⟩

theorem heldBy_kin (k n : Int) (v : Value) (w : World) (hk : (kindOf k == 0) = false) :
    Calls Tryz.prog 95 #[.int .i64 k, .agg #[.int .i64 n, v]] w fun e w' => e = .returned (.iface 143 v) ∧ Below w.heap.size w w' := by
  go_enter Tryz.func95, Tryz.ntmps95
  go_wp2_with fail
  refine (implKind_any k _).mono ?_
  rintro e w1 ⟨rfl, rfl⟩
  go_wp2
  go_ret
  exact ⟨by simp, by go_grown⟩

theorem assert_num (n : Int) (w : World) : (Instr.typeAssert (.iface 140 (.int .i64 n)) 123 140 true).run Tryz.prog w = .ok (.tuple #[.int .i64 n, .bool true]) w := by kernel_rfl
theorem assert_kin (v : Value) (w : World) : (Instr.typeAssert (.iface 143 v) 123 140 true).run Tryz.prog w = .ok (.tuple #[.int .i64 0, .bool false]) w := by kernel_rfl

theorem numVal_any (n : Int) (w : World) :
    Calls Tryz.prog 218 #[.int .i64 n] w fun e w' => e = .returned (.agg #[.int .i64 n, .slice none 0 0]) ∧ Below w.heap.size w w' := by
  go_enter Tryz.func218, Tryz.ntmps218
  go_wp2
  refine bodyPost_ret (v := .agg #[.int .i64 n, .slice none 0 0]) (by simp [results, Tryz.results218, go_sem]) rfl ⟨rfl, ?_⟩
  go_grown
theorem kinVal_any (ao : Option Addr) (len cap : Nat) (w : World) :
    Calls Tryz.prog 219 #[.slice ao len cap] w fun e w' => e = .returned (.agg #[.int .i64 0, .slice ao len cap]) ∧ Below w.heap.size w w' := by
  go_enter Tryz.func219, Tryz.ntmps219
  go_wp2
  refine bodyPost_ret (v := .agg #[.int .i64 0, .slice ao len cap]) (by simp [results, Tryz.results219, go_sem]) rfl ⟨rfl, ?_⟩
  go_grown

theorem method_num (n : Int) (w : World) : (method 349 140 (.int .i64 n) "loop.example/kith/impl.val").run Tryz.prog w = .ok (218, .int .i64 n) w := by kernel_rfl
theorem method_kin (v : Value) (w : World) : (method 349 143 v "loop.example/kith/impl.val").run Tryz.prog w = .ok (219, v) w := by kernel_rfl
end Go.Proofs.YtfdcnolcjgjfjaaGreatDoor
