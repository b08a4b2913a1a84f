/- heldBy, the assertion, the methods val: contracts. -/
import Derived.Test.YtdjonplcgmfmgaaGreatDoorPl
import Derived.Test.YtdjonplcgmfmgaaGreatDoorKk
import Derived.Deep.RegionHeld3
import Derived.Deep.DrawnRows
namespace Go.Proofs.YtdjonplcgmfmgaaGreatDoor
open Go.RowKit
attribute [local go_sem ↓] Go.wp_at_zero Go.wp_at_succ

theorem heldBy_num (k n : Int) (v : Value) (w : World) (hk : kindOf k = 0) :
    Calls Tryz.prog 46 #[.int .i64 k, .agg #[.int .i64 n, v]] w fun e w' => e = .returned (.iface 101 (.int .i64 n)) ∧ Below w.heap.size w w' := by
  go_enter Tryz.func46, Tryz.ntmps46
  go_wp2_with fail
  refine (implKind_any k _).mono ?_
  rintro e w1 ⟨rfl, rfl⟩
  rw [hk]
  go_wp2
  go_ret
  exact ⟨by simp, by go_grown⟩

theorem heldBy_kin (k n : Int) (v : Value) (w : World) (hk : (kindOf k == 0) = false) :
    Calls Tryz.prog 46 #[.int .i64 k, .agg #[.int .i64 n, v]] w fun e w' => e = .returned (.iface 103 v) ∧ Below w.heap.size w w' := by
  go_enter Tryz.func46, Tryz.ntmps46
  go_wp2_with fail
  refine (implKind_any k _).mono ?_
  rintro e w1 ⟨rfl, rfl⟩
  go_wp2
  go_ret
  exact ⟨by simp, by go_grown⟩

theorem assert_num (n : Int) (w : World) : (Instr.typeAssert (.iface 101 (.int .i64 n)) 68 101 true).run Tryz.prog w = .ok (.tuple #[.int .i64 n, .bool true]) w := by kernel_rfl
theorem assert_kin (v : Value) (w : World) : (Instr.typeAssert (.iface 103 v) 68 101 true).run Tryz.prog w = .ok (.tuple #[.int .i64 0, .bool false]) w := by kernel_rfl

theorem numVal_any (n : Int) (w : World) :
    Calls Tryz.prog 138 #[.int .i64 n] w fun e w' => e = .returned (.agg #[.int .i64 n, .slice none 0 0]) ∧ Below w.heap.size w w' := by
  go_enter Tryz.func138, Tryz.ntmps138
  go_wp2
  refine bodyPost_ret (v := .agg #[.int .i64 n, .slice none 0 0]) (by simp [results, Tryz.results138, go_sem]) rfl ⟨rfl, ?_⟩
  go_grown
theorem kinVal_any (ao : Option Addr) (len cap : Nat) (w : World) :
    Calls Tryz.prog 139 #[.slice ao len cap] w fun e w' => e = .returned (.agg #[.int .i64 0, .slice ao len cap]) ∧ Below w.heap.size w w' := by
  go_enter Tryz.func139, Tryz.ntmps139
  go_wp2
  refine bodyPost_ret (v := .agg #[.int .i64 0, .slice ao len cap]) (by simp [results, Tryz.results139, go_sem]) rfl ⟨rfl, ?_⟩
  go_grown

theorem method_num (n : Int) (w : World) : (method 273 101 (.int .i64 n) "loop.example/kith/impl.val").run Tryz.prog w = .ok (138, .int .i64 n) w := by kernel_rfl
theorem method_kin (v : Value) (w : World) : (method 273 103 v "loop.example/kith/impl.val").run Tryz.prog w = .ok (139, v) w := by kernel_rfl
end Go.Proofs.YtdjonplcgmfmgaaGreatDoor
