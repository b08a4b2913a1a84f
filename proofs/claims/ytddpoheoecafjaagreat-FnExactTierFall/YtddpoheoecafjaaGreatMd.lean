/- What is none panics: what a call that may panic ends in; contracts of impl.need and of what else a message is asked with, both sides. -/
import Derived.Test.YtddpoheoecafjaaGreatMb
import Derived.Test.YtddpoheoecafjaaGreatXa
import Derived.Test.YtddpoheoecafjaaGreatKw
import Derived.Defers
import Derived.Recover
import Derived.Deep.RegionHeld3
import Derived.BigQuiet
namespace Go.Proofs.YtddpoheoecafjaaGreat
open Go.RowKit
attribute [local go_sem ↓] Go.wp_at_zero Go.wp_at_succ

/-- A call that panics with an error, if something is not so. -/
def Asked (b : Bool) (e : Ending) : Prop := (b = true ∧ e = .returned (.tuple #[])) ∨ (b = false ∧ ∃ t v, e = .panicked [{ v := .iface t v, recovered := false }])
theorem specShard_b (k : Int) (w : World) : Calls Tryz.prog 78 #[.int .i64 k] w fun e w' => e = .returned (.int .i64 (partOf k)) ∧ Below w.heap.size w w' := (specShard_any k w).mono fun e w' ⟨he, hw⟩ => ⟨he, by rw [hw]; exact Below.refl _ _⟩

def reqR (a b c : Int) : Bool := decide (0 ≤ a ∧ a < 2 ∧ 0 ≤ b ∧ 0 ≤ c)
theorem reqRight_any (a b c : Int) (w : World) : Calls Tryz.prog 37 #[.agg #[.int .i64 a, .int .i64 b, .int .i64 c]] w fun e w' => e = .returned (.bool (reqR a b c)) ∧ Below w.heap.size w w' := by
  go_enter Tryz.func37, Tryz.ntmps37
  go_wp2
  all_goals
    go_ret
    exact ⟨by first | (simp_all [reqR]; done) | (simp_all [reqR]; omega), by go_grown⟩
def parR (a : Int) : Bool := decide (0 ≤ a ∧ a < 2)
def zO (a b c d : Int) : Bool := decide (a = 0 ∧ b = 0 ∧ c = 0 ∧ d = 0)
theorem l6None_any (a b c d : Int) (w : World) : Calls Tryz.prog 32 #[.agg #[.int .i64 a, .int .i64 b, .int .i64 c, .int .i64 d]] w fun e w' => e = .returned (.bool (zO a b c d)) ∧ Below w.heap.size w w' := by
  go_enter Tryz.func32, Tryz.ntmps32
  go_wp2
  all_goals
    go_ret
    exact ⟨by first | (simp_all [zO]; done) | (simp_all [zO]; omega), by go_grown⟩
def zI (k v n : Int) (l : List (Int × Int)) : Bool := decide (k = 0 ∧ v = 0 ∧ n = 0 ∧ l = [])
/-- A message that has a key of its part alone. -/
def zK (p k v n : Int) (l : List (Int × Int)) : Bool := decide (partOf k = p ∧ v = 0 ∧ n = 0 ∧ l = [])
end Go.Proofs.YtddpoheoecafjaaGreat
