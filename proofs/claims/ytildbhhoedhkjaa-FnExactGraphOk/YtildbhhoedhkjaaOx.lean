/- impl's writes: ends, right of bonds, writeOf: contracts. -/
import Derived.Test.YtildbhhoedhkjaaOw
namespace Go.Proofs.Ytildbhhoedhkjaa
open Go.RowKit
attribute [local go_sem ↓] Go.wp_at_zero Go.wp_at_succ

theorem keyRight_is {k : Int} {b : Bool} (h : keyIn k = b) (w : World) : Calls Try.prog 99 #[.int .i64 k] w fun e w' => e = .returned (.bool b) ∧ Below w.heap.size w w' :=
  (keyRight_any k w).mono fun _ _ ⟨he, hw⟩ => ⟨by rw [he, h], by rw [hw]; exact Below.refl _ _⟩

theorem edgeRight_is {a b : Int} {c : Bool} (h : rightB (a, b) = c) (w : World) : Calls Try.prog 110 #[.agg #[.int .i64 a, .int .i64 b]] w fun e w' => e = .returned (.bool c) ∧ Below w.heap.size w w' :=
  h ▸ edgeRight_any a b w

/-! ### The interface's value of a write -/
end Go.Proofs.Ytildbhhoedhkjaa
