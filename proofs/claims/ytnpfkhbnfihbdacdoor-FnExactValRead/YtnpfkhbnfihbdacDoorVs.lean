/- Both ValSame: contracts. -/
import Derived.Test.YtnpfkhbnfihbdacDoorSame
namespace Go.Proofs.YtnpfkhbnfihbdacDoor
open Go.RowKit
attribute [local go_sem ↓] Go.wp_at_zero Go.wp_at_succ

/-- Are two values one? (A name that the walk does not take apart.) -/
def eqV (n m : Int) (la lb : List (Int × Int)) : Bool := n == m && eqL la lb
theorem eqV_no {n m : Int} {la lb : List (Int × Int)} (h : (n == m) = false) : eqV n m la lb = false := by simp [eqV, h]
theorem eqV_yes (n : Int) (la lb : List (Int × Int)) : eqV n n la lb = eqL la lb := by simp [eqV]
theorem eqV_refl (n : Int) (l : List (Int × Int)) : eqV n n l l = true := by simp [eqV, eqL_refl]

end Go.Proofs.YtnpfkhbnfihbdacDoor
