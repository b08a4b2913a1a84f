/- The law's own helpers markItem, heldItem: contracts; how many numbers a list of elements has. -/
import Derived.Test.YtilbaiohcfhcaaaXo
import Derived.Test.YtilbaiohcfhcaaaGrA
namespace Go.Proofs.Ytilbaiohcfhcaaa
open Go.RowKit
attribute [local go_sem ↓] Go.wp_at_zero Go.wp_at_succ

theorem cntM_bulk (m : Nat) (L : List KD) : cntM m L = (m : Int) * (L.length : Int) + 2 * (bulkM L : Int) := by
  induction L with
  | nil => simp [cntM, bulkM]
  | cons x r ih =>
    rw [cntM_cons, ih]
    simp only [cntK, bulkM, List.map_cons, List.sum_cons, List.length_cons]
    push_cast
    rw [Int.mul_add]
    omega
theorem ansG_small (I F : List KD) (key : Int) : (gl (ansG I F key)).length ≤ 8 := by
  unfold ansG
  split
  · next h =>
    cases hf : I.find? (fun x => keyK x == key) with
    | none => exact Nat.zero_le _
    | some x => exact (okC_small h).2 x (List.mem_of_find?_eq_some hf)
  · exact Nat.zero_le _
end Go.Proofs.Ytilbaiohcfhcaaa
