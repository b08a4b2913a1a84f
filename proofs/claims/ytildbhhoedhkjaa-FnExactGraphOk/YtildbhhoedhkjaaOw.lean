/- impl's writes: the methods of each kind that tell keys and whether it is right: contracts. -/
import Derived.Test.YtildbhhoedhkjaaOq
import Derived.Test.YtildbhhoedhkjaaVh
import Derived.Lib.QuietBelow
namespace Go.Proofs.Ytildbhhoedhkjaa
open Go.RowKit
attribute [local go_sem ↓] Go.wp_at_zero Go.wp_at_succ

/-- Is a write of that kind right? -/
def setR (a b n : Int) : Bool := decide ((0 ≤ a ∧ a < 8) ∧ b = 0 ∧ 0 ≤ n ∧ n ≤ 1000000)
def endsR (a b : Int) : Bool := decide ((0 ≤ a ∧ a < 8) ∧ (0 ≤ b ∧ b < 8) ∧ b ≠ a)
def bindR (a b n : Int) : Bool := endsR a b && decide (0 ≤ n ∧ n ≤ 1000)
def partR (a b n : Int) : Bool := endsR a b && n == 0

theorem okV_set (a n : Int) : okV (keyOf 0 a) n [] = decide ((0 ≤ a ∧ a < 8) ∧ 0 ≤ n ∧ n ≤ 1000000) := by
  by_cases h : 0 ≤ a ∧ a < 8
  · have e : keyOf 0 a = a := by rw [keyOf_in (by omega) (by omega) h.1 h.2]; omega
    have e8 : a / 8 = 0 := by omega
    rw [e, okV, if_pos (by omega), if_pos e8]
    simp [h]
  · rw [keyOf_out (by omega), okV_out (by omega)]
    simp [h]

theorem keyIn_of {kd a : Int} (h0 : 0 ≤ kd) (h1 : kd < 3) : keyIn (keyOf kd a) = decide (0 ≤ a ∧ a < 8) := by
  by_cases h : 0 ≤ a ∧ a < 8
  · rw [keyOf_in h0 h1 h.1 h.2, keyIn_yes (by omega) (by omega)]; simp [h]
  · rw [keyOf_out (by omega), keyIn_no (by omega)]; simp [h]
end Go.Proofs.Ytildbhhoedhkjaa
