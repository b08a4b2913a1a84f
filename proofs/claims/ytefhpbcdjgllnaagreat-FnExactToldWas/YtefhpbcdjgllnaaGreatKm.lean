/- Keys: contracts of both KeyMake. -/
import Derived.Test.YtefhpbcdjgllnaaGreatGrC
namespace Go.Proofs.YtefhpbcdjgllnaaGreat
open Go.RowKit

theorem implMake_any (a b : Int) (w : World) : Calls Tryz.prog 92 #[.int .i64 a, .int .i64 b] w fun e w' => e = .returned (.int .i64 (keyOf a b)) ∧ w' = w := by
  by_cases h : 0 ≤ a ∧ a < 3 ∧ 0 ≤ b ∧ b < 8
  · rw [keyOf_in h.1 h.2.1 h.2.2.1 h.2.2.2]
    obtain ⟨h0, h1, h2, h3⟩ := h
    go_enter Tryz.func92, Tryz.ntmps92
    go_wp2
    go_ret
    exact ⟨by first | rfl | go_arith, rfl⟩
  · rw [keyOf_out h]
    go_enter Tryz.func92, Tryz.ntmps92
    go_wp2
    all_goals first | (go_ret; exact ⟨rfl, rfl⟩) | (exfalso; omega) | skip

theorem specMake_any (a b : Int) (w : World) : Calls Tryz.prog 102 #[.int .i64 a, .int .i64 b] w fun e w' => e = .returned (.int .i64 (keyOf a b)) ∧ w' = w := by
  by_cases h : 0 ≤ a ∧ a < 3 ∧ 0 ≤ b ∧ b < 8
  · rw [keyOf_in h.1 h.2.1 h.2.2.1 h.2.2.2]
    obtain ⟨h0, h1, h2, h3⟩ := h
    go_enter Tryz.func102, Tryz.ntmps102
    go_wp2
    go_ret
    exact ⟨by first | rfl | go_arith, rfl⟩
  · rw [keyOf_out h]
    go_enter Tryz.func102, Tryz.ntmps102
    go_wp2
    all_goals first | (go_ret; exact ⟨rfl, rfl⟩) | (exfalso; omega) | skip
end Go.Proofs.YtefhpbcdjgllnaaGreat
