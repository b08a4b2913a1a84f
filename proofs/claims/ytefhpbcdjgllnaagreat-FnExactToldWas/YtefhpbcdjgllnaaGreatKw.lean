/- Keys: contracts of both KeyWho and both KeyShard. -/
import Derived.Test.YtefhpbcdjgllnaaGreatGrC
namespace Go.Proofs.YtefhpbcdjgllnaaGreat
open Go.RowKit

theorem implWho_any (k : Int) (w : World) : Calls Tryz.prog 62 #[.int .i64 k] w fun e w' => e = .returned (.int .i64 (whoOf k)) ∧ w' = w := by
  by_cases h : 0 ≤ k ∧ k < 24
  · have hk := keyIn_yes h.1 h.2
    rw [whoOf_in h.1 h.2]
    obtain ⟨h0, h1⟩ := h
    go_enter Tryz.func62, Tryz.ntmps62
    go_wp2_with (first | (go_at_call 61; refine (keyRight_any _ _).mono ?_; rintro e w1 ⟨rfl, rfl⟩))
    go_ret
    exact ⟨by first | rfl | go_arith, rfl⟩
  · have hk := keyIn_no h
    rw [whoOf_out h]
    clear h
    go_enter Tryz.func62, Tryz.ntmps62
    go_wp2_with (first | (go_at_call 61; refine (keyRight_any _ _).mono ?_; rintro e w1 ⟨rfl, rfl⟩))
    go_ret
    exact ⟨rfl, rfl⟩

theorem specWho_any (k : Int) (w : World) : Calls Tryz.prog 46 #[.int .i64 k] w fun e w' => e = .returned (.int .i64 (whoOf k)) ∧ w' = w := by
  by_cases h : 0 ≤ k ∧ k < 24
  · rw [whoOf_in h.1 h.2]
    obtain ⟨h0, h1⟩ := h
    go_enter Tryz.func46, Tryz.ntmps46
    go_wp2
    go_ret
    exact ⟨by first | rfl | go_arith, rfl⟩
  · rw [whoOf_out h]
    by_cases h0 : 0 ≤ k
    · have h1 : ¬ k < 24 := by omega
      clear h
      go_enter Tryz.func46, Tryz.ntmps46
      go_wp2
      go_ret
      exact ⟨rfl, rfl⟩
    · clear h
      go_enter Tryz.func46, Tryz.ntmps46
      go_wp2
      go_ret
      exact ⟨rfl, rfl⟩

theorem implShard_any (k : Int) (w : World) : Calls Tryz.prog 30 #[.int .i64 k] w fun e w' => e = .returned (.int .i64 (partOf k)) ∧ w' = w := by
  by_cases h : 0 ≤ k ∧ k < 24
  · have hk := keyIn_yes h.1 h.2
    have hw := whoOf_in h.1 h.2
    rw [partOf_in h.1 h.2]
    obtain ⟨h0, h1⟩ := h
    go_enter Tryz.func30, Tryz.ntmps30
    go_wp2_with (first | (go_at_call 61; refine (keyRight_any _ _).mono ?_; rintro e w1 ⟨rfl, rfl⟩) | (go_at_call 62; refine (implWho_any _ _).mono ?_; rintro e w1 ⟨rfl, rfl⟩))
    go_ret
    exact ⟨by first | rfl | go_arith, rfl⟩
  · have hk := keyIn_no h
    rw [partOf_out h]
    clear h
    go_enter Tryz.func30, Tryz.ntmps30
    go_wp2_with (first | (go_at_call 61; refine (keyRight_any _ _).mono ?_; rintro e w1 ⟨rfl, rfl⟩))
    go_ret
    exact ⟨rfl, rfl⟩

theorem specShard_any (k : Int) (w : World) : Calls Tryz.prog 20 #[.int .i64 k] w fun e w' => e = .returned (.int .i64 (partOf k)) ∧ w' = w := by
  by_cases h : 0 ≤ k ∧ k < 24
  · have hw := whoOf_in h.1 h.2
    rw [partOf_in h.1 h.2]
    obtain ⟨h0, h1⟩ := h
    go_enter Tryz.func20, Tryz.ntmps20
    go_wp2_with (first | (go_at_call 46; refine (specWho_any _ _).mono ?_; rintro e w1 ⟨rfl, rfl⟩))
    go_ret
    exact ⟨by first | rfl | go_arith, rfl⟩
  · rw [partOf_out h]
    by_cases h0 : 0 ≤ k
    · have h1 : ¬ k < 24 := by omega
      clear h
      go_enter Tryz.func20, Tryz.ntmps20
      go_wp2
      go_ret
      exact ⟨rfl, rfl⟩
    · clear h
      go_enter Tryz.func20, Tryz.ntmps20
      go_wp2
      go_ret
      exact ⟨rfl, rfl⟩
end Go.Proofs.YtefhpbcdjgllnaaGreat
