/- Keys: contracts of both KeyWho and both KeyShard. -/
import Derived.Test.YtdcendbfkjmfjaaKk
namespace Go.Proofs.Ytdcendbfkjmfjaa
open Go.RowKit

theorem implWho_any (k : Int) (w : World) : Calls Try.prog 23 #[.int .i64 k] w fun e w' => e = .returned (.int .i64 (whoOf k)) ∧ w' = w := by
  by_cases h : 0 ≤ k ∧ k < 24
  · have hk := keyIn_yes h.1 h.2
    rw [whoOf_in h.1 h.2]
    obtain ⟨h0, h1⟩ := h
    go_enter Try.func23, Try.ntmps23
    go_wp2_with (first | (go_at_call 47; refine (keyRight_any _ _).mono ?_; rintro e w1 ⟨rfl, rfl⟩))
    go_ret
    exact ⟨by first | rfl | go_arith, rfl⟩
  · have hk := keyIn_no h
    rw [whoOf_out h]
    clear h
    go_enter Try.func23, Try.ntmps23
    go_wp2_with (first | (go_at_call 47; refine (keyRight_any _ _).mono ?_; rintro e w1 ⟨rfl, rfl⟩))
    go_ret
    exact ⟨rfl, rfl⟩

theorem specWho_any (k : Int) (w : World) : Calls Try.prog 27 #[.int .i64 k] w fun e w' => e = .returned (.int .i64 (whoOf k)) ∧ w' = w := by
  by_cases h : 0 ≤ k ∧ k < 24
  · rw [whoOf_in h.1 h.2]
    obtain ⟨h0, h1⟩ := h
    go_enter Try.func27, Try.ntmps27
    go_wp2
    go_ret
    exact ⟨by first | rfl | go_arith, rfl⟩
  · rw [whoOf_out h]
    by_cases h0 : 0 ≤ k
    · have h1 : ¬ k < 24 := by omega
      clear h
      go_enter Try.func27, Try.ntmps27
      go_wp2
      go_ret
      exact ⟨rfl, rfl⟩
    · clear h
      go_enter Try.func27, Try.ntmps27
      go_wp2
      go_ret
      exact ⟨rfl, rfl⟩

theorem implShard_any (k : Int) (w : World) : Calls Try.prog 24 #[.int .i64 k] w fun e w' => e = .returned (.int .i64 (partOf k)) ∧ w' = w := by
  by_cases h : 0 ≤ k ∧ k < 24
  · have hk := keyIn_yes h.1 h.2
    have hw := whoOf_in h.1 h.2
    rw [partOf_in h.1 h.2]
    obtain ⟨h0, h1⟩ := h
    go_enter Try.func24, Try.ntmps24
    go_wp2_with (first | (go_at_call 47; refine (keyRight_any _ _).mono ?_; rintro e w1 ⟨rfl, rfl⟩) | (go_at_call 23; refine (implWho_any _ _).mono ?_; rintro e w1 ⟨rfl, rfl⟩))
    go_ret
    exact ⟨by first | rfl | go_arith, rfl⟩
  · have hk := keyIn_no h
    rw [partOf_out h]
    clear h
    go_enter Try.func24, Try.ntmps24
    go_wp2_with (first | (go_at_call 47; refine (keyRight_any _ _).mono ?_; rintro e w1 ⟨rfl, rfl⟩))
    go_ret
    exact ⟨rfl, rfl⟩

theorem specShard_any (k : Int) (w : World) : Calls Try.prog 28 #[.int .i64 k] w fun e w' => e = .returned (.int .i64 (partOf k)) ∧ w' = w := by
  by_cases h : 0 ≤ k ∧ k < 24
  · have hw := whoOf_in h.1 h.2
    rw [partOf_in h.1 h.2]
    obtain ⟨h0, h1⟩ := h
    go_enter Try.func28, Try.ntmps28
    go_wp2_with (first | (go_at_call 27; refine (specWho_any _ _).mono ?_; rintro e w1 ⟨rfl, rfl⟩))
    go_ret
    exact ⟨by first | rfl | go_arith, rfl⟩
  · rw [partOf_out h]
    by_cases h0 : 0 ≤ k
    · have h1 : ¬ k < 24 := by omega
      clear h
      go_enter Try.func28, Try.ntmps28
      go_wp2
      go_ret
      exact ⟨rfl, rfl⟩
    · clear h
      go_enter Try.func28, Try.ntmps28
      go_wp2
      go_ret
      exact ⟨rfl, rfl⟩
end Go.Proofs.Ytdcendbfkjmfjaa
