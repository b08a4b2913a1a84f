/- Keys: contracts of both KeyWho and both KeyShard. -/
import Derived.Test.YtpdfhffmhlgcmaaKk
namespace Go.Proofs.Ytpdfhffmhlgcmaa
open Go.RowKit

theorem implWho_any (k : Int) (w : World) : Calls Try.prog 27 #[.int .i64 k] w fun e w' => e = .returned (.int .i64 (whoOf k)) ∧ w' = w := by
  by_cases h : 0 ≤ k ∧ k < 24
  · have hk := keyIn_yes h.1 h.2
    rw [whoOf_in h.1 h.2]
    obtain ⟨h0, h1⟩ := h
    go_enter Try.func27, Try.ntmps27
    go_wp2_with (first | (go_at_call 31; refine (keyRight_any _ _).mono ?_; rintro e w1 ⟨rfl, rfl⟩))
    go_ret
    exact ⟨by first | rfl | go_arith, rfl⟩
  · have hk := keyIn_no h
    rw [whoOf_out h]
    clear h
    go_enter Try.func27, Try.ntmps27
    go_wp2_with (first | (go_at_call 31; refine (keyRight_any _ _).mono ?_; rintro e w1 ⟨rfl, rfl⟩))
    go_ret
    exact ⟨rfl, rfl⟩

end Go.Proofs.Ytpdfhffmhlgcmaa
