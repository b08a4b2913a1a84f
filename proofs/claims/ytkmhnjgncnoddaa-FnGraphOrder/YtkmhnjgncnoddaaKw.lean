/- Keys: contracts of both KeyWho and both KeyShard. -/
import Derived.Test.YtkmhnjgncnoddaaKk
namespace Go.Proofs.Ytkmhnjgncnoddaa
open Go.RowKit

theorem implWho_any (k : Int) (w : World) : Calls Try.prog 85 #[.int .i64 k] w fun e w' => e = .returned (.int .i64 (whoOf k)) ∧ w' = w := by
  by_cases h : 0 ≤ k ∧ k < 24
  · have hk := keyIn_yes h.1 h.2
    rw [whoOf_in h.1 h.2]
    obtain ⟨h0, h1⟩ := h
    go_enter Try.func85, Try.ntmps85
    go_wp2_with (first | (go_at_call 62; refine (keyRight_any _ _).mono ?_; rintro e w1 ⟨rfl, rfl⟩))
    go_ret
    exact ⟨by first | rfl | go_arith, rfl⟩
  · have hk := keyIn_no h
    rw [whoOf_out h]
    clear h
    go_enter Try.func85, Try.ntmps85
    go_wp2_with (first | (go_at_call 62; refine (keyRight_any _ _).mono ?_; rintro e w1 ⟨rfl, rfl⟩))
    go_ret
    exact ⟨rfl, rfl⟩

end Go.Proofs.Ytkmhnjgncnoddaa
