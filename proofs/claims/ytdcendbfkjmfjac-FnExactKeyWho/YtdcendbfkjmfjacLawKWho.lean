/- The law FnExactKeyWho: its walk. -/
import Derived.Test.YtdcendbfkjmfjacKw
namespace Go.Proofs.Ytdcendbfkjmfjac
open Go.RowKit

theorem lawKWho_any (k : Int) (w : World) :
    Calls Try.prog 3 #[.int .i64 k] w fun e w' => e = .returned (.bool true) ∧ Below w.heap.size w w' := by
  go_enter Try.func3, Try.ntmps3
  go_wp2_with (first | (go_at_call 7; refine (specWho_any _ _).mono ?_; rintro e w1 ⟨rfl, rfl⟩) | (go_at_call 8; refine (implWho_any _ _).mono ?_; rintro e w1 ⟨rfl, rfl⟩))
  go_ret
  exact ⟨rfl, Below.refl _ _⟩
end Go.Proofs.Ytdcendbfkjmfjac
