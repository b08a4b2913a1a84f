/- The law FnExactKeyMake: its walk. -/
import Derived.Test.YtdcendbfkjmfjabKm
namespace Go.Proofs.Ytdcendbfkjmfjab
open Go.RowKit

theorem lawKMake_any (a b : Int) (w : World) :
    Calls Try.prog 4 #[.int .i64 a, .int .i64 b] w fun e w' => e = .returned (.bool true) ∧ Below w.heap.size w w' := by
  go_enter Try.func4, Try.ntmps4
  go_wp2_with (first | (go_at_call 8; refine (specMake_any _ _ _).mono ?_; rintro e w1 ⟨rfl, rfl⟩) | (go_at_call 7; refine (implMake_any _ _ _).mono ?_; rintro e w1 ⟨rfl, rfl⟩))
  go_ret
  exact ⟨rfl, Below.refl _ _⟩
end Go.Proofs.Ytdcendbfkjmfjab
