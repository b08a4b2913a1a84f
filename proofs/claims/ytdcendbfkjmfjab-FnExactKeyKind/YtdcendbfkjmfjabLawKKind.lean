/- The law FnExactKeyKind: its walk. -/
import Derived.Test.YtdcendbfkjmfjabKk
namespace Go.Proofs.Ytdcendbfkjmfjab
open Go.RowKit

theorem lawKKind_any (k : Int) (w : World) :
    Calls Try.prog 5 #[.int .i64 k] w fun e w' => e = .returned (.bool true) ∧ Below w.heap.size w w' := by
  go_enter Try.func5, Try.ntmps5
  go_wp2_with (first | (go_at_call 9; refine (specKind_any _ _).mono ?_; rintro e w1 ⟨rfl, rfl⟩) | (go_at_call 10; refine (implKind_any _ _).mono ?_; rintro e w1 ⟨rfl, rfl⟩))
  go_ret
  exact ⟨rfl, Below.refl _ _⟩
end Go.Proofs.Ytdcendbfkjmfjab
