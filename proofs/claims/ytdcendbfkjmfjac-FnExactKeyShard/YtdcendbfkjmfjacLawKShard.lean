/- The law FnExactKeyShard: its walk. -/
import Derived.Test.YtdcendbfkjmfjacKw
namespace Go.Proofs.Ytdcendbfkjmfjac
open Go.RowKit

theorem lawKShard_any (k : Int) (w : World) :
    Calls Try.prog 4 #[.int .i64 k] w fun e w' => e = .returned (.bool true) ∧ Below w.heap.size w w' := by
  go_enter Try.func4, Try.ntmps4
  go_wp2_with (first | (go_at_call 9; refine (specShard_any _ _).mono ?_; rintro e w1 ⟨rfl, rfl⟩) | (go_at_call 10; refine (implShard_any _ _).mono ?_; rintro e w1 ⟨rfl, rfl⟩))
  go_ret
  exact ⟨rfl, Below.refl _ _⟩
end Go.Proofs.Ytdcendbfkjmfjac
