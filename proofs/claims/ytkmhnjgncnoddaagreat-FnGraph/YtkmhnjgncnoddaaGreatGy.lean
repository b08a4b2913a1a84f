/- The graph in which nobody has anything, behind one write: plain facts. -/
import Derived.Test.YtkmhnjgncnoddaaGreatAz
import Derived.Test.YtkmhnjgncnoddaaGreatGz
import Derived.Test.YtkmhnjgncnoddaaGreatGe
namespace Go.Proofs.YtkmhnjgncnoddaaGreat
open Go.RowKit

theorem listZ_zero : listZ (fun _ => 0) = zeroG := by rfl
theorem okG_zero : okG zeroG = true := by decide
theorem zero_set (j : Nat) : zeroG.set j (0, []) = zeroG := by
  refine List.ext_getElem? fun i => ?_
  rw [List.getElem?_set]
  split
  · next h =>
    subst h
    split
    · next h => rw [zeroG, List.getElem?_replicate, if_pos (by simpa [zeroG] using h)]; rfl
    · next h => rw [zeroG, List.getElem?_replicate, if_neg (by simpa [zeroG] using h)]
  · rfl
theorem bulk_set (L : List ValD) (j : Nat) (hj : j < L.length) (x : ValD) : bulkG (L.set j x) + (L.getD j valD0).2.length = bulkG L + x.2.length := by
  unfold bulkG
  induction L generalizing j with
  | nil => simp at hj
  | cons y r ih =>
    cases j with
    | zero => simp; omega
    | succ j =>
      have := ih j (by simpa using hj)
      simp at this ⊢
      omega
theorem bulk_zero : bulkG zeroG = 0 := by rfl
theorem zeroG_len : zeroG.length = 24 := by rfl
theorem addL_empty {who at' : Int} (h : rightB (who, at') = true) : addL [] who at' = [(who, at')] := by
  rw [addL, if_pos (by rw [addB, h]; rfl)]
  rfl
theorem dropL_empty (who : Int) : dropL [] who = [] := by
  unfold dropL
  split <;> rfl
end Go.Proofs.YtkmhnjgncnoddaaGreat
