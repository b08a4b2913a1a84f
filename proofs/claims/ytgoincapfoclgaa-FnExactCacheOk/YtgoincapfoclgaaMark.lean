/- The law's own helpers markEdgeS and heldEdgeS: contracts. -/
import Derived.Test.YtgoincapfoclgaaPl
namespace Go.Proofs.Ytgoincapfoclgaa
open Go.RowKit

/-- What markEdgeS leaves in n edges. -/
def markL (k : Int) (n : Nat) : List (Int × Int) := (List.range n).map fun (i : Nat) => (k + 2 * (i : Int), k + 2 * (i : Int) + 1)
theorem markL_length (k : Int) (n : Nat) : (markL k n).length = n := by simp [markL]
theorem markL_get (k : Int) (n i : Nat) (h : i < n) : (markL k n).getD i (0, 0) = (k + 2 * (i : Int), k + 2 * (i : Int) + 1) := by simp [markL, h]

/-- What is owned stays so behind a store into another's row. -/
theorem Own.kept {w w' : World} {B : Nat} {v : Value} {l : List (Int × Int)} {row : Option Nat} (h : Own w B v l) (hg : w.grownBy w' row) (hne : v.ownBlock = none ∨ v.ownBlock ≠ row) : Own w' B v l := World.ownsRow.kept h hg hne
/-- What was made later lies elsewhere. -/
theorem Own.apart {w w0 : World} {B B0 : Nat} {v v0 : Value} {l l0 : List (Int × Int)} (h : Own w B v l) (h0 : Own w0 B0 v0 l0) (hB : w0.heap.size ≤ B) : v.ownBlock = none ∨ v.ownBlock ≠ v0.ownBlock := by
  cases e : v.ownBlock with
  | none => exact .inl rfl
  | some k =>
    refine .inr fun e0 => ?_
    have h1 := (h.block k e).1
    have h2 := (h0.block k (by rw [← e0])).2
    omega
theorem Own.apart' {w w0 : World} {B B0 : Nat} {v v0 : Value} {l l0 : List (Int × Int)} (h : Own w B v l) (h0 : Own w0 B0 v0 l0) (hB : w0.heap.size ≤ B) : v0.ownBlock = none ∨ v0.ownBlock ≠ v.ownBlock := by
  rcases h.apart h0 hB with e | e
  · rw [e]
    cases v0.ownBlock with
    | none => exact .inl rfl
    | some k => exact .inr (by simp)
  · exact .inr (Ne.symm e)
theorem Below.of_grown {B : Nat} {w w' : World} {row : Option Nat} (hg : w.grownBy w' row) (hB : B ≤ w.heap.size) (hr : ∀ k, row = some k → B ≤ k) : Below B w w' := (Below.refl B w).grown hg hB hr

end Go.Proofs.Ytgoincapfoclgaa
