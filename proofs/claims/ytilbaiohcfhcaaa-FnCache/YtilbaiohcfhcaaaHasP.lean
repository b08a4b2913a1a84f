/- Plain: what EdgeHas answers. -/
import Derived.Test.YtilbaiohcfhcaaaGrA
namespace Go.Proofs.Ytilbaiohcfhcaaa

/-- The At of the first edge with that Who, and true; else 0 and false. -/
def hasL : List (Int × Int) → Int → Int × Bool
  | [], _ => (0, false)
  | e :: r, who => if e.1 = who then (e.2, true) else hasL r who
theorem hasL_drop (l : List (Int × Int)) (who : Int) : ∀ k, (∀ i, i < k → (l.getD i (0, 0)).1 ≠ who) → k ≤ l.length → hasL l who = hasL (l.drop k) who := by
  induction l with
  | nil => intro k _ hk; simp
  | cons e r ih =>
    intro k h hk
    cases k with
    | zero => rfl
    | succ j =>
      have h0 : e.1 ≠ who := by simpa using h 0 (by omega)
      rw [hasL, if_neg h0, List.drop_succ_cons]
      exact ih j (fun i hi => by simpa using h (i + 1) (by omega)) (by simpa using hk)
theorem hasL_hit {l : List (Int × Int)} {who : Int} {k : Nat} (h : ∀ i, i < k → (l.getD i (0, 0)).1 ≠ who) (hk : k < l.length) (he : (l.getD k (0, 0)).1 = who) : hasL l who = ((l.getD k (0, 0)).2, true) := by
  rw [hasL_drop l who k h (by omega), List.drop_eq_getElem_cons hk, hasL]
  simp [hk] at he
  simp [hk, he]
theorem hasL_miss {l : List (Int × Int)} {who : Int} (h : ∀ i, i < l.length → (l.getD i (0, 0)).1 ≠ who) : hasL l who = (0, false) := by
  rw [hasL_drop l who l.length h (Nat.le_refl _), List.drop_length]
  rfl
end Go.Proofs.Ytilbaiohcfhcaaa
