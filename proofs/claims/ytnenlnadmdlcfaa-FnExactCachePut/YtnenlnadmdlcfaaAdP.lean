/- Plain: a list with an edge put in its place. -/
import Derived.Test.YtnenlnadmdlcfaaOkP
import Derived.Test.YtnenlnadmdlcfaaIt
namespace Go.Proofs.Ytnenlnadmdlcfaa

/-- How many lie ahead of an edge, from the head on. -/
def placeN (l : List (Int × Int)) (e : Int × Int) : Nat := (l.takeWhile fun x => aheadB x e).length
def insAt (l : List (Int × Int)) (k : Nat) (e : Int × Int) : List (Int × Int) := l.take k ++ e :: l.drop k
def insL (l : List (Int × Int)) (e : Int × Int) : List (Int × Int) := insAt l (placeN l e) e
theorem placeN_le (l : List (Int × Int)) (e : Int × Int) : placeN l e ≤ l.length := (List.takeWhile_sublist _).length_le
theorem placeN_eq (l : List (Int × Int)) (e : Int × Int) : ∀ k, k ≤ l.length → (∀ i, i < k → aheadB (l.getD i (0, 0)) e = true) → (k < l.length → aheadB (l.getD k (0, 0)) e = false) → placeN l e = k := by
  induction l with
  | nil =>
    intro k hk _ _
    have : k = 0 := by simpa using hk
    subst this; rfl
  | cons x r ih =>
    intro k hk h1 h2
    cases k with
    | zero =>
      have := h2 (by simp)
      simp only [List.getD_cons_zero] at this
      simp [placeN, this]
    | succ k =>
      have h0 := h1 0 (by omega)
      simp only [List.getD_cons_zero] at h0
      have := ih k (by simpa using hk) (fun i hi => by simpa using h1 (i + 1) (by omega)) (fun hi => by simpa using h2 (by simpa using hi))
      simp only [placeN, List.takeWhile_cons, h0, if_true, List.length_cons] at this ⊢
      omega
theorem insL_length (l : List (Int × Int)) (e : Int × Int) : (insL l e).length = l.length + 1 := by
  have := placeN_le l e
  simp [insL, insAt]
  omega

/-- What EdgeAdd answers. -/
def addB (l : List (Int × Int)) (who at' : Int) : Bool := okL l && rightB (who, at')
def addL (l : List (Int × Int)) (who at' : Int) : List (Int × Int) := if addB l who at' = true then insL (l.filter (notWho who)) (who, at') else []
theorem addL_length (l : List (Int × Int)) (who at' : Int) : (addL l who at').length ≤ l.length + 1 := by
  unfold addL
  split
  · rw [insL_length]
    have := List.length_filter_le (notWho who) l
    omega
  · simp

theorem okL_filter (p : Int × Int → Bool) (l : List (Int × Int)) (h : okL l = true) : okL (l.filter p) = true := by
  induction l with
  | nil => rfl
  | cons e r ih =>
    simp only [okL, Bool.and_eq_true] at h
    have hr := ih h.2
    by_cases hp : p e = true
    · rw [List.filter_cons_of_pos hp]
      simp only [okL, Bool.and_eq_true]
      refine ⟨⟨h.1.1, ?_⟩, hr⟩
      rw [List.all_eq_true] at *
      exact fun f hf => h.1.2 f (List.mem_filter.1 hf).1
    · rw [List.filter_cons_of_neg hp]
      exact hr
/-- In a list that is in order, who lies ahead of an edge lies at the head. -/
theorem ahead_head {l : List (Int × Int)} {e : Int × Int} (h : GoodTo l l.length) {t m : Nat} (ht : t ≤ m) (hm : m < l.length) (hh : aheadB (l.getD m (0, 0)) e = true) : aheadB (l.getD t (0, 0)) e = true := by
  by_cases heq : t = m
  · rw [heq]; exact hh
  · exact aheadB_trans ((h m hm).2 t (by omega)).1 hh
theorem behind_tail {l : List (Int × Int)} {e : Int × Int} (h : GoodTo l l.length) {t m : Nat} (hm : m ≤ t) (ht : t < l.length) (hh : aheadB (l.getD m (0, 0)) e = false) : aheadB (l.getD t (0, 0)) e = false := by
  cases hc : aheadB (l.getD t (0, 0)) e with
  | false => rfl
  | true => rw [ahead_head h hm ht hc] at hh; exact absurd hh (by decide)
end Go.Proofs.Ytnenlnadmdlcfaa
