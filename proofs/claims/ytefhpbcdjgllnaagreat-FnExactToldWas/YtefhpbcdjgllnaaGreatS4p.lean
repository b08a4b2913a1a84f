/- What comes of a log that is written anew, plainly. No walk stands here. -/
import Derived.Test.YtefhpbcdjgllnaaGreatYa
namespace Go.Proofs.YtefhpbcdjgllnaaGreat
open Go.RowKit

/-- What a key has behind the first i commits, if they are written anew. -/
def newAt (Lg : List KD) : Nat → Int → KD
  | 0, _ => ([0, 0], [])
  | i + 1, k => if keyK (Lg.getD i kd0) = k then ([(newAt Lg i k).1.getD 0 0 + 1, colK Lg i 2], (Lg.getD i kd0).2) else newAt Lg i k
def newCom (Lg : List KD) (i : Nat) : KD := ([keyK (Lg.getD i kd0), (newAt Lg i (keyK (Lg.getD i kd0))).1.getD 0 0 + 1, colK Lg i 2], (Lg.getD i kd0).2)
def newLog (Lg : List KD) (n : Nat) : List KD := (List.range n).map (newCom Lg)
def newRows (Lg : List KD) : List KD := (List.range 24).map fun (k : Nat) => newAt Lg Lg.length (k : Int)
theorem newLog_length (Lg : List KD) (n : Nat) : (newLog Lg n).length = n := by simp [newLog]
theorem newLog_succ (Lg : List KD) (n : Nat) : newLog Lg (n + 1) = newLog Lg n ++ [newCom Lg n] := by simp [newLog, List.range_succ]
theorem newLog_at {Lg : List KD} {n i : Nat} (h : i < n) : (newLog Lg n).getD i kd0 = newCom Lg i := by simp [newLog, List.getD_eq_getElem?_getD, h]
theorem newRows_length (Lg : List KD) : (newRows Lg).length = 24 := by simp [newRows]
theorem newRows_at {Lg : List KD} {k : Nat} (h : k < 24) : (newRows Lg).getD k kd0 = newAt Lg Lg.length (k : Int) := by simp [newRows, List.getD_eq_getElem?_getD, h]
theorem newAt_step (Lg : List KD) (i : Nat) : newAt Lg (i + 1) = fun k => if keyK (Lg.getD i kd0) = k then ([(newAt Lg i k).1.getD 0 0 + 1, colK Lg i 2], (Lg.getD i kd0).2) else newAt Lg i k := rfl
theorem newAt_len (Lg : List KD) : ∀ (i : Nat) (k : Int), (newAt Lg i k).1.length = 2
  | 0, _ => rfl
  | i + 1, k => by
    unfold newAt
    split
    · rfl
    · exact newAt_len Lg i k
theorem newAt_le (Lg : List KD) : ∀ (i : Nat) (k : Int), 0 ≤ (newAt Lg i k).1.getD 0 0 ∧ (newAt Lg i k).1.getD 0 0 ≤ i
  | 0, _ => by simp [newAt]
  | i + 1, k => by
    have h := newAt_le Lg i k
    unfold newAt
    split
    · show 0 ≤ (newAt Lg i k).1.getD 0 0 + 1 ∧ (newAt Lg i k).1.getD 0 0 + 1 ≤ ((i + 1 : Nat) : Int)
      omega
    · omega
/-- A log that is right is written anew as it is, so far as it is right. -/
theorem rowAt_new {Lg : List KD} {n : Nat} (h : ∀ i, i < n → verK (Lg.getD i kd0) = (rowAt Lg i (keyK (Lg.getD i kd0))).1.getD 0 0 + 1) : ∀ i, i ≤ n → ∀ k, rowAt Lg i k = newAt Lg i k
  | 0, _, _ => rfl
  | i + 1, hi, k => by
    have ih := rowAt_new h i (by omega)
    have hv := h i (by omega)
    unfold rowAt newAt
    rw [ih k]
    split
    · rename_i e
      rw [hv, ih, e]
    · rfl
theorem LogTo.new {p : Int} {Lg : List KD} {n : Nat} (h : LogTo p Lg n) : ∀ i, i ≤ n → ∀ k, rowAt Lg i k = newAt Lg i k := rowAt_new (fun i hi => (h i hi).2.2)
theorem new_row {Lg : List KD} {n : Nat} (h : ∀ i, i < n → verK (Lg.getD i kd0) = (newAt Lg i (keyK (Lg.getD i kd0))).1.getD 0 0 + 1) : ∀ i, i ≤ n → ∀ k, rowAt Lg i k = newAt Lg i k
  | 0, _, _ => rfl
  | i + 1, hi, k => by
    have ih := new_row h i (by omega)
    have hv := h i (by omega)
    unfold rowAt newAt
    rw [ih k]
    split
    · rename_i e
      rw [hv, e]
    · rfl
theorem LogTo.more {p : Int} {Lg : List KD} {k : Nat} (h : LogTo p Lg k) (hk : LogAt p Lg k) : LogTo p Lg (k + 1) := by
  intro i hi
  by_cases e : i = k
  · rw [e]; exact hk
  · exact h i (by omega)
theorem logB_no {p : Int} {R Lg : List KD} {k : Nat} (hk : k < Lg.length) (h : ¬ LogAt p Lg k) : logB p R Lg = false := decide_eq_false (fun q => h (q.2.2.1 k hk))
theorem logB_norow {p : Int} {R Lg : List KD} {k : Nat} (hk : k < 24) (h : ¬ R.getD k kd0 = rowAt Lg Lg.length (k : Int)) : logB p R Lg = false := decide_eq_false (fun q => h (q.2.2.2 k hk))
theorem logB_len {p : Int} {R Lg : List KD} (h : ¬ (R.length = 24 ∧ Lg.length ≤ 60)) : logB p R Lg = false := decide_eq_false (fun q => h ⟨q.1, q.2.1⟩)
theorem getD_ext {A B : List KD} (hl : A.length = B.length) (h : ∀ i, i < A.length → A.getD i kd0 = B.getD i kd0) : A = B := by
  apply List.ext_getElem hl
  intro i h1 h2
  have := h i h1
  simpa [List.getD_eq_getElem?_getD, h1, h2] using this
theorem len3 {x : KD} (h : x.1.length = 3) : ([keyK x, verK x, x.1.getD 2 0], x.2) = x := by
  obtain ⟨xs, l⟩ := x
  match xs, h with
  | [a, b, c], _ => rfl
/-- How the program asks a log. -/
theorem logB_new {p : Int} {R Lg : List KD} (h3 : ∀ i, i < Lg.length → (Lg.getD i kd0).1.length = 3) :
    (Lg.length ≤ 60 ∧ (∀ i, i < Lg.length → partOf (keyK (Lg.getD i kd0)) = p ∧ okV (keyK (Lg.getD i kd0)) (colK Lg i 2) (Lg.getD i kd0).2 = true) ∧ Lg = newLog Lg Lg.length ∧ R = newRows Lg) ↔ logB p R Lg = true := by
  unfold logB
  rw [decide_eq_true_iff]
  constructor
  · rintro ⟨h1, h2, hL, hR⟩
    have hv : ∀ i, i < Lg.length → verK (Lg.getD i kd0) = (newAt Lg i (keyK (Lg.getD i kd0))).1.getD 0 0 + 1 := fun i hi => by
      have := congrArg (fun M => verK (M.getD i kd0)) hL
      simp only [newLog_at hi] at this
      exact this
    have hn := new_row hv
    refine ⟨by rw [hR]; exact newRows_length Lg, h1, fun i hi => ⟨(h2 i hi).1, (h2 i hi).2, by rw [hn i (by omega)]; exact hv i hi⟩, fun k hk => ?_⟩
    rw [hn Lg.length (Nat.le_refl _), ← newRows_at hk, ← hR]
  · rintro ⟨h24, h1, hL, hR⟩
    have hn := hL.new
    refine ⟨h1, fun i hi => ⟨(hL i hi).1, (hL i hi).2.1⟩, getD_ext (by rw [newLog_length]) (fun i hi => ?_), getD_ext (by rw [newRows_length, h24]) (fun k hk => ?_)⟩
    · rw [newLog_at hi, newCom, ← hn i (by omega), ← (hL i hi).2.2]
      exact (len3 (h3 i hi)).symm
    · rw [newRows_at (by omega), ← hn Lg.length (Nat.le_refl _)]
      exact hR k (by omega)
end Go.Proofs.YtefhpbcdjgllnaaGreat
