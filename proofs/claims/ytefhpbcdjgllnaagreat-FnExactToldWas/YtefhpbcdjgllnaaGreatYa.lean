/- What a part of the truth is asked, plainly. No walk stands here. -/
import Derived.Test.YtefhpbcdjgllnaaGreatGrA
import Derived.Test.YtefhpbcdjgllnaaGreatOq
import Derived.Test.YtefhpbcdjgllnaaGreatCc
namespace Go.Proofs.YtefhpbcdjgllnaaGreat
open Go.RowKit

/-- Column c of element i. -/
def colK (L : List KD) (i c : Nat) : Int := (L.getD i kd0).1.getD c 0
def verAt (R : List KD) (k : Int) : Int := colK R k.toNat 0
/-- The i-th of what was done last is right. -/
def DoneAt (p : Int) (R D : List KD) (i : Nat) : Prop :=
  0 ≤ colK D i 0 ∧ colK D i 0 < 2 ∧ 0 ≤ colK D i 1 ∧ 0 ≤ colK D i 2 ∧ partOf (colK D i 3) = p ∧ (colK D i 5 = 0 ∨ colK D i 5 = 3) ∧ 0 ≤ colK D i 4 ∧ colK D i 4 ≤ verAt R (colK D i 3) ∧ ¬ (colK D i 4 = 0 ∧ colK D i 5 = 0) ∧
    (0 < i → colK D (i - 1) 0 < colK D i 0)
def DonesTo (p : Int) (R D : List KD) (n : Nat) : Prop := ∀ i, i < n → DoneAt p R D i
/-- The i-th intent is right. -/
def IntAt (p st : Int) (T : List KD) (i : Nat) : Prop :=
  opOk (colK T i 1) (colK T i 2) (colK T i 3) (colK T i 4) = true ∧ colK T i 1 ≠ 1 ∧ partOf (opKey (colK T i 1) (colK T i 2) (colK T i 3) (colK T i 4)) = p ∧ 1 ≤ colK T i 0 ∧ colK T i 0 ≤ st ∧ (0 < i → colK T (i - 1) 0 < colK T i 0)
def IntsTo (p st : Int) (T : List KD) (n : Nat) : Prop := ∀ i, i < n → IntAt p st T i
def pairK (S : List KD) (i : Nat) : Int := colK S i 0 * 8 + colK S i 1
def SeenAt (p : Int) (S : List KD) (i : Nat) : Prop :=
  0 ≤ colK S i 0 ∧ colK S i 0 < 8 ∧ 0 ≤ colK S i 1 ∧ colK S i 1 < 8 ∧ colK S i 1 % 2 = p ∧ 1 ≤ colK S i 2 ∧ (0 < i → pairK S (i - 1) < pairK S i)
def SeenTo (p : Int) (S : List KD) (n : Nat) : Prop := ∀ i, i < n → SeenAt p S i
/-- What a key has behind the first i commits. -/
def rowAt (Lg : List KD) : Nat → Int → KD
  | 0, _ => ([0, 0], [])
  | i + 1, k => if keyK (Lg.getD i kd0) = k then ([verK (Lg.getD i kd0), colK Lg i 2], (Lg.getD i kd0).2) else rowAt Lg i k
def LogAt (p : Int) (Lg : List KD) (i : Nat) : Prop :=
  partOf (keyK (Lg.getD i kd0)) = p ∧ okV (keyK (Lg.getD i kd0)) (colK Lg i 2) (Lg.getD i kd0).2 = true ∧ verK (Lg.getD i kd0) = (rowAt Lg i (keyK (Lg.getD i kd0))).1.getD 0 0 + 1
def LogTo (p : Int) (Lg : List KD) (n : Nat) : Prop := ∀ i, i < n → LogAt p Lg i
def RowsTo (R Lg : List KD) (n : Nat) : Prop := ∀ k, k < n → R.getD k kd0 = rowAt Lg Lg.length (k : Int)
instance (p : Int) (R D : List KD) (i : Nat) : Decidable (DoneAt p R D i) := by unfold DoneAt; infer_instance
instance (p : Int) (R D : List KD) (n : Nat) : Decidable (DonesTo p R D n) := inferInstanceAs (Decidable (∀ i, i < n → DoneAt p R D i))
instance (p st : Int) (T : List KD) (i : Nat) : Decidable (IntAt p st T i) := by unfold IntAt; infer_instance
instance (p st : Int) (T : List KD) (n : Nat) : Decidable (IntsTo p st T n) := inferInstanceAs (Decidable (∀ i, i < n → IntAt p st T i))
instance (p : Int) (S : List KD) (i : Nat) : Decidable (SeenAt p S i) := by unfold SeenAt; infer_instance
instance (p : Int) (S : List KD) (n : Nat) : Decidable (SeenTo p S n) := inferInstanceAs (Decidable (∀ i, i < n → SeenAt p S i))
instance (p : Int) (Lg : List KD) (i : Nat) : Decidable (LogAt p Lg i) := by unfold LogAt; infer_instance
instance (p : Int) (Lg : List KD) (n : Nat) : Decidable (LogTo p Lg n) := inferInstanceAs (Decidable (∀ i, i < n → LogAt p Lg i))
instance (R Lg : List KD) (n : Nat) : Decidable (RowsTo R Lg n) := inferInstanceAs (Decidable (∀ k, k < n → R.getD k kd0 = rowAt Lg Lg.length (k : Int)))
def donesB (p : Int) (R D : List KD) : Bool := decide (DonesTo p R D D.length)
def intsB (p st : Int) (T : List KD) : Bool := decide (T.length ≤ 3 ∧ IntsTo p st T T.length)
def seenB (p : Int) (S : List KD) : Bool := decide (SeenTo p S S.length)
def logB (p : Int) (R Lg : List KD) : Bool := decide (R.length = 24 ∧ Lg.length ≤ 60 ∧ LogTo p Lg Lg.length ∧ RowsTo R Lg 24)
/-- Is it a part? -/
def okS (p f st : Int) (R D T S Lg : List KD) : Bool := decide (0 ≤ p ∧ p < 2) && (decide (0 ≤ f) && (decide (0 ≤ st ∧ st ≤ 60) && (logB p R Lg && (donesB p R D && (intsB p st T && seenB p S)))))
theorem partOf_key {k p : Int} (h : partOf k = p) (hp : 0 ≤ p) : 0 ≤ k ∧ k < 24 := by
  unfold partOf at h
  split at h
  · assumption
  · omega
theorem DonesTo.more {p : Int} {R D : List KD} {k : Nat} (h : DonesTo p R D k) (hk : DoneAt p R D k) : DonesTo p R D (k + 1) := by
  intro i hi
  by_cases e : i = k
  · rw [e]; exact hk
  · exact h i (by omega)
theorem donesB_no {p : Int} {R D : List KD} {k : Nat} (hk : k < D.length) (h : ¬ DoneAt p R D k) : donesB p R D = false := decide_eq_false (fun q => h (q k hk))
theorem IntsTo.more {p st : Int} {T : List KD} {k : Nat} (h : IntsTo p st T k) (hk : IntAt p st T k) : IntsTo p st T (k + 1) := by
  intro i hi
  by_cases e : i = k
  · rw [e]; exact hk
  · exact h i (by omega)
theorem intsB_no {p st : Int} {T : List KD} {k : Nat} (hk : k < T.length) (h : ¬ IntAt p st T k) : intsB p st T = false := decide_eq_false (fun q => h (q.2 k hk))
theorem SeenTo.more {p : Int} {S : List KD} {k : Nat} (h : SeenTo p S k) (hk : SeenAt p S k) : SeenTo p S (k + 1) := by
  intro i hi
  by_cases e : i = k
  · rw [e]; exact hk
  · exact h i (by omega)
theorem seenB_no {p : Int} {S : List KD} {k : Nat} (hk : k < S.length) (h : ¬ SeenAt p S k) : seenB p S = false := decide_eq_false (fun q => h (q k hk))
end Go.Proofs.YtefhpbcdjgllnaaGreat
