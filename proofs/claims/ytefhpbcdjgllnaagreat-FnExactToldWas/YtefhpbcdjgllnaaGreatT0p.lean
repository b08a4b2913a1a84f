/- What a key once had, plainly. No walk stands here. -/
import Derived.Test.YtefhpbcdjgllnaaGreatS4p
namespace Go.Proofs.YtefhpbcdjgllnaaGreat
open Go.RowKit

/-- The i-th of what a log tells, as it is yielded: 0 is ahead of all, of the key k; i + 1 is its i-th commit. -/
def hadE (Lg : List KD) (k : Int) : Nat → KD
  | 0 => ([k, 0, 0], [])
  | i + 1 => Lg.getD i kd0
/-- Those of the key k, of the first n commits. -/
def hadL (Lg : List KD) (k : Int) (n : Nat) : List Nat := 0 :: ((List.range n).filter fun i => keyK (Lg.getD i kd0) == k).map (· + 1)
theorem hadL_skip {Lg : List KD} {k : Int} {n : Nat} (h : (keyK (Lg.getD n kd0) == k) = false) : hadL Lg k (n + 1) = hadL Lg k n := by
  unfold hadL
  rw [List.range_succ, List.filter_append, List.filter_cons, h]
  simp
theorem hadL_more {Lg : List KD} {k : Int} {n : Nat} (h : (keyK (Lg.getD n kd0) == k) = true) : hadL Lg k (n + 1) = hadL Lg k n ++ [n + 1] := by
  unfold hadL
  rw [List.range_succ, List.filter_append, List.filter_cons, h]
  simp
theorem hadL_le {Lg : List KD} {k : Int} {m : Nat} : ∀ n, hadL Lg k m <+: hadL Lg k (m + n)
  | 0 => List.prefix_rfl
  | n + 1 => by
    refine (hadL_le n).trans ?_
    rw [← Nat.add_assoc]
    cases h : (keyK (Lg.getD (m + n) kd0) == k) with
    | true => rw [hadL_more h]; exact ⟨_, rfl⟩
    | false => rw [hadL_skip h]; exact List.prefix_rfl
theorem hadL_upto {Lg : List KD} {k : Int} {m n : Nat} (h : m ≤ n) : hadL Lg k m <+: hadL Lg k n := by
  have := hadL_le (Lg := Lg) (k := k) (m := m) (n - m)
  rwa [show m + (n - m) = n from by omega] at this
/-- The answer of the first that has the Ver p1. -/
def wasV (Lg : List KD) (k p1 n : Int) (l : List (Int × Int)) : List Nat → Bool
  | [] => false
  | i :: is => if verK (hadE Lg k i) = p1 then ((hadE Lg k i).1.getD 2 0 == n && decide ((hadE Lg k i).2 = l)) else wasV Lg k p1 n l is
def wasB (Lg : List KD) (k p1 n : Int) (l : List (Int × Int)) : Bool := wasV Lg k p1 n l (hadL Lg k Lg.length)
theorem wasV_none {Lg : List KD} {k p1 n : Int} {l : List (Int × Int)} : ∀ {is : List Nat}, (∀ i ∈ is, verK (hadE Lg k i) ≠ p1) → wasV Lg k p1 n l is = false
  | [], _ => rfl
  | i :: is, h => by
    rw [wasV, if_neg (h i (by simp))]
    exact wasV_none fun j hj => h j (by simp [hj])
theorem wasV_at {Lg : List KD} {k p1 n : Int} {l : List (Int × Int)} {x : Nat} : ∀ {pre post : List Nat}, (∀ i ∈ pre, verK (hadE Lg k i) ≠ p1) → verK (hadE Lg k x) = p1 → wasV Lg k p1 n l (pre ++ x :: post) = ((hadE Lg k x).1.getD 2 0 == n && decide ((hadE Lg k x).2 = l))
  | [], post, _, hx => by rw [List.nil_append, wasV, if_pos hx]
  | i :: is, post, h, hx => by
    rw [List.cons_append, wasV, if_neg (h i (by simp))]
    exact wasV_at (fun j hj => h j (by simp [hj])) hx
theorem wasB_none {Lg : List KD} {k p1 n : Int} {l : List (Int × Int)} (h : ∀ i ∈ hadL Lg k Lg.length, verK (hadE Lg k i) ≠ p1) : wasB Lg k p1 n l = false := wasV_none h
theorem wasB_at {Lg : List KD} {k p1 n : Int} {l : List (Int × Int)} {x : Nat} {pre : List Nat} (hp : pre ++ [x] <+: hadL Lg k Lg.length) (h : ∀ i ∈ pre, verK (hadE Lg k i) ≠ p1) (hx : verK (hadE Lg k x) = p1) :
    wasB Lg k p1 n l = ((hadE Lg k x).1.getD 2 0 == n && decide ((hadE Lg k x).2 = l)) := by
  obtain ⟨t, ht⟩ := hp
  rw [wasB, ← ht, List.append_assoc]
  exact wasV_at h hx
def itemB (k p1 n : Int) (l : List (Int × Int)) : Bool := decide (0 ≤ p1 ∧ p1 ≤ 60) && okV k n l
def toldWasB (k p1 n : Int) (l : List (Int × Int)) (p f st : Int) (R D T S Lg : List KD) : Bool := okS p f st R D T S Lg && (itemB k p1 n l && (decide (partOf k = p) && wasB Lg k p1 n l))
theorem hadL_mem {Lg : List KD} {k : Int} {n x : Nat} (h : x ∈ hadL Lg k n) : x = 0 ∨ ∃ i, x = i + 1 ∧ i < n ∧ keyK (Lg.getD i kd0) = k := by
  simp only [hadL, List.mem_cons, List.mem_map, List.mem_filter, List.mem_range, beq_iff_eq] at h
  rcases h with h | ⟨i, ⟨h1, h2⟩, rfl⟩
  · exact Or.inl h
  · exact Or.inr ⟨i, rfl, h1, h2⟩
end Go.Proofs.YtefhpbcdjgllnaaGreat
