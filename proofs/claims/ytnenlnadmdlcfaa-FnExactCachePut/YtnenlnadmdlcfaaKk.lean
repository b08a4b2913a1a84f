/- Keys: what the kind, the person and the part of a key are; contracts of keyRight and of both KeyKind. -/
import Derived.Test.YtnenlnadmdlcfaaRows
import Derived.WalkKit
import Derived.WalkSpells
import Derived.WalkLawsBesides
import Derived.Handy
namespace Go.Proofs.Ytnenlnadmdlcfaa
open Go.RowKit

def keyIn (k : Int) : Bool := decide (0 ≤ k ∧ k < 24)
theorem keyIn_yes {k : Int} (h0 : 0 ≤ k) (h1 : k < 24) : keyIn k = true := by simp [keyIn, h0, h1]
theorem keyIn_no {k : Int} (h : ¬ (0 ≤ k ∧ k < 24)) : keyIn k = false := by simp [keyIn]; omega
/-- The kind of a key, whose it is, its part; of no key -1. -/
def kindOf (k : Int) : Int := if 0 ≤ k ∧ k < 24 then k / 8 else -1
def whoOf (k : Int) : Int := if 0 ≤ k ∧ k < 24 then k % 8 else -1
def partOf (k : Int) : Int := if 0 ≤ k ∧ k < 24 then k % 8 % 2 else -1
def keyOf (kind who : Int) : Int := if 0 ≤ kind ∧ kind < 3 ∧ 0 ≤ who ∧ who < 8 then kind * 8 + who else -1
theorem kindOf_in {k : Int} (h0 : 0 ≤ k) (h1 : k < 24) : kindOf k = k / 8 := by simp [kindOf, h0, h1]
theorem kindOf_out {k : Int} (h : ¬ (0 ≤ k ∧ k < 24)) : kindOf k = -1 := by rw [kindOf, if_neg h]
theorem whoOf_in {k : Int} (h0 : 0 ≤ k) (h1 : k < 24) : whoOf k = k % 8 := by simp [whoOf, h0, h1]
theorem whoOf_out {k : Int} (h : ¬ (0 ≤ k ∧ k < 24)) : whoOf k = -1 := by rw [whoOf, if_neg h]
theorem partOf_in {k : Int} (h0 : 0 ≤ k) (h1 : k < 24) : partOf k = k % 8 % 2 := by simp [partOf, h0, h1]
theorem partOf_out {k : Int} (h : ¬ (0 ≤ k ∧ k < 24)) : partOf k = -1 := by rw [partOf, if_neg h]
theorem keyOf_in {a b : Int} (h0 : 0 ≤ a) (h1 : a < 3) (h2 : 0 ≤ b) (h3 : b < 8) : keyOf a b = a * 8 + b := by simp [keyOf, h0, h1, h2, h3]
theorem keyOf_out {a b : Int} (h : ¬ (0 ≤ a ∧ a < 3 ∧ 0 ≤ b ∧ b < 8)) : keyOf a b = -1 := by rw [keyOf, if_neg h]

theorem keyRight_any (k : Int) (w : World) : Calls Try.prog 64 #[.int .i64 k] w fun e w' => e = .returned (.bool (keyIn k)) ∧ w' = w := by
  by_cases h : 0 ≤ k ∧ k < 24
  · rw [keyIn_yes h.1 h.2]
    obtain ⟨h0, h1⟩ := h
    go_enter Try.func64, Try.ntmps64
    go_wp2
    go_ret
    exact ⟨by simp, rfl⟩
  · rw [keyIn_no h]
    by_cases h0 : 0 ≤ k
    · have h1 : ¬ k < 24 := by omega
      clear h
      go_enter Try.func64, Try.ntmps64
      go_wp2
      go_ret
      exact ⟨by first | (simp; done) | (simp; omega), rfl⟩
    · clear h
      go_enter Try.func64, Try.ntmps64
      go_wp2
      go_ret
      exact ⟨by first | (simp; done) | (simp; omega), rfl⟩

theorem implKind_any (k : Int) (w : World) : Calls Try.prog 88 #[.int .i64 k] w fun e w' => e = .returned (.int .i64 (kindOf k)) ∧ w' = w := by
  by_cases h : 0 ≤ k ∧ k < 24
  · have hk := keyIn_yes h.1 h.2
    rw [kindOf_in h.1 h.2]
    obtain ⟨h0, h1⟩ := h
    go_enter Try.func88, Try.ntmps88
    go_wp2_with (first | (go_at_call 64; refine (keyRight_any _ _).mono ?_; rintro e w1 ⟨rfl, rfl⟩))
    go_ret
    exact ⟨by first | rfl | go_arith, rfl⟩
  · have hk := keyIn_no h
    rw [kindOf_out h]
    clear h
    go_enter Try.func88, Try.ntmps88
    go_wp2_with (first | (go_at_call 64; refine (keyRight_any _ _).mono ?_; rintro e w1 ⟨rfl, rfl⟩))
    go_ret
    exact ⟨rfl, rfl⟩

theorem specKind_any (k : Int) (w : World) : Calls Try.prog 78 #[.int .i64 k] w fun e w' => e = .returned (.int .i64 (kindOf k)) ∧ w' = w := by
  by_cases h : 0 ≤ k ∧ k < 24
  · rw [kindOf_in h.1 h.2]
    obtain ⟨h0, h1⟩ := h
    go_enter Try.func78, Try.ntmps78
    go_wp2
    go_ret
    exact ⟨by first | rfl | go_arith, rfl⟩
  · rw [kindOf_out h]
    by_cases h0 : 0 ≤ k
    · have h1 : ¬ k < 24 := by omega
      clear h
      go_enter Try.func78, Try.ntmps78
      go_wp2
      go_ret
      exact ⟨rfl, rfl⟩
    · clear h
      go_enter Try.func78, Try.ntmps78
      go_wp2
      go_ret
      exact ⟨rfl, rfl⟩
end Go.Proofs.Ytnenlnadmdlcfaa
