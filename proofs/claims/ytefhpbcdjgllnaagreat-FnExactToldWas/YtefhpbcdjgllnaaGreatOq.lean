/- Writes: what is one, its two keys; spec's OpOk, OpKey, OpOther: contracts. -/
import Derived.Test.YtefhpbcdjgllnaaGreatKm
import Derived.Test.YtefhpbcdjgllnaaGreatGrA
import Derived.Deep.RegionHeld3
import Derived.Deep.DrawnRows
namespace Go.Proofs.YtefhpbcdjgllnaaGreat
open Go.RowKit
attribute [local go_sem ↓] Go.wp_at_zero Go.wp_at_succ

/-- A write, as a value. -/
abbrev opV (k a b n : Int) : Value := .agg #[.int .i64 k, .int .i64 a, .int .i64 b, .int .i64 n]
/-- Is it one? -/
def setOk (k a b n : Int) : Prop := k = 1 ∧ (0 ≤ a ∧ a < 8) ∧ b = 0 ∧ 0 ≤ n ∧ n ≤ 1000000
def bindOk (k a b n : Int) : Prop := k = 2 ∧ (0 ≤ a ∧ a < 8) ∧ (0 ≤ b ∧ b < 8) ∧ b ≠ a ∧ 0 ≤ n ∧ n ≤ 1000
def partOk (k a b n : Int) : Prop := k = 3 ∧ (0 ≤ a ∧ a < 8) ∧ (0 ≤ b ∧ b < 8) ∧ b ≠ a ∧ n = 0
instance (k a b n : Int) : Decidable (setOk k a b n) := by unfold setOk; infer_instance
instance (k a b n : Int) : Decidable (bindOk k a b n) := by unfold bindOk; infer_instance
instance (k a b n : Int) : Decidable (partOk k a b n) := by unfold partOk; infer_instance
def opOk (k a b n : Int) : Bool := decide (setOk k a b n) || decide (bindOk k a b n) || decide (partOk k a b n)
def opKey (k a b n : Int) : Int := if setOk k a b n then a else if bindOk k a b n ∨ partOk k a b n then 16 + a else -1
def opOther (k a b n : Int) : Int := if bindOk k a b n ∨ partOk k a b n then 8 + b else -1

/-- Which of the four ways a write goes. -/
theorem op_ways (k a b n : Int) :
    (setOk k a b n ∧ opOk k a b n = true ∧ opKey k a b n = a ∧ opOther k a b n = -1) ∨
    (bindOk k a b n ∧ opOk k a b n = true ∧ opKey k a b n = 16 + a ∧ opOther k a b n = 8 + b) ∨
    (partOk k a b n ∧ opOk k a b n = true ∧ opKey k a b n = 16 + a ∧ opOther k a b n = 8 + b) ∨
    (¬ setOk k a b n ∧ ¬ bindOk k a b n ∧ ¬ partOk k a b n ∧ opOk k a b n = false ∧ opKey k a b n = -1 ∧ opOther k a b n = -1) := by
  by_cases h1 : setOk k a b n
  · have h2 : ¬ bindOk k a b n := by intro h; have := h1.1; have := h.1; omega
    have h3 : ¬ partOk k a b n := by intro h; have := h1.1; have := h.1; omega
    exact .inl ⟨h1, by simp [opOk, h1], by simp [opKey, h1], by simp [opOther, h2, h3]⟩
  · by_cases h2 : bindOk k a b n
    · exact .inr (.inl ⟨h2, by simp [opOk, h2], by simp [opKey, h1, h2], by simp [opOther, h2]⟩)
    · by_cases h3 : partOk k a b n
      · exact .inr (.inr (.inl ⟨h3, by simp [opOk, h3], by simp [opKey, h1, h3], by simp [opOther, h3]⟩))
      · exact .inr (.inr (.inr ⟨h1, h2, h3, by simp [opOk, h1, h2, h3], by simp [opKey, h1, h2, h3], by simp [opOther, h2, h3]⟩))

set_option maxHeartbeats 1000000 in
theorem specOpOk_any (k a b n : Int) (w : World) : Calls Tryz.prog 71 #[opV k a b n] w fun e w' => e = .returned (.bool (opOk k a b n)) ∧ Below w.heap.size w w' := by
  rcases op_ways k a b n with ⟨h, e, -, -⟩ | ⟨h, e, -, -⟩ | ⟨h, e, -, -⟩ | ⟨h1, h2, h3, e, -, -⟩
  · rw [e]; clear e
    obtain ⟨rfl, ⟨h0, h1⟩, rfl, h2, h3⟩ := h
    go_enter Tryz.func71, Tryz.ntmps71
    go_wp2
    all_goals
      first | (exfalso; omega) | (go_ret; exact ⟨by simp_all, by go_grown⟩)
  · rw [e]; clear e
    obtain ⟨rfl, ⟨h0, h1⟩, ⟨h2, h3⟩, h4, h5, h6⟩ := h
    go_enter Tryz.func71, Tryz.ntmps71
    go_wp2
    all_goals
      first | (exfalso; omega) | (go_ret; exact ⟨by simp_all, by go_grown⟩)
  · rw [e]; clear e
    obtain ⟨rfl, ⟨h0, h1⟩, ⟨h2, h3⟩, h4, rfl⟩ := h
    go_enter Tryz.func71, Tryz.ntmps71
    go_wp2
    all_goals
      first | (exfalso; omega) | (go_ret; exact ⟨by simp_all, by go_grown⟩)
  · rw [e]; clear e
    have H1 := hid h1
    have H2 := hid h2
    have H3 := hid h3
    clear h1 h2 h3
    go_enter Tryz.func71, Tryz.ntmps71
    go_wp2
    all_goals
      go_ret
      refine ⟨?_, by go_grown⟩
      have q1 := H1.out
      have q2 := H2.out
      have q3 := H3.out
      unfold setOk at q1
      unfold bindOk at q2
      unfold partOk at q3
      clear H1 H2 H3
      first
        | rfl
        | (simp; omega)
        | (simp at *; omega)
end Go.Proofs.YtefhpbcdjgllnaaGreat
