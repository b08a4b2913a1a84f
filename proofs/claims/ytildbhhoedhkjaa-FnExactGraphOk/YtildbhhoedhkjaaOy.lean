/- impl.writeOf: contract; OpOk, OpOther. -/
import Derived.Test.YtildbhhoedhkjaaOx
namespace Go.Proofs.Ytildbhhoedhkjaa
open Go.RowKit
attribute [local go_sem ↓] Go.wp_at_zero Go.wp_at_succ

theorem setR_of {k a b n : Int} (h : setOk k a b n) : setR a b n = true := by simp [setR, h.2.1, h.2.2.1, h.2.2.2]
theorem bindR_of {k a b n : Int} (h : bindOk k a b n) : bindR a b n = true := by
  obtain ⟨_, h1, h2, h3, h4⟩ := h
  simp [bindR, endsR, h1, h2, h3, h4]
theorem partR_of {k a b n : Int} (h : partOk k a b n) : partR a b n = true := by
  obtain ⟨_, h1, h2, h3, h4⟩ := h
  simp [partR, endsR, h1, h2, h3, h4]
theorem setR_no {a b n : Int} (h : ¬ setOk 1 a b n) : setR a b n = false := by
  rw [setR, decide_eq_false]; intro x; exact h ⟨rfl, x.1, x.2.1, x.2.2⟩
theorem bindR_no {a b n : Int} (h : ¬ bindOk 2 a b n) : bindR a b n = false := by
  rw [Bool.eq_false_iff]
  intro x
  rw [bindR, endsR, Bool.and_eq_true, decide_eq_true_eq, decide_eq_true_eq] at x
  exact h ⟨rfl, x.1.1, x.1.2.1, x.1.2.2, x.2⟩
theorem partR_no {a b n : Int} (h : ¬ partOk 3 a b n) : partR a b n = false := by
  rw [Bool.eq_false_iff]
  intro x
  rw [partR, endsR, Bool.and_eq_true, decide_eq_true_eq, beq_iff_eq] at x
  exact h ⟨rfl, x.1.1, x.1.2.1, x.1.2.2, x.2⟩

end Go.Proofs.Ytildbhhoedhkjaa
