/- Both MsgSame, both MsgUp: contracts. Written by a program (gma.py). -/
import Derived.Test.YtddpoheoecafjaaGreatSMsg
import Derived.Test.YtddpoheoecafjaaGreatGrH
namespace Go.Proofs.YtddpoheoecafjaaGreat
open Go.RowKit
attribute [local go_sem ↓] Go.wp_at_zero Go.wp_at_succ

/-- Are two messages one? (A name that the walk does not take apart.) -/
def sameM (ia ib : List Int) (la lb : List (Int × Int)) (va vb : List KD) : Bool := decide (ia = ib ∧ la = lb ∧ va = vb)
theorem sameM_no {ia ib : List Int} {la lb : List (Int × Int)} {va vb : List KD} (h : ¬ (ia = ib ∧ la = lb ∧ va = vb)) : sameM ia ib la lb va vb = false := decide_eq_false h
theorem sameM_refl (ia : List Int) (la : List (Int × Int)) (va : List KD) : sameM ia ia la la va va = true := by simp [sameM]
theorem sameM_vers {ia : List Int} {la : List (Int × Int)} {va vb : List KD} : sameM ia ia la la va vb = eqM va vb := by simp [sameM, eqM]
theorem eqK_item {p0 p1 p2 t0 t1 t2 : Int} {la lb : List (Int × Int)} (h : eqK ([p0, p1, p2], la) ([t0, t1, t2], lb) = true) : p0 = t0 ∧ p1 = t1 ∧ p2 = t2 ∧ la = lb := by
  have := eqK_iff.1 h
  simp at this
  exact ⟨this.1.1, this.1.2.1, this.1.2.2, this.2⟩
def upM (k : Int) : Bool := decide (k = 1 ∨ k = 3 ∨ k = 7 ∨ k = 9 ∨ k = 10)

end Go.Proofs.YtddpoheoecafjaaGreat
