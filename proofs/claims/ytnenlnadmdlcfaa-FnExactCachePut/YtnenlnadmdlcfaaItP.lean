/- Lists that are gathered from an iterator over a list: plain facts; the world's small steps. -/
import Derived.Test.YtnenlnadmdlcfaaPl
import Derived.RangeFuncNested
import Derived.RangeFuncBound
import Derived.RangeFuncCalls
import Derived.RangeFuncLeaves
import Derived.RangeFuncBox
import Derived.Shelf.Abstract
import Derived.OwnWalkIn
import Derived.TacticsInMore
import Derived.LoopNIn
import Derived.LoopIn
import Derived.Maps.AppendAt
namespace Go.Proofs.Ytnenlnadmdlcfaa
open Go.RowKit

theorem grown_of_below {W W' : World} (h : Below W.heap.size W W') : W.grownBy W' none := ⟨h.os, h.tape, h.output, h.size, fun k hk _ => h.block k hk⟩
theorem keeps_of_below {W W' : World} (h : Below W.heap.size W W') : KeepsOthers W W' :=
  ⟨h.size, fun k _ hk _ => (h.block k (Array.getElem?_eq_some_iff.1 hk).1).trans hk⟩

theorem row_form {w : World} {B : Nat} {e : TypeId} {size : Nat} {v : Value} {n : Nat} {xs : List Value} (h : w.ownsRow B e size v n xs) : ∃ ao cap, v = .slice ao n cap := by
  rcases h.2 with ⟨rfl, rfl⟩ | ⟨g, cap, cur, rfl, _⟩
  · exact ⟨none, 0, rfl⟩
  · exact ⟨_, cap, rfl⟩

theorem row_mono {w : World} {B B' : Nat} {e : TypeId} {size : Nat} {v : Value} {n : Nat} {xs : List Value} (h : w.ownsRow B e size v n xs) (hB : B' ≤ B) : w.ownsRow B' e size v n xs := by
  refine ⟨h.1, ?_⟩
  rcases h.2 with hn | ⟨g, cap, cur, rfl, hbg, rest⟩
  · exact .inl hn
  · exact .inr ⟨g, cap, cur, rfl, Nat.le_trans hB hbg, rest⟩

theorem filter_more (l : List (Int × Int)) (p : Int × Int → Bool) (k : Nat) (hk : k < l.length) : (l.take (k + 1)).filter p = if p (l.getD k (0, 0)) = true then (l.take k).filter p ++ [l.getD k (0, 0)] else (l.take k).filter p := by
  rw [List.take_succ_eq_append_getElem hk, List.filter_append]
  have e : l.getD k (0, 0) = l[k] := by simp [hk]
  rw [e]
  by_cases h : p l[k] = true <;> simp [h]
theorem filter_take_prefix (l : List (Int × Int)) (p : Int × Int → Bool) (k : Nat) : (l.take k).filter p <+: l.filter p := by
  have := (List.take_prefix k l).filter p
  exact this
theorem filter_take_lt (l : List (Int × Int)) (p : Int × Int → Bool) (k : Nat) (hk : k < l.length) : ((l.take k).filter p).length < l.length := by
  have := List.length_filter_le p (l.take k)
  rw [List.length_take] at this
  omega
/-- Below block m all but block B is as it was. -/
def BelowX (m B : Nat) (w w' : World) : Prop := w.heap.size ≤ w'.heap.size ∧ ∀ k, k < m → k ≠ B → w'.heap[k]? = w.heap[k]?
theorem BelowX.refl (m B : Nat) (w : World) : BelowX m B w w := ⟨Nat.le_refl _, fun _ _ _ => rfl⟩
theorem BelowX.trans {m B : Nat} {a b c : World} (h : BelowX m B a b) (k : BelowX m B b c) : BelowX m B a c := ⟨Nat.le_trans h.1 k.1, fun i hi hn => (k.2 i hi hn).trans (h.2 i hi hn)⟩
theorem BelowX.of {m B : Nat} {w w' : World} (h : Below m w w') : BelowX m B w w' := ⟨h.size, fun k hk _ => h.block k hk⟩
theorem BelowX.cell {m B : Nat} {w w' : World} (h : BelowX m B w w') {p : Addr} {v : Value} (hp : p.block < m) (hn : p.block ≠ B) (hc : w.cell? p = some v) : w'.cell? p = some v := (World.cell?_of_block (w := w) (h.2 p.block hp hn)).trans hc
theorem belowX_b {m B : Nat} {w : World} (hm : m ≤ w.heap.size) (W : World) (l : Nat) (o o' : Obj) (hl : w.heap.size ≤ l) (h : W.heap[l]? = some o) (_ : o.isCells = false) (_ : o.isWalk = false) : BelowX m B W (W.putObj l o') :=
  .of ((Below.refl m W).grown (grownBy_putObj' W l o') (by have := (Array.getElem?_eq_some_iff.1 h).1; omega) (fun k e => by cases e; omega))
theorem appendedX {W w1 : World} {m B : Nat} {t e : TypeId} {size : Nat} {v v' : Value} {k k' : Nat} {xs ys : List Value} {tmp : Obj}
    (hv : Boxed W B t v) (hte : t ≠ e) (hrow : W.ownsRow m e size v k xs) (hm : m ≤ W.heap.size) (hown' : w1.ownsRow m e size v' k' ys) (hgrow : (W.alloc tmp).grownBy w1 v.ownBlock) :
    Boxed w1 B t v ∧ Boxed (w1.setCell ⟨B, 0, none⟩ v') B t v' ∧ (w1.setCell ⟨B, 0, none⟩ v').ownsRow m e size v' k' ys ∧ KeepsOthers W (w1.setCell ⟨B, 0, none⟩ v') ∧ BelowX m B W (w1.setCell ⟨B, 0, none⟩ v') := by
  have hv1 : Boxed w1 B t v := (hv.alloc tmp).kept hgrow (hv.not_row hte hrow)
  refine ⟨hv1, hv1.set v', hown'.kept (grownBy_setCell' w1 B v') (.inr (hv1.not_row hte hown').symm), ?_, ?_⟩
  · refine ((KeepsOthers.alloc W tmp).trans (KeepsOthers.of_grownBy hgrow fun j o ej hj => ?_)).trans (KeepsOthers.setCell _ _ _)
    rcases (hrow.alloc tmp).2 with ⟨rfl, _⟩ | ⟨g, cap, cur, rfl, _, hgb, _⟩
    · simp [Value.ownBlock] at ej
    · obtain rfl : g = j := by simpa [Value.ownBlock] using ej
      rw [hgb] at hj; cases hj; rfl
  · refine ⟨?_, fun j hj hne => ?_⟩
    · have h1 := hgrow.size
      simp only [World.size_alloc] at h1
      simp only [World.size_setCell]
      omega
    · rw [Below.heap_setCell _ _ _ _ hne, hgrow.block j (by simp; omega) (fun e' => by have := (hrow.lt j e'.symm).1; omega)]
      exact Below.heap_alloc _ _ _ (by omega)

end Go.Proofs.Ytnenlnadmdlcfaa
