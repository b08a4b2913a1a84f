/- impl.edgesFrom with its iterator, impl.EdgeRange, spec.EdgeRange: contracts. -/
import Derived.Test.YtiplklcabcpccaaGreatDoorWo
namespace Go.Proofs.YtiplklcabcpccaaGreatDoor
open Go.RowKit Go.Shelf
attribute [local go_sem] Oper.semAt_some

/-- The edges from a place on; at most n of them. -/
def fromL (l : List (Int × Int)) (s : Int) : List (Int × Int) := if s < 0 then [] else l.drop s.toNat
def rangeL (l : List (Int × Int)) (s n : Int) : List (Int × Int) := (fromL l s).take n.toNat
theorem fromL_length (l : List (Int × Int)) (s : Int) : (fromL l s).length ≤ l.length := by
  unfold fromL
  split
  · simp
  · rw [List.length_drop]; omega
theorem rangeL_length (l : List (Int × Int)) (s n : Int) : (rangeL l s n).length ≤ l.length := by
  unfold rangeL
  rw [List.length_take]
  have := fromL_length l s
  omega
theorem drop_take_more (l : List (Int × Int)) (m q : Nat) (hm : m ≤ q) (hq : q < l.length) : (l.drop m).take (q + 1 - m) = (l.drop m).take (q - m) ++ [l.getD q (0, 0)] := by
  rw [show q + 1 - m = (q - m) + 1 from by omega, List.take_succ_eq_append_getElem (by rw [List.length_drop]; omega)]
  simp [hq, show m + (q - m) = q from by omega]

/-- Below block m all but block B is as it was. -/
def BelowX (m B : Nat) (w w' : World) : Prop := w.heap.size ≤ w'.heap.size ∧ ∀ k, k < m → k ≠ B → w'.heap[k]? = w.heap[k]?
theorem BelowX.refl (m B : Nat) (w : World) : BelowX m B w w := ⟨Nat.le_refl _, fun _ _ _ => rfl⟩
theorem BelowX.trans {m B : Nat} {a b c : World} (h : BelowX m B a b) (k : BelowX m B b c) : BelowX m B a c := ⟨Nat.le_trans h.1 k.1, fun i hi hn => (k.2 i hi hn).trans (h.2 i hi hn)⟩
theorem BelowX.of {m B : Nat} {w w' : World} (h : Below m w w') : BelowX m B w w' := ⟨h.size, fun k hk _ => h.block k hk⟩
theorem BelowX.cell {m B : Nat} {w w' : World} (h : BelowX m B w w') {p : Addr} {v : Value} (hp : p.block < m) (hn : p.block ≠ B) (hc : w.cell? p = some v) : w'.cell? p = some v := (World.cell?_of_block (w := w) (h.2 p.block hp hn)).trans hc
theorem belowX_b {m B : Nat} {w : World} (hm : m ≤ w.heap.size) (W : World) (l : Nat) (o o' : Obj) (hl : w.heap.size ≤ l) (h : W.heap[l]? = some o) (_ : o.isCells = false) (_ : o.isWalk = false) : BelowX m B W (W.putObj l o') :=
  .of ((Below.refl m W).grown (grownBy_putObj' W l o') (by have := (Array.getElem?_eq_some_iff.1 h).1; omega) (fun k e => by cases e; omega))
theorem appendedX {W w1 : World} {m B : Nat} {t e : TypeId} {size : Nat} {v v' : Value} {k k' : Nat} {xs ys : List Value} {tmp : Obj}
    (hv : Boxed W B t v) (hte : t ≠ e) (hrow : W.ownsRow m e size v k xs) (hm : m ≤ W.heap.size) (hown' : w1.ownsRow m e size v' k' ys) (hgrow : (W.alloc tmp).grownBy w1 v.ownBlock) :
    Boxed w1 B t v ∧ Boxed (w1.setCell ⟨B, 0, none⟩ v') B t v' ∧ (w1.setCell ⟨B, 0, none⟩ v').ownsRow m e size v' k' ys ∧ KeepsOthers W (w1.setCell ⟨B, 0, none⟩ v') ∧ BelowX m B W (w1.setCell ⟨B, 0, none⟩ v') := by
  have hv1 : Boxed w1 B t v := (hv.alloc tmp).kept hgrow (hv.not_row hte hrow)
  refine ⟨hv1, hv1.set v', hown'.kept (grownBy_setCell' w1 B v') (.inr (hv1.not_row hte hown').symm), ?_, ?_⟩
  · refine ((KeepsOthers.alloc W tmp).trans (KeepsOthers.of_grownBy hgrow fun j o ej hj => ?_)).trans (KeepsOthers.setCell _ _ _)
    rcases (hrow.alloc tmp).2 with ⟨rfl, _⟩ | ⟨g, cap, cur, rfl, _, hgb, _⟩
    · simp [Value.ownBlock] at ej
    · obtain rfl : g = j := by simpa [Value.ownBlock] using ej
      rw [hgb] at hj; cases hj; rfl
  · refine ⟨?_, fun j hj hne => ?_⟩
    · have h1 := hgrow.size
      simp only [World.size_alloc] at h1
      simp only [World.size_setCell]
      omega
    · rw [Below.heap_setCell _ _ _ _ hne, hgrow.block j (by simp; omega) (fun e' => by have := (hrow.lt j e'.symm).1; omega)]
      exact Below.heap_alloc _ _ _ (by omega)

theorem prefix_take {α : Type} {pre dl : List α} {x : α} {n : Int} (hp : pre ++ [x] <+: dl) (h1 : pre = [] ∨ (pre.length : Int) ≤ n) (h2 : n ≤ (pre.length : Int)) : dl.take n.toNat = pre := by
  obtain ⟨t, rfl⟩ := hp
  have e : n.toNat = pre.length := by
    rcases h1 with rfl | h1
    · simp at h2 ⊢; omega
    · omega
  rw [e, List.append_assoc, List.take_left']
  rfl

theorem rangeL_more (l : List (Int × Int)) (s n : Int) (k : Nat) (hk : k < l.length) :
    rangeL (l.take (k + 1)) s n = if 0 ≤ s ∧ s ≤ (k : Int) ∧ ((rangeL (l.take k) s n).length : Int) < n then rangeL (l.take k) s n ++ [l.getD k (0, 0)] else rangeL (l.take k) s n := by
  unfold rangeL fromL
  by_cases hs : s < 0
  · rw [if_pos hs, if_pos hs, if_neg (by omega)]
  · obtain ⟨m, rfl⟩ := Int.eq_ofNat_of_zero_le (Int.not_lt.1 hs)
    rw [if_neg hs, if_neg hs]
    simp only [Int.toNat_natCast]
    by_cases hm : m ≤ k
    · have hx : l.getD k (0, 0) = l[k] := by simp [hk]
      have e : (l.take (k + 1)).drop m = (l.take k).drop m ++ [l.getD k (0, 0)] := by
        rw [List.take_succ_eq_append_getElem hk, List.drop_append_of_le_length (by rw [List.length_take]; omega), hx]
      rw [e]
      generalize (l.take k).drop m = A
      by_cases hn : ((A.take n.toNat).length : Int) < n
      · rw [if_pos ⟨by omega, by omega, hn⟩]
        rw [List.length_take] at hn
        rw [List.take_of_length_le (by simp; omega), List.take_of_length_le (by omega)]
      · rw [if_neg (fun h => hn h.2.2)]
        rw [List.length_take] at hn
        rw [List.take_append_of_le_length (by omega)]
    · rw [if_neg (fun h => hm (by omega)), List.drop_of_length_le (by rw [List.length_take]; omega), List.drop_of_length_le (by rw [List.length_take]; omega)]

end Go.Proofs.YtiplklcabcpccaaGreatDoor
