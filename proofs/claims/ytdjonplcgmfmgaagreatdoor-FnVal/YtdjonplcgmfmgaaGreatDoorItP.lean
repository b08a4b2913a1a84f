/- Lists that are gathered from an iterator over a list: plain facts; the world's small steps. -/
import Derived.Test.YtdjonplcgmfmgaaGreatDoorPl
import Derived.RangeFuncNested
import Derived.RangeFuncBound
import Derived.RangeFuncCalls
import Derived.RangeFuncLeaves
import Derived.RangeFuncBox
import Derived.Shelf.Abstract
import Derived.OwnWalkIn
import Derived.TacticsInMore
import Derived.LoopNIn
import Derived.LoopIn
import Derived.Maps.AppendAt
namespace Go.Proofs.YtdjonplcgmfmgaaGreatDoor
open Go.RowKit

theorem grown_of_below {W W' : World} (h : Below W.heap.size W W') : W.grownBy W' none := ⟨h.os, h.tape, h.output, h.size, fun k hk _ => h.block k hk⟩
theorem keeps_of_below {W W' : World} (h : Below W.heap.size W W') : KeepsOthers W W' :=
  ⟨h.size, fun k _ hk _ => (h.block k (Array.getElem?_eq_some_iff.1 hk).1).trans hk⟩

theorem row_form {w : World} {B : Nat} {e : TypeId} {size : Nat} {v : Value} {n : Nat} {xs : List Value} (h : w.ownsRow B e size v n xs) : ∃ ao cap, v = .slice ao n cap := by
  rcases h.2 with ⟨rfl, rfl⟩ | ⟨g, cap, cur, rfl, _⟩
  · exact ⟨none, 0, rfl⟩
  · exact ⟨_, cap, rfl⟩

theorem row_mono {w : World} {B B' : Nat} {e : TypeId} {size : Nat} {v : Value} {n : Nat} {xs : List Value} (h : w.ownsRow B e size v n xs) (hB : B' ≤ B) : w.ownsRow B' e size v n xs := by
  refine ⟨h.1, ?_⟩
  rcases h.2 with hn | ⟨g, cap, cur, rfl, hbg, rest⟩
  · exact .inl hn
  · exact .inr ⟨g, cap, cur, rfl, Nat.le_trans hB hbg, rest⟩

theorem filter_more (l : List (Int × Int)) (p : Int × Int → Bool) (k : Nat) (hk : k < l.length) : (l.take (k + 1)).filter p = if p (l.getD k (0, 0)) = true then (l.take k).filter p ++ [l.getD k (0, 0)] else (l.take k).filter p := by
  rw [List.take_succ_eq_append_getElem hk, List.filter_append]
  have e : l.getD k (0, 0) = l[k] := by simp [hk]
  rw [e]
  by_cases h : p l[k] = true <;> simp [h]
theorem filter_take_prefix (l : List (Int × Int)) (p : Int × Int → Bool) (k : Nat) : (l.take k).filter p <+: l.filter p := by
  have := (List.take_prefix k l).filter p
  exact this
theorem filter_take_lt (l : List (Int × Int)) (p : Int × Int → Bool) (k : Nat) (hk : k < l.length) : ((l.take k).filter p).length < l.length := by
  have := List.length_filter_le p (l.take k)
  rw [List.length_take] at this
  omega
end Go.Proofs.YtdjonplcgmfmgaaGreatDoor
