/- The pieces of a text and the library's search: plain. -/
import Derived.Test.YtdjonplcgmfmgaaGreatDoorRw
namespace Go.Proofs.YtdjonplcgmfmgaaGreatDoor
open Go.RowKit Go.Shelf

theorem index_free {c : UInt8} : ∀ {a : List UInt8}, c ∉ a → Lib.index a [c] = -1
  | [], _ => rfl
  | x :: a, h => by
    rw [List.mem_cons, not_or] at h
    rw [Lib.index, if_neg (by simp [List.isPrefixOf, h.1]), index_free h.2]
    rfl
theorem mem_split {c : UInt8} : ∀ {l : List UInt8}, c ∈ l → ∃ a b, l = a ++ c :: b ∧ c ∉ a
  | [], h => by cases h
  | x :: l, h => by
    by_cases hx : c = x
    · exact ⟨[], l, by rw [hx]; rfl, by simp⟩
    · rw [List.mem_cons] at h
      obtain ⟨a, b, e, ha⟩ := mem_split (h.resolve_left hx)
      exact ⟨x :: a, b, by rw [e]; rfl, by rw [List.mem_cons, not_or]; exact ⟨hx, ha⟩⟩
/-- The first piece, as the search finds it. -/
theorem cut_index (c : UInt8) (l : List UInt8) : (Lib.index l [c] = -1 ∧ cutL c l = [l]) ∨ ∃ i : Nat, Lib.index l [c] = i ∧ i < l.length ∧ cutL c l = l.take i :: cutL c (l.drop (i + 1)) := by
  by_cases h : c ∈ l
  · obtain ⟨a, b, rfl, ha⟩ := mem_split h
    refine Or.inr ⟨a.length, index_sep b ha, by simp, ?_⟩
    rw [cut_at b ha]
    simp
  · exact Or.inl ⟨index_free h, cut_none h⟩
/-- The pieces are as many as the text allows. -/
theorem cut_left {l : List UInt8} {i : Nat} (h : i < l.length) : (l.drop (i + 1)).length < l.length := by
  rw [List.length_drop]; omega
end Go.Proofs.YtdjonplcgmfmgaaGreatDoor
