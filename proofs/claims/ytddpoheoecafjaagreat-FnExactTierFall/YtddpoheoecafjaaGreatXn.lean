/- impl.CacheGet: contract; what CacheGet answers, plainly. -/
import Derived.Test.YtddpoheoecafjaaGreatXl
import Derived.Test.YtddpoheoecafjaaGreatXm
import Derived.Laws.ResultCell
namespace Go.Proofs.YtddpoheoecafjaaGreat
open Go.RowKit
attribute [local go_sem ↓] Go.wp_at_zero Go.wp_at_succ
attribute [local go_sem ↓] ldQ_open stQ_open ldH_open stH_open zeroH

/-- The item that CacheGet answers, if there is one; its parts. -/
def ansG (I F : List KD) (key : Int) : Option KD := if okC I F = true then I.find? (fun x => keyK x == key) else none
def gk : Option KD → Int
  | some x => keyK x
  | none => 0
def gv : Option KD → Int
  | some x => verK x
  | none => 0
def gn : Option KD → Int
  | some x => numK x
  | none => 0
def gl : Option KD → List (Int × Int)
  | some x => x.2
  | none => []
def gb : Option KD → Bool
  | some _ => true
  | none => false
theorem itemsX_get {I : List KD} (h : I.length ≤ 4) (k : Nat) (hk : k < 4) : (itemsX I).getD k none = I[k]? := by
  match I, h with
  | [], _ => obtain rfl | rfl | rfl | rfl : k = 0 ∨ k = 1 ∨ k = 2 ∨ k = 3 := by omega
             all_goals rfl
  | [a], _ => obtain rfl | rfl | rfl | rfl : k = 0 ∨ k = 1 ∨ k = 2 ∨ k = 3 := by omega
              all_goals rfl
  | [a, b], _ => obtain rfl | rfl | rfl | rfl : k = 0 ∨ k = 1 ∨ k = 2 ∨ k = 3 := by omega
                 all_goals rfl
  | [a, b, c], _ => obtain rfl | rfl | rfl | rfl : k = 0 ∨ k = 1 ∨ k = 2 ∨ k = 3 := by omega
                    all_goals rfl
  | [a, b, c, d], _ => obtain rfl | rfl | rfl | rfl : k = 0 ∨ k = 1 ∨ k = 2 ∨ k = 3 := by omega
                       all_goals rfl
theorem found_items {I : List KD} {key : Int} {k : Nat} (h : I.length ≤ 4) (hf : FoundX key (itemsX I) k) : ∃ x, (itemsX I).getD k none = some x ∧ x ∈ I ∧ I.find? (fun x => keyK x == key) = some x := by
  obtain ⟨h4, hk, hn⟩ := hf
  rw [itemsX_get h k h4] at hk ⊢
  cases hx : I[k]? with
  | none => rw [hx] at hk; cases hk
  | some x =>
    rw [hx] at hk
    obtain ⟨hlt, rfl⟩ := List.getElem?_eq_some_iff.1 hx
    refine ⟨_, rfl, List.getElem_mem hlt, List.find?_eq_some_iff_getElem.2 ⟨hk, k, hlt, rfl, fun j hj => ?_⟩⟩
    have := hn j hj
    rw [itemsX_get h j (by omega), List.getElem?_eq_getElem (by omega)] at this
    simpa [hasK] using this
theorem none_items {I : List KD} {key : Int} (h : I.length ≤ 4) (hf : NoneX key (itemsX I) 4) : I.find? (fun x => keyK x == key) = none := by
  rw [List.find?_eq_none]
  intro x hx
  obtain ⟨i, hi, rfl⟩ := List.getElem_of_mem hx
  have := hf i (by omega)
  rw [itemsX_get h i (by omega), List.getElem?_eq_getElem hi] at this
  simpa [hasK] using this
theorem okV_le {k n : Int} {l : List (Int × Int)} (h : okV k n l = true) : l.length ≤ 8 := by
  by_cases hk : 0 ≤ k ∧ k < 24
  · by_cases h8 : k / 8 = 0
    · by_cases hn : 0 ≤ n ∧ n ≤ 1000000
      · rw [okV_numD hk.1 hk.2 h8 hn.1 hn.2] at h
        have : (l.length : Int) = 0 := by simpa using h
        omega
      · rw [okV_numNo hk.1 hk.2 h8 hn] at h; cases h
    · rw [okV_kin hk.1 hk.2 h8, Bool.and_eq_true] at h
      exact okL_le h.2
  · rw [okV_out hk] at h; cases h
theorem okC_small {I F : List KD} (h : okC I F = true) : I.length ≤ 4 ∧ ∀ x ∈ I, x.2.length ≤ 8 := by
  have h := okC_iff.1 h
  refine ⟨h.2.1, fun x hx => ?_⟩
  obtain ⟨i, hi, rfl⟩ := List.getElem_of_mem hx
  have := (h.2.2.2 i hi).1
  rw [getD_at hi] at this
  unfold rightK itR at this
  rw [Bool.and_eq_true] at this
  exact okV_le this.2
end Go.Proofs.YtddpoheoecafjaaGreat
