/- How much a list of elements weighs. -/
import Derived.Test.YtnenlnadmdlcfaaFb
namespace Go.Proofs.Ytnenlnadmdlcfaa
open Go.RowKit
def bulkM (L : List KD) : Nat := (L.map fun x => x.2.length).sum
theorem bulkM_step (L : List KD) (k : Nat) (h : k < L.length) : bulkM (L.take (k + 1)) = bulkM (L.take k) + (L.getD k kd0).2.length := by
  rw [bulkM, bulkM, List.take_succ_eq_append_getElem h, List.map_append, List.sum_append, List.getD_eq_getElem?_getD, List.getElem?_eq_getElem h]
  simp only [List.map_cons, List.map_nil, List.sum_cons, List.sum_nil, Option.getD_some, Nat.add_zero]
theorem bulkM_take (L : List KD) (k : Nat) : bulkM (L.take k) ≤ bulkM L := by
  have h : bulkM L = bulkM (L.take k) + bulkM (L.drop k) := by
    rw [bulkM, bulkM, bulkM, ← List.sum_append, ← List.map_append, List.take_append_drop]
  omega
theorem bulkM_get (L : List KD) (k : Nat) (h : k < L.length) : (L.getD k kd0).2.length ≤ bulkM L := by
  have := bulkM_step L k h
  have := bulkM_take L (k + 1)
  omega
theorem sum_zero (l : List Nat) (h : ∀ x ∈ l, x = 0) : l.sum = 0 := by
  induction l with
  | nil => rfl
  | cons x r ih => rw [List.sum_cons, h x (by simp), ih (fun y hy => h y (by simp [hy]))]
theorem bulkM_none {sz m : Nat} {w : World} {v : Value} {L : List KD} (h : RdM sz m false w v L) : bulkM L = 0 := by
  obtain ⟨ao, cap, _, _, hc⟩ := h
  have : ∀ x ∈ L.map (fun x : KD => x.2.length), x = 0 := by
    intro x hx
    obtain ⟨y, hy, rfl⟩ := List.mem_map.1 hx
    obtain ⟨i, hi, rfl⟩ := List.mem_iff_getElem.1 hy
    obtain ⟨b, off, _, _, hcc⟩ := hc (by omega)
    have := (hcc i hi).non rfl
    simp [List.getD_eq_getElem?_getD, hi] at this
    simp [this]
  exact sum_zero _ this
/-- What sz of a struct answers. -/
def SzD (Ls : List (List KD)) (left : Int) (e : Ending) : Prop := (∃ r : Int, e = .returned (.int .i64 r) ∧ 0 ≤ r ∧ r ≤ left ∧ ∀ L ∈ Ls, L.length + bulkM L ≤ 1048576) ∨ e = .returned (.int .i64 (-1))
/-- What szTS answers. -/
def SzM (L : List KD) (left : Int) (e : Ending) : Prop := (e = .returned (.int .i64 (left - L.length - bulkM L)) ∧ 0 ≤ left - L.length - bulkM L) ∨ (e = .returned (.int .i64 (-1)) ∧ left - L.length - bulkM L < 0)
end Go.Proofs.Ytnenlnadmdlcfaa
