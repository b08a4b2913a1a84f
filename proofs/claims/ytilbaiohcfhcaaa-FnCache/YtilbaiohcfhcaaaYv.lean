/- A variable's cells: what keeps them. -/
import Derived.Test.YtilbaiohcfhcaaaGrD
namespace Go.Proofs.Ytilbaiohcfhcaaa
open Go.RowKit

/-- Block b holds these values from its first cell on; they may be written. -/
def VarAt (w : World) (b : Nat) (vs : List Value) : Prop := b < w.heap.size ∧ ∀ i v, vs[i]? = some v → w.cell? ⟨b, i, none⟩ = some v ∧ w.frozen? ⟨b, i, none⟩ = false
theorem VarAt.c {w : World} {b : Nat} {vs : List Value} (h : VarAt w b vs) (i : Nat) {v : Value} (hv : vs[i]? = some v) : w.cell? ⟨b, i, none⟩ = some v := (h.2 i v hv).1
theorem VarAt.f {w : World} {b : Nat} {vs : List Value} (h : VarAt w b vs) (i : Nat) {v : Value} (hv : vs[i]? = some v) : w.frozen? ⟨b, i, none⟩ = false := (h.2 i v hv).2
theorem VarAt.agree {w w' : World} {b : Nat} {vs : List Value} (h : VarAt w b vs) (hb : w'.heap[b]? = w.heap[b]?) (hl : w.heap.size ≤ w'.heap.size) : VarAt w' b vs :=
  ⟨Nat.lt_of_lt_of_le h.1 hl, fun i _ hv => ⟨(World.cell?_of_block (a := ⟨b, i, none⟩) hb).trans (h.c i hv), (World.frozen?_of_block (a := ⟨b, i, none⟩) hb).trans (h.f i hv)⟩⟩
theorem VarAt.kept {w w' : World} {b : Nat} {vs : List Value} {row : Option Nat} (h : VarAt w b vs) (hg : w.grownBy w' row) (hne : row ≠ some b) : VarAt w' b vs := h.agree (hg.block b h.1 (fun e => hne e.symm)) hg.size
theorem VarAt.only {w w' : World} {b : Nat} {vs : List Value} {F : Nat → Prop} (h : VarAt w b vs) (hg : Only F w w') (hne : ¬ F b) : VarAt w' b vs := h.agree (hg.block b h.1 hne) hg.size
theorem VarAt.later {w w' : World} {b : Nat} {vs : List Value} (h : VarAt w b vs) (hg : Below w.heap.size w w') : VarAt w' b vs := h.agree (hg.block b h.1) hg.size
theorem VarAt.far {w : World} {b : Nat} {vs : List Value} (h : VarAt w b vs) {p : Addr} (hp : p.block ≠ b) (u : Value) : VarAt (w.setCell p u) b vs := h.agree (Below.heap_setCell _ _ _ _ (fun e => hp e.symm)) (by simp)
theorem VarAt.set {w : World} {b : Nat} {vs : List Value} (h : VarAt w b vs) (i : Nat) (hi : i < vs.length) (u : Value) : VarAt (w.setCell ⟨b, i, none⟩ u) b (vs.set i u) := by
  refine ⟨by simpa using h.1, fun j v hv => ?_⟩
  by_cases e : i = j
  · subst e
    rw [List.getElem?_set_self hi] at hv
    obtain rfl := Option.some.inj hv
    obtain ⟨x, hx⟩ : ∃ x, vs[i]? = some x := ⟨_, List.getElem?_eq_getElem hi⟩
    exact ⟨World.cell?_setCell_same _ _ _ (h.c i hx), by rw [World.frozen?_setCell]; exact h.f i hx⟩
  · rw [List.getElem?_set_ne e] at hv
    exact ⟨(World.cell?_setCell_other _ _ _ _ (by intro q; injection q with _ q; omega)).trans (h.c j hv), by rw [World.frozen?_setCell]; exact h.f j hv⟩
theorem VarAt.new2 (w : World) (a b : Value) (t : TypeId) : VarAt (w.alloc (.cells #[a, b] t)) w.heap.size [a, b] := by
  refine ⟨by simp, fun i v hv => ?_⟩
  match i, hv with
  | 0, hv => cases hv; exact ⟨by go_cell, by (first | go_cell | (simp [World.frozen?, World.alloc]; done) | rfl)⟩
  | 1, hv => cases hv; exact ⟨by go_cell, by (first | go_cell | (simp [World.frozen?, World.alloc]; done) | rfl)⟩
theorem VarAt.new4 (w : World) (a b c d : Value) (t : TypeId) : VarAt (w.alloc (.cells #[a, b, c, d] t)) w.heap.size [a, b, c, d] := by
  refine ⟨by simp, fun i v hv => ?_⟩
  match i, hv with
  | 0, hv => cases hv; exact ⟨by go_cell, by (first | go_cell | (simp [World.frozen?, World.alloc]; done) | rfl)⟩
  | 1, hv => cases hv; exact ⟨by go_cell, by (first | go_cell | (simp [World.frozen?, World.alloc]; done) | rfl)⟩
  | 2, hv => cases hv; exact ⟨by go_cell, by (first | go_cell | (simp [World.frozen?, World.alloc]; done) | rfl)⟩
  | 3, hv => cases hv; exact ⟨by go_cell, by (first | go_cell | (simp [World.frozen?, World.alloc]; done) | rfl)⟩

/-- A new block holds what it is laid with. -/
theorem VarAt.new (w : World) (vs : List Value) (t : TypeId) : VarAt (w.alloc (.cells vs.toArray t)) w.heap.size vs := by
  refine ⟨by simp, fun i v hv => ?_⟩
  have hg := heap_alloc_new w (.cells vs.toArray t)
  exact ⟨by rw [cell_of_row _ _ i _ _ _ hg]; simpa using hv, by unfold World.frozen?; rw [hg]; simp⟩
/-- A whole struct out of a block that holds it. -/
theorem VarAt.range {w : World} {b : Nat} {vs : List Value} (h : VarAt w b vs) : w.rangeAt b 0 vs := fun j v hv => by rw [Nat.zero_add]; exact h.c j hv
end Go.Proofs.Ytilbaiohcfhcaaa
