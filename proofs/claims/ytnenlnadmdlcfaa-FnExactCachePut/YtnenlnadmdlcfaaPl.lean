/- Plain facts: what it means that a slice value reads as a list of edges (pairs of numbers), or owns such a list in new memory. No walk stands here. -/
import Derived.Test.YtnenlnadmdlcfaaRows
import Derived.WalkKit
import Derived.WalkSpells
import Derived.WalkLawsBesides
import Derived.Handy
import Derived.Deep.SlicePairs
namespace Go.Proofs.Ytnenlnadmdlcfaa
open Go.RowKit

theorem hid {p : Prop} (h : p) : Hid p := h

/-- A slice value that reads as a list of pairs of numbers. -/
def Rd (w : World) (v : Value) (l : List (Int × Int)) : Prop :=
  ∃ (ao : Option Addr) (cap : Nat), v = .slice ao l.length cap ∧ l.length ≤ maxLen ∧
    (0 < l.length → ∃ b off, ao = some ⟨b, off, none⟩ ∧ b < w.heap.size ∧
      ∀ i, i < l.length → w.cell? ⟨b, off + i * 2, none⟩ = some (.int .i64 (l.getD i (0, 0)).1) ∧ w.cell? ⟨b, off + i * 2 + 1, none⟩ = some (.int .i64 (l.getD i (0, 0)).2))

/-- ... which lies below block B. -/
def RdB (B : Nat) (w : World) (v : Value) (l : List (Int × Int)) : Prop := Rd w v l ∧ (0 < l.length → ∃ b, v.ownBlock = some b ∧ b < B)

theorem Rd.below {B : Nat} {w w' : World} {v : Value} {l : List (Int × Int)} (h : Rd w v l) (hl' : ∀ b, v.ownBlock = some b → b < B) (hb : Below B w w') : Rd w' v l := by
  obtain ⟨ao, cap, hv, hl, hc⟩ := h
  refine ⟨ao, cap, hv, hl, fun h0 => ?_⟩
  obtain ⟨b, off, ha, hlt, hcc⟩ := hc h0
  have hbB : b < B := hl' b (by rw [hv, ha]; rfl)
  refine ⟨b, off, ha, Nat.lt_of_lt_of_le hlt hb.size, fun i hi => ?_⟩
  obtain ⟨c0, c1⟩ := hcc i hi
  exact ⟨(hb.cell (p := ⟨b, off + i * 2, none⟩) hbB).trans c0, (hb.cell (p := ⟨b, off + i * 2 + 1, none⟩) hbB).trans c1⟩

theorem Rd.nil (w : World) (ao : Option Addr) (cap : Nat) : Rd w (.slice ao 0 cap) [] := ⟨ao, cap, rfl, Nat.zero_le _, fun h => absurd h (Nat.lt_irrefl 0)⟩

theorem Rd.later {w w' : World} {v : Value} {l : List (Int × Int)} (h : Rd w v l) (hb : Below w.heap.size w w') : Rd w' v l := by
  obtain ⟨ao, cap, hv, hl, hc⟩ := h
  refine ⟨ao, cap, hv, hl, fun h0 => ?_⟩
  obtain ⟨b, off, ha, hlt, hcc⟩ := hc h0
  refine ⟨b, off, ha, Nat.lt_of_lt_of_le hlt hb.size, fun i hi => ?_⟩
  obtain ⟨c0, c1⟩ := hcc i hi
  exact ⟨(hb.cell (p := ⟨b, off + i * 2, none⟩) hlt).trans c0, (hb.cell (p := ⟨b, off + i * 2 + 1, none⟩) hlt).trans c1⟩

/-- Are two pairs one? Two lists? (Names that the walk does not take apart.) -/
def eqB (x y : Int × Int) : Bool := decide (x = y)
def eqL (x y : List (Int × Int)) : Bool := decide (x = y)
theorem eqB_yes {x y : Int × Int} (h : x = y) : eqB x y = true := by simp [eqB, h]
theorem eqB_no {x y : Int × Int} (h : ¬ x = y) : eqB x y = false := by simp [eqB, h]
theorem eqL_yes {x y : List (Int × Int)} (h : x = y) : eqL x y = true := by simp [eqL, h]
theorem eqL_no {x y : List (Int × Int)} (h : ¬ x = y) : eqL x y = false := by simp [eqL, h]
theorem eqL_refl (x : List (Int × Int)) : eqL x x = true := eqL_yes rfl

theorem take_more {α : Type} (la lb : List α) (d : α) (k : Nat) (h : k < la.length) (h' : k < lb.length) (hp : la.take k = lb.take k) (hx : la.getD k d = lb.getD k d) : la.take (k + 1) = lb.take (k + 1) := by
  rw [List.take_succ_eq_append_getElem h, List.take_succ_eq_append_getElem h', hp]
  simp [List.getD_eq_getElem?_getD, h, h'] at hx
  rw [hx]

/-! ### New memory -/
/-- The cells of a list. -/
def ecells : List (Int × Int) → List Value
  | [] => []
  | e :: r => .int .i64 e.1 :: .int .i64 e.2 :: ecells r
theorem ecells_length (l : List (Int × Int)) : (ecells l).length = l.length * 2 := by
  induction l with
  | nil => rfl
  | cons e r ih => simp [ecells, ih]; omega
theorem ecells_append (l m : List (Int × Int)) : ecells (l ++ m) = ecells l ++ ecells m := by
  induction l with
  | nil => rfl
  | cons e r ih => simp [ecells, ih]
theorem ecells_get (l : List (Int × Int)) : ∀ i, i < l.length → (ecells l)[i * 2]? = some (.int .i64 (l.getD i (0, 0)).1) ∧ (ecells l)[i * 2 + 1]? = some (.int .i64 (l.getD i (0, 0)).2) := by
  induction l with
  | nil => intro i h; exact absurd h (Nat.not_lt_zero _)
  | cons e r ih =>
    intro i h
    cases i with
    | zero => simp [ecells]
    | succ j =>
      have := ih j (by simpa using h)
      rw [show (j + 1) * 2 = j * 2 + 1 + 1 from by omega]
      simpa [ecells] using this
theorem ecells_one (l : List (Int × Int)) : ∀ u ∈ ecells l, u.oneCell' = true := by
  induction l with
  | nil => intro u hu; cases hu
  | cons e r ih =>
    intro u hu
    simp only [ecells, List.mem_cons] at hu
    rcases hu with rfl | rfl | hu
    · rfl
    · rfl
    · exact ih u hu

/-- A slice value that owns a list in memory from block B on: nobody else's, may be written. -/
def Own (w : World) (B : Nat) (v : Value) (l : List (Int × Int)) : Prop := w.ownsRow B 62 2 v l.length (ecells l)

theorem Own.rd {w : World} {B : Nat} {v : Value} {l : List (Int × Int)} (h : Own w B v l) : Rd w v l := by
  have h0 := h
  rcases h.2 with ⟨rfl, hn⟩ | ⟨g, cap, cur, rfl, hb, hg, hnc, hcm, hcs, htake⟩
  · have : l = [] := List.eq_nil_of_length_eq_zero hn
    subst this
    exact Rd.nil w none 0
  · refine ⟨some ⟨g, 0, none⟩, cap, rfl, Nat.le_trans hnc hcm, fun _ => ⟨g, 0, rfl, (Array.getElem?_eq_some_iff.1 hg).1, fun i hi => ?_⟩⟩
    have hc := fun j hj => World.ownsRow.cellAt h0 j hj
    have he := ecells_get l i hi
    rw [Nat.zero_add, hc (i * 2) (by omega), hc (i * 2 + 1) (by omega)]
    exact he

theorem Own.block {w : World} {B : Nat} {v : Value} {l : List (Int × Int)} (h : Own w B v l) : ∀ k, v.ownBlock = some k → B ≤ k ∧ k < w.heap.size := World.ownsRow.lt h

/-- What is owned stays owned while blocks below a bound that lies above it stay as they were. -/
theorem Own.below {w w' : World} {B C : Nat} {v : Value} {l : List (Int × Int)} (h : Own w B v l) (hC : ∀ k, v.ownBlock = some k → k < C) (hb : Below C w w') : Own w' B v l := by
  refine ⟨h.1, ?_⟩
  rcases h.2 with hn | ⟨g, cap, cur, rfl, hbg, hgg, rest⟩
  · exact .inl hn
  · exact .inr ⟨g, cap, cur, rfl, hbg, (hb.block g (hC g rfl)).trans hgg, rest⟩
theorem Own.later {w w' : World} {B : Nat} {v : Value} {l : List (Int × Int)} (h : Own w B v l) (hb : Below w.heap.size w w') : Own w' B v l := h.below (fun k hk => (h.block k hk).2) hb
theorem Own.mono {w : World} {B B' : Nat} {v : Value} {l : List (Int × Int)} (h : Own w B v l) (hB : B' ≤ B) : Own w B' v l := by
  refine ⟨h.1, ?_⟩
  rcases h.2 with hn | ⟨g, cap, cur, rfl, hbg, rest⟩
  · exact .inl hn
  · exact .inr ⟨g, cap, cur, rfl, Nat.le_trans hB hbg, rest⟩

theorem row_later {w w' : World} {B : Nat} {e : TypeId} {size : Nat} {v : Value} {n : Nat} {xs : List Value} (h : w.ownsRow B e size v n xs) (hb : Below w.heap.size w w') : w'.ownsRow B e size v n xs := by
  refine ⟨h.1, ?_⟩
  rcases h.2 with hn | ⟨g, cap, cur, rfl, hbg, hgg, rest⟩
  · exact .inl hn
  · exact .inr ⟨g, cap, cur, rfl, hbg, (hb.block g (Array.getElem?_eq_some_iff.1 hgg).1).trans hgg, rest⟩
theorem row_cell {w : World} {B : Nat} {e : TypeId} {size : Nat} {g n cap : Nat} {xs : List Value} (h : w.ownsRow B e size (.slice (some ⟨g, 0, none⟩) n cap) n xs) (j : Nat) (hj : j < n * size) : ∃ u, w.cell? ⟨g, j, none⟩ = some u := by
  rw [h.cellAt j hj]
  exact ⟨xs[j]'(by rw [h.1]; exact hj), List.getElem?_eq_getElem _⟩
theorem row_two {w : World} {B : Nat} {e : TypeId} {size : Nat} {g n cap : Nat} {xs : List Value} (h : w.ownsRow B e size (.slice (some ⟨g, 0, none⟩) n cap) n xs) (j : Nat) (a b : Value) :
    ((w.setCell ⟨g, j, none⟩ a).setCell ⟨g, j + 1, none⟩ b).ownsRow B e size (.slice (some ⟨g, 0, none⟩) n cap) n ((xs.set j a).set (j + 1) b) :=
  ((h.stored j a).1.stored (j + 1) b).1

/-- The first k elements' cells are those of l. -/
def Filled (xs : List Value) (l : List (Int × Int)) (k : Nat) : Prop :=
  ∀ i, i < k → xs[i * 2]? = some (.int .i64 (l.getD i (0, 0)).1) ∧ xs[i * 2 + 1]? = some (.int .i64 (l.getD i (0, 0)).2)
theorem Filled.zero (xs : List Value) (l : List (Int × Int)) : Filled xs l 0 := fun _ h => absurd h (Nat.not_lt_zero _)
theorem Filled.step {xs : List Value} {l : List (Int × Int)} {k : Nat} (h : Filled xs l k) (hk : k < l.length) (hx : xs.length = l.length * 2) :
    Filled ((xs.set (k * 2) (.int .i64 (l.getD k (0, 0)).1)).set (k * 2 + 1) (.int .i64 (l.getD k (0, 0)).2)) l (k + 1) := by
  intro i hi
  by_cases e : i = k
  · subst e
    rw [List.getElem?_set_ne (by omega), List.getElem?_set_self (by omega), List.getElem?_set_self (by rw [List.length_set]; omega)]
    exact ⟨rfl, rfl⟩
  · have hh := h i (by omega)
    rw [List.getElem?_set_ne (by omega), List.getElem?_set_ne (by omega), List.getElem?_set_ne (by omega), List.getElem?_set_ne (by omega)]
    exact hh
theorem Filled.all {xs : List Value} {l : List (Int × Int)} (h : Filled xs l l.length) (hx : xs.length = l.length * 2) : xs = ecells l := by
  apply List.ext_getElem?
  intro j
  by_cases hj : j < l.length * 2
  · have h1 := h (j / 2) (by omega)
    have h2 := ecells_get l (j / 2) (by omega)
    by_cases hp : j % 2 = 0
    · have e : j / 2 * 2 = j := by omega
      rw [e] at h1 h2
      exact h1.1.trans h2.1.symm
    · have e : j / 2 * 2 + 1 = j := by omega
      rw [e] at h1 h2
      exact h1.2.trans h2.2.symm
  · rw [List.getElem?_eq_none (by omega), List.getElem?_eq_none (by rw [ecells_length]; omega)]
end Go.Proofs.Ytnenlnadmdlcfaa
