/- szValS, szGraph, toValS, toGraph, eqGraph: contracts. -/
import Derived.Test.YtnenlnadmdlcfaaGd
namespace Go.Proofs.Ytnenlnadmdlcfaa
open Go.RowKit
attribute [local go_sem ↓] Go.wp_at_zero Go.wp_at_succ

/-- How much a list of values weighs. -/
def bulkG (L : List ValD) : Nat := (L.map fun x => x.2.length).sum
theorem bulk_step (L : List ValD) (k : Nat) (h : k < L.length) : bulkG (L.take (k + 1)) = bulkG (L.take k) + (L.getD k valD0).2.length := by
  rw [bulkG, bulkG, List.take_succ_eq_append_getElem h, List.map_append, List.sum_append, List.getD_eq_getElem?_getD, List.getElem?_eq_getElem h]
  simp only [List.map_cons, List.map_nil, List.sum_cons, List.sum_nil, Option.getD_some, Nat.add_zero]
theorem bulk_take (L : List ValD) (k : Nat) : bulkG (L.take k) ≤ bulkG L := by
  have h : bulkG L = bulkG (L.take k) + bulkG (L.drop k) := by
    rw [bulkG, bulkG, bulkG, ← List.sum_append, ← List.map_append, List.take_append_drop]
  omega
theorem bulk_get (L : List ValD) (k : Nat) (h : k < L.length) : (L.getD k valD0).2.length ≤ bulkG L := by
  have := bulk_step L k h
  have := bulk_take L (k + 1)
  omega
/-- What szValS answers. -/
def SzG (L : List ValD) (left : Int) (e : Ending) : Prop := (e = .returned (.int .i64 (left - L.length - bulkG L)) ∧ 0 ≤ left - L.length - bulkG L) ∨ (e = .returned (.int .i64 (-1)) ∧ left - L.length - bulkG L < 0)

theorem szVal_two (n : Int) (u : Value) (l : List (Int × Int)) (left : Int) (w : World) (h : Rd w u l) (h0 : 0 ≤ left) (h1 : left ≤ 1048576) :
    Calls Try.prog 49 #[.agg #[.int .i64 n, u], .int .i64 left] w fun e w' => (∃ r : Int, e = .returned (.int .i64 r) ∧ Hid ((r = left - l.length ∧ 0 ≤ r) ∨ (r = -1 ∧ left - l.length < 0))) ∧ Below w.heap.size w w' := by
  obtain ⟨ao, cap, rfl, hl, _⟩ := h
  by_cases hf : (l.length : Int) ≤ left
  · exact (szVal_fits n ao l.length cap left hf h1 w).mono fun e w' ⟨he, hb⟩ => ⟨⟨_, he, hid (Or.inl ⟨rfl, by omega⟩)⟩, hb⟩
  · exact (szVal_over n ao l.length cap left hl (by omega) h0 h1 w).mono fun e w' ⟨he, hb⟩ => ⟨⟨_, he, hid (Or.inr ⟨rfl, by omega⟩)⟩, hb⟩

theorem Try.info29 : (Try.prog.info? 29).map (fun i => (i.zero, i.size, i.bytes)) = some (some (.agg #[.int .i64 0, .slice none 0 0]), 2, 32) := by kernel_rfl
/-- The first k elements' cells are those of L; their kin lie apart, from block B on. -/
def FilledV (w : World) (B : Nat) (xs : List Value) (L : List ValD) (k : Nat) : Prop :=
  ∀ i, i < k → xs[i * 2]? = some (.int .i64 (L.getD i valD0).1) ∧ ∃ u, xs[i * 2 + 1]? = some u ∧ Own w B u (L.getD i valD0).2
theorem FilledV.zero (w : World) (B : Nat) (xs : List Value) (L : List ValD) : FilledV w B xs L 0 := fun _ h => absurd h (Nat.not_lt_zero _)
theorem FilledV.later {w w' : World} {B : Nat} {xs : List Value} {L : List ValD} {k : Nat} (h : FilledV w B xs L k) (hb : Below w.heap.size w w') : FilledV w' B xs L k := fun i hi => by
  obtain ⟨c0, u, c1, hu⟩ := h i hi
  exact ⟨c0, u, c1, hu.later hb⟩
theorem FilledV.set {w : World} {B : Nat} {xs : List Value} {L : List ValD} {k : Nat} (h : FilledV w B xs L k) {p : Addr} (hp : p.block < B) (z : Value) : FilledV (w.setCell p z) B xs L k := fun i hi => by
  obtain ⟨c0, u, c1, hu⟩ := h i hi
  exact ⟨c0, u, c1, hu.apartSet hp z⟩
theorem FilledV.step {w : World} {B : Nat} {xs : List Value} {L : List ValD} {k : Nat} (h : FilledV w B xs L k) (hx : k * 2 + 1 < xs.length) {u : Value} (hu : Own w B u (L.getD k valD0).2) :
    FilledV w B ((xs.set (k * 2) (.int .i64 (L.getD k valD0).1)).set (k * 2 + 1) u) L (k + 1) := by
  intro i hi
  by_cases e : i = k
  · subst e
    rw [List.getElem?_set_ne (by omega), List.getElem?_set_self (by omega), List.getElem?_set_self (by rw [List.length_set]; omega)]
    exact ⟨rfl, u, rfl, hu⟩
  · rw [List.getElem?_set_ne (by omega), List.getElem?_set_ne (by omega), List.getElem?_set_ne (by omega), List.getElem?_set_ne (by omega)]
    exact h i (by omega)
theorem row_same {w w' : World} {B : Nat} {e : TypeId} {size : Nat} {v : Value} {n : Nat} {xs : List Value} (h : w.ownsRow B e size v n xs) (hs : ∀ k, B ≤ k → k < w.heap.size → w'.heap[k]? = w.heap[k]?) : w'.ownsRow B e size v n xs := by
  refine ⟨h.1, ?_⟩
  rcases h.2 with hn | ⟨g, cap, cur, rfl, hbg, hgg, rest⟩
  · exact .inl hn
  · exact .inr ⟨g, cap, cur, rfl, hbg, (hs g hbg (Array.getElem?_eq_some_iff.1 hgg).1).trans hgg, rest⟩
/-- It reads as L in memory from block B on alone. -/
def FromG (B : Nat) (w : World) (v : Value) (L : List ValD) : Prop := ∀ w' : World, w.heap.size ≤ w'.heap.size → (∀ k, B ≤ k → k < w.heap.size → w'.heap[k]? = w.heap[k]?) → RdG w' v L
theorem FromG.rd {B : Nat} {w : World} {v : Value} {L : List ValD} (h : FromG B w v L) : RdG w v L := h w (Nat.le_refl _) (fun _ _ _ => rfl)
theorem FromG.later {B : Nat} {w w' : World} {v : Value} {L : List ValD} (h : FromG B w v L) (hb : Below w.heap.size w w') : FromG B w' v L := fun w'' hz hs =>
  h w'' (Nat.le_trans hb.size hz) (fun k hk hl => (hs k hk (Nat.lt_of_lt_of_le hl hb.size)).trans (hb.block k hl))
theorem FromG.set {B : Nat} {w : World} {v : Value} {L : List ValD} (h : FromG B w v L) {p : Addr} (hp : p.block < B) (u : Value) : FromG B (w.setCell p u) v L := fun w'' hz hs =>
  h w'' (by simpa using hz) (fun k hk hl => (hs k hk (by simpa using hl)).trans (Below.heap_setCell _ _ _ _ (by omega)))
theorem FromG.mono {B B' : Nat} {w : World} {v : Value} {L : List ValD} (h : FromG B w v L) (hB : B' ≤ B) : FromG B' w v L := fun w' hz hs => h w' hz (fun k hk => hs k (Nat.le_trans hB hk))
theorem FilledV.rdG {w : World} {B g : Nat} {xs : List Value} {L : List ValD} {n cap : Nat} (h : FilledV w B xs L n) (hn : n = L.length) (hrow : w.ownsRow g 29 2 (.slice (some ⟨g, 0, none⟩) n cap) n xs) (hm : n ≤ maxLen) :
    RdG w (.slice (some ⟨g, 0, none⟩) n cap) L := by
  subst hn
  refine ⟨_, _, rfl, hm, fun h0 => ⟨g, 0, rfl, (hrow.lt g rfl).2, fun i hi => ?_⟩⟩
  obtain ⟨c0, u, c1, hu⟩ := h i hi
  rw [Nat.zero_add]
  exact ⟨(hrow.cellAt _ (by omega)).trans c0, u, (hrow.cellAt _ (by omega)).trans c1, hu.rd⟩

theorem FilledV.fromG {w : World} {g : Nat} {xs : List Value} {L : List ValD} {n cap : Nat} (h : FilledV w (g + 1) xs L n) (hn : n = L.length) (hrow : w.ownsRow g 29 2 (.slice (some ⟨g, 0, none⟩) n cap) n xs) (hm : n ≤ maxLen) :
    FromG g w (.slice (some ⟨g, 0, none⟩) n cap) L := fun _ _ hs =>
  FilledV.rdG (B := g + 1) (fun i hi => by
    obtain ⟨c0, u, c1, hu⟩ := h i hi
    exact ⟨c0, u, c1, row_same hu (fun k hk hl => hs k (by omega) hl)⟩) hn (row_same hrow hs) hm

end Go.Proofs.Ytnenlnadmdlcfaa
