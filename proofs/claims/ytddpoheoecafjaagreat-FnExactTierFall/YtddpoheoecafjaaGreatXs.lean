/- What CacheDrop, CacheFloor and CachePut make of a cache; the program's own three: contracts. Written by a program (gimpc.py). -/
import Derived.Test.YtddpoheoecafjaaGreatXr
import Derived.Test.YtddpoheoecafjaaGreatXn
namespace Go.Proofs.YtddpoheoecafjaaGreat
open Go.RowKit
attribute [local go_sem ↓] Go.wp_at_zero Go.wp_at_succ
attribute [local go_sem ↓] ldQ_open stQ_open ldH_open stH_open zeroH

/-! ### Plain -/
def isKey (key : Int) (x : KD) : Bool := keyK x == key
def dropI (key : Int) (I : List KD) : List KD := I.filter (fun x => !isKey key x)
theorem list_items {I : List KD} (h : I.length ≤ 4) : (itemsX I).filterMap id = I := by
  match I, h with
  | [], _ => rfl
  | [a], _ => rfl
  | [a, b], _ => rfl
  | [a, b, c], _ => rfl
  | [a, b, c, d], _ => rfl
theorem list_erase (key : Int) : ∀ X : List (Option KD), (X.eraseP (hasK key)).filterMap id = (X.filterMap id).eraseP (isKey key)
  | [] => rfl
  | none :: r => by
    have := list_erase key r
    simpa [hasK] using this
  | some x :: r => by
    have ih := list_erase key r
    by_cases h : isKey key x = true
    · rw [List.eraseP_cons_of_pos (p := hasK key) (show hasK key (some x) = true from h), List.filterMap_cons]
      exact (List.eraseP_cons_of_pos h).symm
    · rw [List.eraseP_cons_of_neg (p := hasK key) (show ¬ hasK key (some x) = true from h), List.filterMap_cons, List.filterMap_cons, ih]
      exact (List.eraseP_cons_of_neg h).symm
theorem list_drop (key : Int) (X : List (Option KD)) : (dropX key X).filterMap id = (X.filterMap id).eraseP (isKey key) := by
  unfold dropX
  split
  · rw [List.filterMap_append, list_erase]
    simp
  · rename_i h
    rw [← list_erase, List.eraseP_of_forall_not]
    intro a ha hp
    exact h (List.any_eq_true.2 ⟨a, ha, hp⟩)
theorem erase_filter (key : Int) : ∀ I : List KD, I.Pairwise (fun a b => keyK a ≠ keyK b) → I.eraseP (isKey key) = dropI key I
  | [], _ => rfl
  | x :: r, h => by
    have ⟨h1, h2⟩ := List.pairwise_cons.1 h
    by_cases hx : isKey key x = true
    · have hk : keyK x = key := by simpa [isKey] using hx
      have hf : r.filter (fun y => !isKey key y) = r := List.filter_eq_self.2 (fun y hy => by
        have := h1 y hy
        simp only [isKey, Bool.not_eq_true', beq_eq_false_iff_ne]
        intro e
        exact this (by rw [hk, e]))
      rw [dropI, List.eraseP_cons_of_pos hx, List.filter_cons_of_neg (by simp [hx]), hf]
    · rw [dropI, List.eraseP_cons_of_neg hx, List.filter_cons_of_pos (by simp [hx]), erase_filter key r h2, dropI]
theorem okC_pairs {I F : List KD} (h : okC I F = true) : I.Pairwise (fun a b => keyK a ≠ keyK b) := by
  rw [List.pairwise_iff_getElem]
  intro i j hi hj hij
  have := ((okC_iff.1 h).2.2.2 j hj).2.2 i hij
  rwa [getD_at hi, getD_at hj] at this
theorem list_dropI {I F : List KD} (h : okC I F = true) (key : Int) : (dropX key (itemsX I)).filterMap id = dropI key I := by
  rw [list_drop, list_items (okC_small h).1, erase_filter key I (okC_pairs h)]
theorem floF_of {w : World} {v : Value} {F : List KD} (h : RdM 1 1 false w v F) (hl : F.length = 24) : FloF F := by
  obtain ⟨_, _, _, _, hc⟩ := h
  obtain ⟨b, o, _, _, hcc⟩ := hc (by omega)
  refine ⟨hl, fun i hi => ?_⟩
  obtain ⟨a, ha⟩ := kd_1n (hcc i (by omega)).len ((hcc i (by omega)).non rfl)
  exact ⟨a, ha⟩
theorem FloF.set {F : List KD} (h : FloF F) (k : Nat) (v : Int) (hk : k < 24) : FloF (F.set k ([v], [])) := by
  refine ⟨by rw [List.length_set]; exact h.1, fun i hi => ?_⟩
  rw [kd_getD_set (by rw [h.1]; exact hk)]
  split
  · exact ⟨v, rfl⟩
  · exact h.2 i hi
def putI (k v n : Int) (l : List (Int × Int)) (I : List KD) : List KD := (([k, v, n], l) :: dropI k I).take 4
def ansD (I F : List KD) (key : Int) : List KD × List KD := if okC I F then (dropI key I, F) else ([], [])
def raB (F : List KD) (key ver : Int) : Bool := keyIn key && (decide (flr F key.toNat < ver) && decide (ver ≤ 60))
def ansF (I F : List KD) (key ver : Int) : List KD × List KD := if okC I F then (if raB F key ver then (dropI key I, putF F key ver) else (I, F)) else ([], [])
def ansP (I F : List KD) (k v n : Int) (l : List (Int × Int)) : (List KD × List KD) × Bool :=
  if okC I F then (if putB F k v n l then ((putI k v n l I, putF F k v), true) else ((I, F), false)) else (([], []), false)
theorem list_put {I F : List KD} (h : okC I F = true) (k v n : Int) (l : List (Int × Int)) : (putX (itemsX I) k v n l).filterMap id = putI k v n l I := by
  have hd := list_dropI h k
  have h4 : (dropX k (itemsX I)).length = 4 := dropX_length (itemsX_length I)
  have hI := (okC_small h).1
  rw [putX, List.filterMap_cons]
  simp only [id]
  rw [putI, List.take_succ_cons, ← hd]
  congr 1
  -- the items stand ahead of the empty spots
  unfold dropX
  split
  · rename_i hany
    have e : ((itemsX I).eraseP (hasK k)).length = 3 := by
      rw [List.any_eq_true] at hany
      obtain ⟨x, hx, hp⟩ := hany
      rw [List.length_eraseP_of_mem hx hp, itemsX_length]
    rw [List.take_append_of_le_length (by omega), List.take_of_length_le (by omega), List.filterMap_append]
    have : (([none] : List (Option KD)).filterMap id) = [] := rfl
    rw [this, List.append_nil, List.take_of_length_le]
    exact Nat.le_trans (List.length_filterMap_le _ _) (by omega)
  · match I, hI with
    | [], _ => rfl
    | [a], _ => rfl
    | [a, b], _ => rfl
    | [a, b, c], _ => rfl
    | [a, b, c, d], _ => rfl
theorem okC_putF {F : List KD} (h : FloF F) {k v n : Int} {l : List (Int × Int)} (hp : putB F k v n l = true) : FloF (putF F k v) := by
  unfold putB at hp
  rw [Bool.and_eq_true] at hp
  have hk := itR_key hp.1
  exact h.set _ _ (by omega)
theorem endC_set {w' : World} {B r g : Nat} {I F : List KD} {iv fv : Value} (ho : OwnM 84 4 3 true w' (Span (g + 1) w'.heap.size) iv I) (hf : OwnFl w' g fv F) (hr : r < B) (hB : B ≤ g) (hg : g < w'.heap.size) (u0 u1 : Value) :
    g < ((w'.setCell ⟨r, 0, none⟩ u0).setCell ⟨r, 1, none⟩ u1).heap.size ∧ OwnM 84 4 3 true ((w'.setCell ⟨r, 0, none⟩ u0).setCell ⟨r, 1, none⟩ u1) (Span (g + 1) ((w'.setCell ⟨r, 0, none⟩ u0).setCell ⟨r, 1, none⟩ u1).heap.size) iv I ∧ OwnFl ((w'.setCell ⟨r, 0, none⟩ u0).setCell ⟨r, 1, none⟩ u1) g fv F := by
  have hs : ((w'.setCell ⟨r, 0, none⟩ u0).setCell ⟨r, 1, none⟩ u1).heap.size = w'.heap.size := by simp
  have hoff : ∀ t, ¬ Span (g + 1) w'.heap.size (⟨r, t, none⟩ : Addr).block := fun t q => by have := q.1; simp only at this; omega
  rw [hs]
  refine ⟨hg, (ho.set (p := ⟨r, 0, none⟩) (hoff 0) u0).set (p := ⟨r, 1, none⟩) (hoff 1) u1, hf.agree (fun _ => ?_)⟩
  exact (Below.heap_setCell _ _ _ _ (by show g ≠ r; omega)).trans (Below.heap_setCell _ _ _ _ (by show g ≠ r; omega))

/-! ### raise -/
/-! ### impl.CacheDrop -/
/-! ### impl.CacheFloor -/
/-! ### impl.CachePut -/
end Go.Proofs.YtddpoheoecafjaaGreat
