/- What is read of a text: plain. -/
import Derived.Test.YtdjonplcgmfmgaaGreatDoorTn
import Derived.Test.YtdjonplcgmfmgaaGreatDoorOkP
import Derived.Test.YtdjonplcgmfmgaaGreatDoorCu
import Derived.Test.YtdjonplcgmfmgaaGreatDoorNx
namespace Go.Proofs.YtdjonplcgmfmgaaGreatDoor
open Go.RowKit Go.Shelf

theorem right_pos {x : Int × Int} (h : rightB x = true) : PosE x := by
  obtain ⟨h0, _, h2, _⟩ := rightB_iff.1 h
  exact ⟨h0, h2⟩
theorem okR {l : List (Int × Int)} (h : okL l = true) : ∀ x ∈ l, rightB x = true := by
  intro x hx
  obtain ⟨i, hi, rfl⟩ := List.getElem_of_mem hx
  have := ((okL_iff l).1 h i hi).1
  simpa [hi] using this
theorem okP {l : List (Int × Int)} (h : okL l = true) : ∀ x ∈ l, PosE x := fun x hx => right_pos (okR h x hx)

theorem cut_tail : ∀ (l : List (Int × Int)) (e : Int × Int), PosE e → (∀ x ∈ l, PosE x) → cutL 32 (edgeT e ++ Lib.joinTail [32] (l.map edgeT)) = edgeT e :: l.map edgeT
  | [], e, he, _ => by
    rw [List.map_nil, show Lib.joinTail [32] ([] : List (List UInt8)) = [] from by simp [Lib.joinTail], List.append_nil, cut_none (edgeT_free he)]
  | y :: l, e, he, hl => by
    rw [List.map_cons, joinTail_cons, cut_at _ (edgeT_free he), cut_tail l y (hl y List.mem_cons_self) (fun z hz => hl z (List.mem_cons_of_mem _ hz))]
theorem cut_inner {l : List (Int × Int)} (h : l ≠ []) (hl : ∀ x ∈ l, PosE x) : cutL 32 (innerL l) = l.map edgeT := by
  cases l with
  | nil => exact absurd rfl h
  | cons e r =>
    unfold innerL
    rw [List.map_cons, Lib.join_cons, cut_tail r e (hl e List.mem_cons_self) (fun z hz => hl z (List.mem_cons_of_mem _ hz))]

theorem edge_find {x : Int × Int} (h : PosE x) : findL (edgeT x) 64 = ((Lib.itoa x.1).length : Int) := find_append (itoa_free h.1 (Or.inr (by decide)))
theorem edge_take (x : Int × Int) : (edgeT x).take (Lib.itoa x.1).length = Lib.itoa x.1 := by simp [edgeT]
theorem edge_drop (x : Int × Int) : (edgeT x).drop ((Lib.itoa x.1).length + 1) = Lib.itoa x.2 := by simp [edgeT]

/-- What a text is read as: the list that it is the text of, or none. -/
def ReadR (s : List UInt8) (l : List (Int × Int)) (b : Bool) : Prop :=
  (b = true ∧ okL l = true ∧ textL l = s ∧ s.length ≤ 200) ∨ (b = false ∧ l = [] ∧ ∀ m, okL m = true → textL m = s → 200 < s.length)
theorem ReadR.unique {s : List UInt8} {l m : List (Int × Int)} {b c : Bool} (h : ReadR s l b) (h' : ReadR s m c) : l = m ∧ b = c := by
  obtain ⟨rfl, h1, h2, h3⟩ | ⟨rfl, rfl, h1⟩ := h <;> obtain ⟨rfl, k1, k2, k3⟩ | ⟨rfl, rfl, k1⟩ := h'
  · exact ⟨textL_inj (okP h1) (okP k1) (h2.trans k2.symm), rfl⟩
  · have := k1 _ h1 h2; omega
  · have := h1 _ k1 k2; omega
  · exact ⟨rfl, rfl⟩

/-- Pieces read so far. -/
def Took (P : List (List UInt8)) (q : List (Int × Int)) (k : Nat) : Prop := q.length = k ∧ ∀ m : List (Int × Int), okL m = true → P = m.map edgeT → q = m.take k
theorem took_zero (P : List (List UInt8)) : Took P [] 0 := ⟨rfl, fun m _ _ => by simp⟩
/-- Each number that an int holds, with much room. -/
def Small (x : Int × Int) : Prop := -100000000000000000 < x.1 ∧ x.1 < 100000000000000000 ∧ -100000000000000000 < x.2 ∧ x.2 < 100000000000000000
theorem small_wf {l : List (Int × Int)} (h : ∀ x ∈ l, Small x) : WfL l := by
  intro i hi
  obtain ⟨h0, h1, h2, h3⟩ := h (l.getD i (0, 0)) (by simp [hi])
  omega
/-- A piece and what it asks of its reader. -/
theorem piece_at {P : List (List UInt8)} {m : List (Int × Int)} {k : Nat} (hk : k < P.length) (hP : P = m.map edgeT) (hm : okL m = true) :
    ∃ x, m[k]? = some x ∧ Small x ∧ PosE x ∧ P[k] = edgeT x := by
  subst hP
  rw [List.length_map] at hk
  refine ⟨m[k], by simp [hk], ?_, okP hm _ (List.getElem_mem hk), by simp⟩
  obtain ⟨h0, h1, h2, h3⟩ := rightB_iff.1 (okR hm _ (List.getElem_mem hk))
  exact ⟨by omega, by omega, by omega, by omega⟩
theorem took_step {P : List (List UInt8)} {q : List (Int × Int)} {k : Nat} {e : Int × Int} (h : Took P q k) (he : ∀ m : List (Int × Int), okL m = true → P = m.map edgeT → m[k]? = some e) : Took P (q ++ [e]) (k + 1) := by
  refine ⟨by rw [List.length_append, h.1]; rfl, fun m hm hP => ?_⟩
  rw [List.take_add_one, he m hm hP, ← h.2 m hm hP]
  rfl
theorem cut_len (c : UInt8) (l : List UInt8) : ∀ p ∈ cutL c l, p.length ≤ l.length := by
  induction l with
  | nil => intro p hp; rw [cutL, List.mem_singleton] at hp; subst hp; exact Nat.le_refl _
  | cons x r ih =>
    intro p hp
    rw [cutL] at hp
    by_cases hx : x = c
    · rw [if_pos hx, List.mem_cons] at hp
      rcases hp with rfl | hp
      · exact Nat.zero_le _
      · exact Nat.le_trans (ih p hp) (by simp)
    · rw [if_neg hx] at hp
      cases hc : cutL c r with
      | nil =>
        rw [hc] at hp
        rw [List.mem_singleton] at hp
        subst hp; simp
      | cons y q =>
        rw [hc] at hp ih
        rw [List.mem_cons] at hp
        rcases hp with rfl | hp
        · have := ih y List.mem_cons_self
          rw [List.length_cons, List.length_cons]; omega
        · exact Nat.le_trans (ih p (List.mem_cons_of_mem _ hp)) (by simp)
theorem cut_many (c : UInt8) (l : List UInt8) : (cutL c l).length ≤ l.length + 1 := by
  induction l with
  | nil => rw [cutL]; simp
  | cons x r ih =>
    rw [cutL]
    split
    · rw [List.length_cons, List.length_cons]; omega
    · split
      · simp
      · rename_i h
        rw [h] at ih
        rw [List.length_cons] at ih ⊢
        rw [List.length_cons]; omega
theorem cut_some (c : UInt8) (l : List UInt8) : 0 < (cutL c l).length := by
  cases l with
  | nil => rw [cutL]; simp
  | cons x r =>
    rw [cutL]
    split
    · simp
    · split <;> simp
theorem find_range (l : List UInt8) (c : UInt8) : findL l c = -1 ∨ ∃ k : Nat, findL l c = k ∧ k < l.length := by
  unfold findL
  cases h : l.findIdx? (· == c) with
  | none => exact Or.inl rfl
  | some k =>
    rw [List.findIdx?_eq_some_iff_getElem] at h
    obtain ⟨hk, _⟩ := h
    exact Or.inr ⟨k, rfl, hk⟩
theorem inner_nil {m : List (Int × Int)} (h : (innerL m).length = 0) : m = [] := by
  cases m with
  | nil => rfl
  | cons e r =>
    unfold innerL at h
    rw [List.map_cons, Lib.join_cons, List.length_append] at h
    have := edgeT_ne e
    have h2 : (edgeT e).length = 0 := by omega
    exact absurd (List.eq_nil_of_length_eq_zero h2) this
/-- What is found in a piece. -/
theorem piece_find {P : List (List UInt8)} {m : List (Int × Int)} {k : Nat} (hk : k < P.length) (hP : P = m.map edgeT) (hm : okL m = true) {p : ByteArray} (hp : p.data.toList = P[k]) :
    ∃ (x : Int × Int) (j : Nat), m[k]? = some x ∧ Small x ∧ findL p.data.toList 64 = j ∧ (p.extract 0 j).data.toList = Lib.itoa x.1 ∧ (p.extract (j + 1) p.size).data.toList = Lib.itoa x.2 := by
  obtain ⟨x, h1, h2, h3, h4⟩ := piece_at hk hP hm
  rw [h4] at hp
  have hs : p.size = (edgeT x).length := by rw [← hp]; rfl
  refine ⟨x, (Lib.itoa x.1).length, h1, h2, by rw [hp]; exact edge_find h3, ?_, ?_⟩
  · rw [piece_eq, hp, List.drop_zero, Nat.sub_zero, List.toList_toArray, edge_take]
  · rw [piece_eq, hp, edge_drop, hs, List.toList_toArray]
    exact List.take_of_length_le (by simp [edgeT]; omega)
end Go.Proofs.YtdjonplcgmfmgaaGreatDoor
