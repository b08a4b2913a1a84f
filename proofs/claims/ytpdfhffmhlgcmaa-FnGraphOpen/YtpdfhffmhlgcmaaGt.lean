/- A graph's rows, and what they are if each bond is known as its other end knows it: plain facts. -/
import Derived.Test.YtpdfhffmhlgcmaaVh
import Derived.Test.YtpdfhffmhlgcmaaAdQ
import Derived.Test.YtpdfhffmhlgcmaaEhP
import Derived.Test.YtpdfhffmhlgcmaaGv
namespace Go.Proofs.Ytpdfhffmhlgcmaa
open Go.RowKit

/-- Each of the first n rows is what its key can have. -/
def RightTo (L : List ValD) (n : Nat) : Prop := ∀ j, j < n → okV (j : Int) (L.getD j valD0).1 (L.getD j valD0).2 = true
instance (L : List ValD) (n : Nat) : Decidable (RightTo L n) := inferInstanceAs (Decidable (∀ j, j < n → _))
def rightG (L : List ValD) : Bool := decide (RightTo L 24)
theorem rightG_iff {L : List ValD} : rightG L = true ↔ RightTo L 24 := by simp [rightG]
theorem rightG_no {L : List ValD} (k : Nat) (hk : k < 24) (h : okV (k : Int) (L.getD k valD0).1 (L.getD k valD0).2 = false) : rightG L = false := by
  rw [Bool.eq_false_iff]
  intro e
  rw [rightG_iff.1 e k hk] at h
  cases h
theorem RightTo.step {L : List ValD} {k : Nat} (h : RightTo L k) (hk : okV (k : Int) (L.getD k valD0).1 (L.getD k valD0).2 = true) : RightTo L (k + 1) := fun j hj => by
  rcases Nat.lt_succ_iff_lt_or_eq.1 hj with hj | rfl
  · exact h j hj
  · exact hk
theorem RightTo.zero (L : List ValD) : RightTo L 0 := fun _ h => absurd h (Nat.not_lt_zero _)
theorem RightTo.thing {L : List ValD} (h : RightTo L 24) {k : Nat} (hk : k < 8) : (L.getD k valD0).2 = [] := by
  have := h k (by omega)
  rw [okV, if_pos (by omega), if_pos (by omega)] at this
  exact (of_decide_eq_true this).2.2
theorem RightTo.kin {L : List ValD} (h : RightTo L 24) {k : Nat} (hk : 8 ≤ k) (hk2 : k < 24) : (L.getD k valD0).1 = 0 ∧ okL (L.getD k valD0).2 = true := by
  have := h k (by omega)
  rw [okV_kin (by omega) (by omega) (by omega), Bool.and_eq_true] at this
  exact ⟨by simpa using this.1, this.2⟩
theorem RightTo.ok {L : List ValD} (h : RightTo L 24) {k : Nat} (hk2 : k < 24) : okL (L.getD k valD0).2 = true := by
  by_cases hk : 8 ≤ k
  · exact (h.kin hk hk2).2
  · rw [h.thing (by omega)]; rfl
theorem okL_mem {l : List (Int × Int)} (h : okL l = true) {x : Int × Int} (hx : x ∈ l) : rightB x = true := by
  obtain ⟨i, hi, rfl⟩ := List.getElem_of_mem hx
  have := (((okL_iff l).1 h) i hi).1
  simpa [hi] using this
theorem getD_in {l : List (Int × Int)} {i : Nat} (hi : i < l.length) : l.getD i (0, 0) = l[i] := by rw [List.getD_eq_getElem?_getD, List.getElem?_eq_getElem hi]; rfl
theorem getD_mem {l : List (Int × Int)} {i : Nat} (hi : i < l.length) : l.getD i (0, 0) ∈ l := by rw [getD_in hi]; exact List.getElem_mem hi
theorem okL_one {l : List (Int × Int)} (h : okL l = true) {i j : Nat} (hi : i < l.length) (hj : j < i) : (l.getD j (0, 0)).1 ≠ (l.getD i (0, 0)).1 := ((((okL_iff l).1 h) i hi).2 j hj).2

theorem nodup_le : ∀ (n : Nat) (l : List Nat), l.Nodup → (∀ x ∈ l, x < n) → l.length ≤ n
  | 0, l, _, h => by
    cases l with
    | nil => exact Nat.le_refl _
    | cons x r => exact absurd (h x (List.mem_cons_self ..)) (Nat.not_lt_zero _)
  | n + 1, l, hd, h => by
    by_cases hm : n ∈ l
    · have h1 := nodup_le n (l.erase n) (hd.erase n) (fun x hx => by
        have hx' := (hd.mem_erase_iff).1 hx
        have := h x hx'.2
        have := hx'.1
        omega)
      rw [List.length_erase_of_mem hm] at h1
      omega
    · exact Nat.le_succ_of_le (nodup_le n l hd (fun x hx => by
        have := h x hx
        have : x ≠ n := fun e => hm (e ▸ hx)
        omega))
theorem okL_le {l : List (Int × Int)} (h : okL l = true) : l.length ≤ 8 := by
  have := nodup_le 8 (l.map fun e => e.1.toNat) (by
    rw [List.nodup_iff_pairwise_ne, List.pairwise_map, List.pairwise_iff_getElem]
    intro i j hi hj hij e
    have h1 := okL_one h hj hij
    rw [getD_in hi, getD_in hj] at h1
    have r1 := rightB_iff.1 (okL_mem h (List.getElem_mem hi))
    have r2 := rightB_iff.1 (okL_mem h (List.getElem_mem hj))
    omega) (fun x hx => by
    obtain ⟨e, he, rfl⟩ := List.mem_map.1 hx
    have r := rightB_iff.1 (okL_mem h he)
    omega)
  simpa using this

/-- The key at which a bond of key k to somebody is known at its other end. -/
def endK (k : Nat) (who : Int) : Int := if 16 ≤ k then 8 + who else 16 + who
/-- All that row k tells: where it is known, and as what. -/
def tellL (L : List ValD) (k : Nat) : List (Int × (Int × Int)) := (L.getD k valD0).2.map fun e => (endK k e.1, (((k % 8 : Nat) : Int), e.2))
def toldL (L : List ValD) (k i : Nat) : List (Int × (Int × Int)) := (List.range k).flatMap (tellL L) ++ (tellL L k).take i
theorem toldL_zero (L : List ValD) : toldL L 0 0 = [] := by simp [toldL]
theorem toldL_row (L : List ValD) (k : Nat) : toldL L k (L.getD k valD0).2.length = toldL L (k + 1) 0 := by
  unfold toldL
  rw [List.range_succ, List.flatMap_append, List.take_of_length_le (by simp [tellL])]
  simp
theorem toldL_step (L : List ValD) (k i : Nat) (hi : i < (L.getD k valD0).2.length) :
    toldL L k (i + 1) = toldL L k i ++ [(endK k ((L.getD k valD0).2.getD i (0, 0)).1, (((k % 8 : Nat) : Int), ((L.getD k valD0).2.getD i (0, 0)).2))] := by
  unfold toldL
  rw [List.take_add_one, List.append_assoc]
  congr 2
  have : (tellL L k)[i]? = some (endK k ((L.getD k valD0).2.getD i (0, 0)).1, (((k % 8 : Nat) : Int), ((L.getD k valD0).2.getD i (0, 0)).2)) := by
    rw [tellL, List.getElem?_map, List.getElem?_eq_getElem hi, getD_in hi]
    rfl
  rw [this]
  rfl
theorem mem_told {L : List ValD} {k i : Nat} {d : Int × (Int × Int)} (h : d ∈ toldL L k i) :
    ∃ k' i', (k' < k ∨ (k' = k ∧ i' < i)) ∧ i' < (L.getD k' valD0).2.length ∧ d = (endK k' ((L.getD k' valD0).2.getD i' (0, 0)).1, (((k' % 8 : Nat) : Int), ((L.getD k' valD0).2.getD i' (0, 0)).2)) := by
  unfold toldL at h
  rcases List.mem_append.1 h with h | h
  · obtain ⟨k', hk', hd⟩ := List.mem_flatMap.1 h
    obtain ⟨e, he, rfl⟩ := List.mem_map.1 hd
    obtain ⟨i', hi', rfl⟩ := List.getElem_of_mem he
    exact ⟨k', i', .inl (List.mem_range.1 hk'), hi', by rw [List.getD_eq_getElem?_getD (l := (L.getD k' valD0).2), List.getElem?_eq_getElem hi']; rfl⟩
  · obtain ⟨i', hi', hd⟩ := List.getElem_of_mem h
    rw [List.length_take] at hi'
    have hlen : (tellL L k).length = (L.getD k valD0).2.length := List.length_map ..
    have hi2 : i' < (L.getD k valD0).2.length := by omega
    refine ⟨k, i', .inr ⟨rfl, by omega⟩, hi2, ?_⟩
    rw [getD_in hi2, ← hd, List.getElem_take]
    exact List.getElem_map ..
theorem told_mem {L : List ValD} {k' : Nat} (hk : k' < 24) {e : Int × Int} (he : e ∈ (L.getD k' valD0).2) : (endK k' e.1, (((k' % 8 : Nat) : Int), e.2)) ∈ toldL L 24 0 := by
  unfold toldL
  exact List.mem_append_left _ (List.mem_flatMap.2 ⟨k', List.mem_range.2 hk, List.mem_map.2 ⟨e, he, rfl⟩⟩)
theorem told_one {L : List ValD} (h : RightTo L 24) {k i : Nat} (hk : k < 24) (hi : i < (L.getD k valD0).2.length) {d : Int × (Int × Int)} (hd : d ∈ toldL L k i)
    (he : d.1 = endK k ((L.getD k valD0).2.getD i (0, 0)).1) : d.2.1 ≠ ((k % 8 : Nat) : Int) := by
  intro hw
  obtain ⟨k', i', hlt, hi', rfl⟩ := mem_told hd
  have h8 : 8 ≤ k := by
    rcases Nat.lt_or_ge k 8 with h' | h'
    · rw [h.thing h'] at hi; cases hi
    · exact h'
  have h8' : 8 ≤ k' := by
    rcases Nat.lt_or_ge k' 8 with h' | h'
    · rw [h.thing h'] at hi'; cases hi'
    · exact h'
  have hk' : k' < 24 := by omega
  have r := rightB_iff.1 ((((okL_iff _).1 (h.ok hk)) i hi).1)
  have r' := rightB_iff.1 ((((okL_iff _).1 (h.ok hk')) i' hi').1)
  simp only [endK] at he
  have hm : k' % 8 = k % 8 := Int.ofNat.inj hw
  have hkk : k' = k := by split at he <;> split at he <;> omega
  subst hkk
  have hii : i' < i := by omega
  refine okL_one (h.ok hk) hi hii ?_
  split at he <;> omega

/-- What was told is what the rows M have. -/
structure Turn (D : List (Int × (Int × Int))) (M : List ValD) : Prop where
  len : M.length = 24
  row : ∀ j, j < 24 → okL (M.getD j valD0).2 = true ∧ ∀ x, x ∈ (M.getD j valD0).2 ↔ ((j : Int), x) ∈ D
def NumsG (L M : List ValD) (n : Nat) : Prop := ∀ j, j < 24 → (M.getD j valD0).1 = if j < n then (L.getD j valD0).1 else 0
theorem getD_set {M : List ValD} {i j : Nat} {x : ValD} (hi : i < M.length) : (M.set i x).getD j valD0 = if j = i then x else M.getD j valD0 := by
  rw [List.getD_eq_getElem?_getD, List.getD_eq_getElem?_getD, List.getElem?_set]
  by_cases h : i = j
  · subst h; simp [hi]
  · rw [if_neg h, if_neg (fun e => h e.symm)]
def zeroG : List ValD := List.replicate 24 valD0
theorem zeroG_get (j : Nat) : zeroG.getD j valD0 = valD0 := by
  rw [List.getD_eq_getElem?_getD, zeroG, List.getElem?_replicate]
  split <;> rfl
theorem Turn.zero : Turn [] zeroG := ⟨by simp [zeroG], fun j _ => by rw [zeroG_get]; exact ⟨rfl, fun x => by simp [valD0]⟩⟩
theorem NumsG.zero (L : List ValD) : NumsG L zeroG 0 := fun j _ => by rw [zeroG_get]; rfl
theorem Turn.num {D : List (Int × (Int × Int))} {M : List ValD} (h : Turn D M) {k : Nat} (hk : k < 24) (n : Int) : Turn D (M.set k (n, (M.getD k valD0).2)) := by
  refine ⟨by simp [h.len], fun j hj => ?_⟩
  rw [getD_set (by rw [h.len]; exact hk)]
  split
  · next e => subst e; exact h.row j hj
  · exact h.row j hj
theorem NumsG.num {L M : List ValD} {k : Nat} (h : NumsG L M k) (hm : M.length = 24) (hk : k < 24) : NumsG L (M.set k ((L.getD k valD0).1, (M.getD k valD0).2)) (k + 1) := fun j hj => by
  rw [getD_set (by rw [hm]; exact hk)]
  by_cases e : j = k
  · subst e; simp
  · rw [if_neg e, h j hj]
    by_cases h1 : j < k
    · rw [if_pos h1, if_pos (by omega)]
    · rw [if_neg h1, if_neg (by omega)]
theorem Turn.add {D : List (Int × (Int × Int))} {M : List ValD} (h : Turn D M) {j : Nat} (hj : j < 24) {w t : Int} (hr : rightB (w, t) = true) (hn : ∀ d ∈ D, d.1 = (j : Int) → d.2.1 ≠ w) :
    Turn (D ++ [((j : Int), (w, t))]) (M.set j (0, addL (M.getD j valD0).2 w t)) := by
  refine ⟨by simp [h.len], fun i hi => ?_⟩
  rw [getD_set (by rw [h.len]; exact hj)]
  by_cases e : i = j
  · subst e
    obtain ⟨h1, h2⟩ := h.row i hi
    rw [if_pos rfl]
    have hb : addB (M.getD i valD0).2 w t = true := by rw [addB, h1, hr]; rfl
    refine ⟨?_, fun x => ?_⟩
    · show okL (addL _ w t) = true
      rw [addL, if_pos hb]
      exact okL_add h1 hr
    · show x ∈ addL _ w t ↔ _
      rw [addL, if_pos hb, mem_insL, mem_filter_notWho, h2 x, List.mem_append, List.mem_singleton]
      constructor
      · rintro (rfl | ⟨hx, _⟩)
        · exact .inr rfl
        · exact .inl hx
      · rintro (hx | hx)
        · exact .inr ⟨hx, hn _ hx rfl⟩
        · exact .inl (Prod.mk.inj hx).2
  · rw [if_neg e]
    obtain ⟨h1, h2⟩ := h.row i hi
    refine ⟨h1, fun x => ?_⟩
    rw [h2 x, List.mem_append, List.mem_singleton]
    constructor
    · exact .inl
    · rintro (hx | hx)
      · exact hx
      · exact absurd (Int.ofNat.inj (Prod.mk.inj hx).1) e
theorem NumsG.add {L M : List ValD} {n : Nat} (h : NumsG L M n) (hR : RightTo L 24) (hm : M.length = 24) {j : Nat} (hj : j < 24) (h8 : 8 ≤ j) (l : List (Int × Int)) : NumsG L (M.set j (0, l)) n := fun i hi => by
  rw [getD_set (by rw [hm]; exact hj)]
  by_cases e : i = j
  · subst e
    rw [if_pos rfl, (hR.kin h8 hj).1]
    split <;> rfl
  · rw [if_neg e]
    exact h i hi

/-- Each bond that one key tells is told by the other end. -/
def EndsTo (L : List ValD) (p q : Nat) (n : Nat) : Prop := ∀ a, a < n → ∀ i, i < (L.getD (p + a) valD0).2.length →
  hasL (L.getD (q + ((L.getD (p + a) valD0).2.getD i (0, 0)).1.toNat) valD0).2 (a : Int) = (((L.getD (p + a) valD0).2.getD i (0, 0)).2, true)
instance (L : List ValD) (p q n : Nat) : Decidable (EndsTo L p q n) := inferInstanceAs (Decidable (∀ a, a < n → ∀ i, i < _ → _))
def endsG (L : List ValD) (p q : Nat) : Bool := decide (EndsTo L p q 8)
theorem endsG_iff {L : List ValD} {p q : Nat} : endsG L p q = true ↔ EndsTo L p q 8 := by simp [endsG]
theorem ends_mem {L : List ValD} (h : RightTo L 24) {p q : Nat} (hp : p + 8 ≤ 24) (hq : q + 8 ≤ 24) :
    EndsTo L p q 8 ↔ ∀ a : Nat, a < 8 → ∀ x ∈ (L.getD (p + a) valD0).2, ((a : Int), x.2) ∈ (L.getD (q + x.1.toNat) valD0).2 := by
  constructor
  · intro H a ha x hx
    obtain ⟨i, hi, rfl⟩ := List.getElem_of_mem hx
    have h1 := H a ha i hi
    have e : (L.getD (p + a) valD0).2.getD i (0, 0) = (L.getD (p + a) valD0).2[i] := by rw [List.getD_eq_getElem?_getD, List.getElem?_eq_getElem hi]; rfl
    rw [e] at h1
    have h2 := hasL_mem (l := (L.getD (q + ((L.getD (p + a) valD0).2[i]).1.toNat) valD0).2) (who := (a : Int)) (by rw [h1])
    rw [h1] at h2
    exact h2
  · intro H a ha i hi
    have e : (L.getD (p + a) valD0).2.getD i (0, 0) = (L.getD (p + a) valD0).2[i] := by rw [List.getD_eq_getElem?_getD, List.getElem?_eq_getElem hi]; rfl
    rw [e]
    have hm := List.getElem_mem hi
    have r := rightB_iff.1 (okL_mem (h.ok (k := p + a) (by omega)) hm)
    exact hasL_of_mem (h.ok (k := q + ((L.getD (p + a) valD0).2[i]).1.toNat) (by omega)) (H a ha _ hm)

/-- Rows are what they are turned, just if each bond is told by both of its ends. -/
theorem turn_same {L M : List ValD} (h : RightTo L 24) (hl : L.length = 24) (hT : Turn (toldL L 24 0) M) (hN : NumsG L M 24) : (M = L) ↔ (EndsTo L 16 8 8 ∧ EndsTo L 8 16 8) := by
  rw [ends_mem h (by omega) (by omega), ends_mem h (by omega) (by omega)]
  constructor
  · intro e
    rw [e] at hT
    refine ⟨fun a ha x hx => ?_, fun a ha x hx => ?_⟩
    · have r := rightB_iff.1 (okL_mem (h.ok (k := 16 + a) (by omega)) hx)
      have := told_mem (k' := 16 + a) (by omega) hx
      rw [endK, if_pos (by omega), show (((16 + a) % 8 : Nat) : Int) = (a : Int) from by omega, show (8 : Int) + x.1 = ((8 + x.1.toNat : Nat) : Int) from by omega] at this
      exact ((hT.row (8 + x.1.toNat) (by omega)).2 _).2 this
    · have r := rightB_iff.1 (okL_mem (h.ok (k := 8 + a) (by omega)) hx)
      have := told_mem (k' := 8 + a) (by omega) hx
      rw [endK, if_neg (by omega), show (((8 + a) % 8 : Nat) : Int) = (a : Int) from by omega, show (16 : Int) + x.1 = ((16 + x.1.toNat : Nat) : Int) from by omega] at this
      exact ((hT.row (16 + x.1.toNat) (by omega)).2 _).2 this
  · rintro ⟨h1, h2⟩
    refine List.ext_getElem (by rw [hl, hT.len]) fun j hj hj' => ?_
    have hj24 : j < 24 := by rw [hl] at hj'; exact hj'
    have eM : M[j] = M.getD j valD0 := by rw [List.getD_eq_getElem?_getD, List.getElem?_eq_getElem hj]; rfl
    have eL : L[j] = L.getD j valD0 := by rw [List.getD_eq_getElem?_getD, List.getElem?_eq_getElem hj']; rfl
    rw [eM, eL]
    refine Prod.ext ?_ ?_
    · rw [hN j hj24, if_pos hj24]
    · refine okL_ext (hT.row j hj24).1 (h.ok hj24) fun x => ?_
      rw [(hT.row j hj24).2 x]
      constructor
      · intro hd
        obtain ⟨k', i', hlt, hi', e⟩ := mem_told hd
        have hk' : k' < 24 := by omega
        have h8' : 8 ≤ k' := by
          rcases Nat.lt_or_ge k' 8 with h' | h'
          · rw [h.thing h'] at hi'; cases hi'
          · exact h'
        have hm : (L.getD k' valD0).2.getD i' (0, 0) ∈ (L.getD k' valD0).2 := getD_mem hi'
        generalize (L.getD k' valD0).2.getD i' (0, 0) = y at *
        have r := rightB_iff.1 (okL_mem (h.ok hk') hm)
        obtain ⟨e1, e2⟩ := Prod.mk.inj e
        subst e2
        rw [endK] at e1
        by_cases h16 : 16 ≤ k'
        · rw [if_pos h16] at e1
          have := h1 (k' - 16) (by omega) y (by rwa [show 16 + (k' - 16) = k' from by omega])
          rw [show 8 + y.1.toNat = j from by omega, show ((k' - 16 : Nat) : Int) = ((k' % 8 : Nat) : Int) from by omega] at this
          exact this
        · rw [if_neg h16] at e1
          have := h2 (k' - 8) (by omega) y (by rwa [show 8 + (k' - 8) = k' from by omega])
          rw [show 16 + y.1.toNat = j from by omega, show ((k' - 8 : Nat) : Int) = ((k' % 8 : Nat) : Int) from by omega] at this
          exact this
      · intro hx
        have r := rightB_iff.1 (okL_mem (h.ok hj24) hx)
        have h8 : 8 ≤ j := by
          rcases Nat.lt_or_ge j 8 with h' | h'
          · rw [h.thing h'] at hx; cases hx
          · exact h'
        by_cases h16 : 16 ≤ j
        · have := h1 (j - 16) (by omega) x (by rwa [show 16 + (j - 16) = j from by omega])
          have := told_mem (k' := 8 + x.1.toNat) (by omega) this
          rw [endK, if_neg (by omega), show (((8 + x.1.toNat) % 8 : Nat) : Int) = x.1 from by omega] at this
          rw [show (16 : Int) + ((j - 16 : Nat) : Int) = (j : Int) from by omega] at this
          exact this
        · have := h2 (j - 8) (by omega) x (by rwa [show 8 + (j - 8) = j from by omega])
          have := told_mem (k' := 16 + x.1.toNat) (by omega) this
          rw [endK, if_pos (by omega), show (((16 + x.1.toNat) % 8 : Nat) : Int) = x.1 from by omega] at this
          rw [show (8 : Int) + ((j - 8 : Nat) : Int) = (j : Int) from by omega] at this
          exact this
end Go.Proofs.Ytpdfhffmhlgcmaa
