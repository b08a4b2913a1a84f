/- A write done twice, parted behind it, and beside another one: plain facts. -/
import Derived.Test.YtkmhnjgncnoddaaGreatGp
namespace Go.Proofs.YtkmhnjgncnoddaaGreat
open Go.RowKit

theorem rows_ext {L M : List ValD} (hl : L.length = 24) (hm : M.length = 24) (h : ∀ j, j < 24 → L.getD j valD0 = M.getD j valD0) : L = M := by
  refine List.ext_getElem (by rw [hl, hm]) fun j hj hj' => ?_
  have e1 : L[j] = L.getD j valD0 := by rw [List.getD_eq_getElem?_getD, List.getElem?_eq_getElem hj]; rfl
  have e2 : M[j] = M.getD j valD0 := by rw [List.getD_eq_getElem?_getD, List.getElem?_eq_getElem hj']; rfl
  rw [e1, e2]
  exact h j (by rw [hl] at hj; exact hj)
/-- Two rows are set: what each row is then. -/
theorem getD_set2 {M : List ValD} {i j k : Nat} {x y : ValD} (hm : M.length = 24) (hi : i < 24) (hj : j < 24) : ((M.set i x).set j y).getD k valD0 = if k = j then y else if k = i then x else M.getD k valD0 := by
  rw [getD_set (by rw [List.length_set, hm]; exact hj), getD_set (by rw [hm]; exact hi)]
theorem doG_len24 {L : List ValD} (h : L.length = 24) (k a b n : Int) : (doG L k a b n).length = 24 := by rw [doG_length, h]
/-- Keys that a write is not of have what they had. -/
theorem doG_other {L : List ValD} (hl : L.length = 24) (k a b n : Int) {j : Nat} (h1 : (j : Int) ≠ opKey k a b n) (h2 : (j : Int) ≠ opOther k a b n) : (doG L k a b n).getD j valD0 = L.getD j valD0 := by
  cases ho : opOk k a b n with
  | true =>
    obtain ⟨J, hJ, e, hW⟩ := doG_ways L ho
    rw [e] at h1
    rcases hW with ⟨-, hD⟩ | ⟨I, hI, -, eI, hD⟩
    · rw [hD, getD_set (by rw [hl]; exact hJ), if_neg (by omega)]
    · rw [eI] at h2
      rw [hD, getD_set2 hl hJ hI, if_neg (by omega), if_neg (by omega)]
  | false =>
    rcases op_ways k a b n with ⟨_, e, _⟩ | ⟨_, e, _⟩ | ⟨_, e, _⟩ | ⟨g1, g2, g3, _⟩
    · rw [ho] at e; cases e
    · rw [ho] at e; cases e
    · rw [ho] at e; cases e
    · rw [doG, if_neg g1, if_neg g2, if_neg g3]
/-- A write done twice is done once. -/
theorem doG_twice {L : List ValD} (h : okG L = true) (k a b n : Int) : doG (doG L k a b n) k a b n = doG L k a b n := by
  obtain ⟨hL, hR, -⟩ := okG_iff.1 h
  refine rows_ext (doG_len24 (doG_len24 hL _ _ _ _) _ _ _ _) (doG_len24 hL _ _ _ _) fun j hj => ?_
  rcases op_ways k a b n with ⟨hs, -⟩ | ⟨hs, -⟩ | ⟨hs, -⟩ | ⟨g1, g2, g3, -⟩
  · have ha := hs.2.1
    simp only [doG, if_pos hs]
    rw [getD_set (by rw [List.length_set, hL]; omega), getD_set (by rw [hL]; omega)]
    split <;> rfl
  · have g1 : ¬ setOk k a b n := fun h => by have := h.1; have := hs.1; omega
    obtain ⟨_, ha, hb, _, hn⟩ := id hs
    have o1 := hR.ok (k := 16 + a.toNat) (by omega)
    have o2 := hR.ok (k := 8 + b.toNat) (by omega)
    have r1 : rightB (b, n) = true := rightB_iff.2 ⟨hb.1, hb.2, hn.1, hn.2⟩
    have r2 : rightB (a, n) = true := rightB_iff.2 ⟨ha.1, ha.2, hn.1, hn.2⟩
    have i1 : 16 + a.toNat < 24 := by omega
    have i2 : 8 + b.toNat < 24 := by omega
    simp only [doG, if_neg g1, if_pos hs]
    rw [addL_yes (addB_iff.2 ⟨o1, r1⟩), addL_yes (addB_iff.2 ⟨o2, r2⟩)]
    have hM : ((L.set (16 + a.toNat) (0, putL (L.getD (16 + a.toNat) valD0).2 b n)).set (8 + b.toNat) (0, putL (L.getD (8 + b.toNat) valD0).2 a n)).length = 24 := by simp [hL]
    rw [getD_set2 hM i1 i2, getD_set2 hL i1 i2, getD_set2 hL i1 i2, getD_set2 hL i1 i2]
    rw [if_neg (show ¬ 16 + a.toNat = 8 + b.toNat by omega), if_pos rfl, if_pos rfl]
    split
    · show ((0 : Int), addL (putL _ a n) a n) = _
      rw [addL_yes (addB_iff.2 ⟨okL_put o2 r2, r2⟩), put_put_eq o2 r2 r2]
    · split
      · show ((0 : Int), addL (putL _ b n) b n) = _
        rw [addL_yes (addB_iff.2 ⟨okL_put o1 r1, r1⟩), put_put_eq o1 r1 r1]
      · rfl
  · have g1 : ¬ setOk k a b n := fun h => by have := h.1; have := hs.1; omega
    have g2 : ¬ bindOk k a b n := fun h => by have := h.1; have := hs.1; omega
    obtain ⟨_, ha, hb, _, hn⟩ := id hs
    have o1 := hR.ok (k := 16 + a.toNat) (by omega)
    have o2 := hR.ok (k := 8 + b.toNat) (by omega)
    have i1 : 16 + a.toNat < 24 := by omega
    have i2 : 8 + b.toNat < 24 := by omega
    simp only [doG, if_neg g1, if_neg g2, if_pos hs]
    rw [dropL_yes o1, dropL_yes o2]
    have hM : ((L.set (16 + a.toNat) (0, (L.getD (16 + a.toNat) valD0).2.filter (notWho b))).set (8 + b.toNat) (0, (L.getD (8 + b.toNat) valD0).2.filter (notWho a))).length = 24 := by simp [hL]
    rw [getD_set2 hM i1 i2, getD_set2 hL i1 i2, getD_set2 hL i1 i2, getD_set2 hL i1 i2]
    rw [if_neg (show ¬ 16 + a.toNat = 8 + b.toNat by omega), if_pos rfl, if_pos rfl]
    split
    · show ((0 : Int), dropL (List.filter _ _) a) = _
      rw [dropL_yes (okL_filter _ _ o2), List.filter_filter]
      simp
    · split
      · show ((0 : Int), dropL (List.filter _ _) b) = _
        rw [dropL_yes (okL_filter _ _ o1), List.filter_filter]
        simp
      · rfl
  · simp only [doG, if_neg g1, if_neg g2, if_neg g3]
/-- A bond that is parted is as if it had not been bound. -/
theorem doG_part {L : List ValD} (h : okG L = true) {k a b n : Int} (hs : bindOk k a b n) : doG (doG L k a b n) 3 a b 0 = doG L 3 a b 0 := by
  obtain ⟨hL, hR, -⟩ := okG_iff.1 h
  refine rows_ext (doG_len24 (doG_len24 hL _ _ _ _) _ _ _ _) (doG_len24 hL _ _ _ _) fun j hj => ?_
  have g1 : ¬ setOk k a b n := fun h => by have := h.1; have := hs.1; omega
  obtain ⟨_, ha, hb, hne, hn⟩ := id hs
  have p1 : ¬ setOk 3 a b 0 := fun h => by have := h.1; omega
  have p2 : ¬ bindOk 3 a b 0 := fun h => by have := h.1; omega
  have p3 : partOk 3 a b 0 := ⟨rfl, ha, hb, hne, rfl⟩
  have o1 := hR.ok (k := 16 + a.toNat) (by omega)
  have o2 := hR.ok (k := 8 + b.toNat) (by omega)
  have r1 : rightB (b, n) = true := rightB_iff.2 ⟨hb.1, hb.2, hn.1, hn.2⟩
  have r2 : rightB (a, n) = true := rightB_iff.2 ⟨ha.1, ha.2, hn.1, hn.2⟩
  have i1 : 16 + a.toNat < 24 := by omega
  have i2 : 8 + b.toNat < 24 := by omega
  simp only [doG, if_neg g1, if_pos hs, if_neg p1, if_neg p2, if_pos p3]
  rw [addL_yes (addB_iff.2 ⟨o1, r1⟩), addL_yes (addB_iff.2 ⟨o2, r2⟩), dropL_yes o1, dropL_yes o2]
  have hM : ((L.set (16 + a.toNat) (0, putL (L.getD (16 + a.toNat) valD0).2 b n)).set (8 + b.toNat) (0, putL (L.getD (8 + b.toNat) valD0).2 a n)).length = 24 := by simp [hL]
  rw [getD_set2 hM i1 i2, getD_set2 hL i1 i2, getD_set2 hL i1 i2, getD_set2 hL i1 i2, getD_set2 hL i1 i2]
  rw [if_neg (show ¬ 16 + a.toNat = 8 + b.toNat by omega), if_pos rfl, if_pos rfl]
  split
  · show ((0 : Int), dropL (putL _ a n) a) = _
    rw [dropL_yes (okL_put o2 r2), put_drop o2 r2]
  · split
    · show ((0 : Int), dropL (putL _ b n) b) = _
      rw [dropL_yes (okL_put o1 r1), put_drop o1 r1]
    · rfl
end Go.Proofs.YtkmhnjgncnoddaaGreat
