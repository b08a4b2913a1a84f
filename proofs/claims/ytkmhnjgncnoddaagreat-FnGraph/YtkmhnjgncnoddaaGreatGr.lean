/- Two writes of one graph: plain facts. -/
import Derived.Test.YtkmhnjgncnoddaaGreatGq
namespace Go.Proofs.YtkmhnjgncnoddaaGreat
open Go.RowKit

/-- What a bond's write makes of one end's kin. -/
def kinF (k n who : Int) (l : List (Int × Int)) : List (Int × Int) := if k = 2 then addL l who n else dropL l who
theorem okL_kinF {k n who : Int} {l : List (Int × Int)} (hl : okL l = true) (hr : rightB (who, n) = true) : okL (kinF k n who l) = true := by
  unfold kinF
  split
  · rw [addL_yes (addB_iff.2 ⟨hl, hr⟩)]; exact okL_put hl hr
  · rw [dropL_yes hl]; exact okL_filter _ _ hl
theorem mem_kinF {k n who : Int} {l : List (Int × Int)} (hl : okL l = true) (hr : rightB (who, n) = true) (x : Int × Int) : x ∈ kinF k n who l ↔ (k = 2 ∧ x = (who, n)) ∨ (x ∈ l ∧ x.1 ≠ who) := by
  unfold kinF
  split
  · next h => rw [addL_yes (addB_iff.2 ⟨hl, hr⟩), mem_put]; simp [h]
  · next h => rw [dropL_yes hl, mem_filter_notWho]; simp [h]
theorem kinF_comm {k n who k' n' who' : Int} {l : List (Int × Int)} (hl : okL l = true) (hr : rightB (who, n) = true) (hr' : rightB (who', n') = true) (hne : who ≠ who') :
    kinF k n who (kinF k' n' who' l) = kinF k' n' who' (kinF k n who l) := by
  have o1 := okL_kinF (k := k) hl hr
  have o2 := okL_kinF (k := k') hl hr'
  refine okL_ext (okL_kinF o2 hr) (okL_kinF o1 hr') fun x => ?_
  rw [mem_kinF o2 hr, mem_kinF hl hr', mem_kinF o1 hr', mem_kinF hl hr]
  constructor
  · rintro (⟨h, rfl⟩ | ⟨⟨h, rfl⟩ | ⟨h, h1⟩, h2⟩)
    · exact .inr ⟨.inl ⟨h, rfl⟩, hne⟩
    · exact .inl ⟨h, rfl⟩
    · exact .inr ⟨.inr ⟨h, h2⟩, h1⟩
  · rintro (⟨h, rfl⟩ | ⟨⟨h, rfl⟩ | ⟨h, h1⟩, h2⟩)
    · exact .inr ⟨.inl ⟨h, rfl⟩, fun e => hne e.symm⟩
    · exact .inl ⟨h, rfl⟩
    · exact .inr ⟨.inr ⟨h, h2⟩, h1⟩
theorem kinF_last {k n who k' n' : Int} {l : List (Int × Int)} (hl : okL l = true) (hr : rightB (who, n) = true) (hr' : rightB (who, n') = true) :
    kinF k n who (kinF k' n' who l) = kinF k n who l := by
  have o2 := okL_kinF (k := k') hl hr'
  refine okL_ext (okL_kinF o2 hr) (okL_kinF hl hr) fun x => ?_
  rw [mem_kinF o2 hr, mem_kinF hl hr', mem_kinF hl hr]
  constructor
  · rintro (h | ⟨⟨h, rfl⟩ | ⟨h, h1⟩, h2⟩)
    · exact .inl h
    · exact absurd rfl h2
    · exact .inr ⟨h, h2⟩
  · rintro (h | ⟨h, h1⟩)
    · exact .inl h
    · exact .inr ⟨.inr ⟨h, h1⟩, h1⟩

/-- A write of a bond that is ok. -/
structure BondW (k a b n : Int) : Prop where
  ha : 0 ≤ a ∧ a < 8
  hb : 0 ≤ b ∧ b < 8
  ra : rightB (a, n) = true
  rb : rightB (b, n) = true
  row : ∀ (L : List ValD), doG L k a b n = (L.set (16 + a.toNat) (0, kinF k n b (L.getD (16 + a.toNat) valD0).2)).set (8 + b.toNat) (0, kinF k n a (L.getD (8 + b.toNat) valD0).2)
theorem bondW {k a b n : Int} (h : opOk k a b n = true) (hk : k ≠ 1) : BondW k a b n := by
  rcases op_ways k a b n with ⟨hs, -⟩ | ⟨hs, -⟩ | ⟨hs, -⟩ | ⟨-, -, -, e, -⟩
  · exact absurd hs.1 hk
  · have g1 : ¬ setOk k a b n := fun h => hk h.1
    obtain ⟨h2, ha, hb, _, hn⟩ := id hs
    exact ⟨ha, hb, rightB_iff.2 ⟨ha.1, ha.2, hn.1, hn.2⟩, rightB_iff.2 ⟨hb.1, hb.2, hn.1, hn.2⟩, fun L => by simp only [doG, if_neg g1, if_pos hs, kinF, if_pos h2]⟩
  · have g1 : ¬ setOk k a b n := fun h => hk h.1
    have g2 : ¬ bindOk k a b n := fun h => by have := h.1; have := hs.1; omega
    obtain ⟨h3, ha, hb, _, hn⟩ := id hs
    have h2 : ¬ k = 2 := by omega
    exact ⟨ha, hb, rightB_iff.2 ⟨ha.1, ha.2, by show 0 ≤ n; omega, by show n ≤ 1000; omega⟩, rightB_iff.2 ⟨hb.1, hb.2, by show 0 ≤ n; omega, by show n ≤ 1000; omega⟩, fun L => by simp only [doG, if_neg g1, if_neg g2, if_pos hs, kinF, if_neg h2]⟩
  · rw [h] at e; cases e
theorem BondW.at {k a b n : Int} (h : BondW k a b n) {L : List ValD} (hl : L.length = 24) (j : Nat) : (doG L k a b n).getD j valD0 = if j = 8 + b.toNat then (0, kinF k n a (L.getD j valD0).2) else if j = 16 + a.toNat then (0, kinF k n b (L.getD j valD0).2) else L.getD j valD0 := by
  have := h.ha
  have := h.hb
  rw [h.row L, getD_set2 hl (by omega) (by omega)]
  split
  · next e => rw [e]
  · split
    · next e => rw [e]
    · rfl
theorem set_at {k a b n : Int} (h : setOk k a b n) {L : List ValD} (hl : L.length = 24) (j : Nat) : (doG L k a b n).getD j valD0 = if j = a.toNat then (n, []) else L.getD j valD0 := by
  have := h.2.1
  rw [doG, if_pos h, getD_set (by rw [hl]; omega)]

/-- Of two writes of one bond the last one stays. -/
theorem doG_last {L : List ValD} (h : okG L = true) {k n k' n' a b : Int} (h1 : BondW k a b n) (h2 : BondW k' a b n') : doG (doG L k a b n) k' a b n' = doG L k' a b n' := by
  obtain ⟨hL, hR, -⟩ := okG_iff.1 h
  have hX := doG_len24 hL k a b n
  refine rows_ext (doG_len24 hX _ _ _ _) (doG_len24 hL _ _ _ _) fun j hj => ?_
  rw [h2.at hX, h2.at hL, h1.at hL]
  have := h1.ha
  have := h1.hb
  by_cases e1 : j = 8 + b.toNat
  · rw [if_pos e1, if_pos e1, if_pos e1, kinF_last (hR.ok hj) h2.ra h1.ra]
  · by_cases e2 : j = 16 + a.toNat
    · rw [if_neg e1, if_neg e1, if_neg e1, if_pos e2, if_pos e2, if_pos e2, kinF_last (hR.ok hj) h2.rb h1.rb]
    · rw [if_neg e1, if_neg e1, if_neg e1, if_neg e2, if_neg e2, if_neg e2]
/-- Two writes of two bonds can be done in either order. -/
theorem doG_comm {L : List ValD} (h : okG L = true) {k a b n k' a' b' n' : Int} (h1 : BondW k a b n) (h2 : BondW k' a' b' n') (hne : ¬ (a = a' ∧ b = b')) : doG (doG L k a b n) k' a' b' n' = doG (doG L k' a' b' n') k a b n := by
  obtain ⟨hL, hR, -⟩ := okG_iff.1 h
  have hX := doG_len24 hL k a b n
  have hY := doG_len24 hL k' a' b' n'
  refine rows_ext (doG_len24 hX _ _ _ _) (doG_len24 hY _ _ _ _) fun j hj => ?_
  rw [h2.at hX, h1.at hY, h1.at hL, h2.at hL]
  have ha := h1.ha
  have hb := h1.hb
  have ha' := h2.ha
  have hb' := h2.hb
  by_cases e1 : j = 8 + b.toNat
  · have f1 : ¬ j = 16 + a.toNat := by omega
    have f2 : ¬ j = 16 + a'.toNat := by omega
    by_cases e2 : j = 8 + b'.toNat
    · simp only [if_pos e1, if_pos e2]
      rw [kinF_comm (hR.ok hj) h2.ra h1.ra (fun e => hne ⟨e.symm, by omega⟩)]
    · simp only [if_pos e1, if_neg e2, if_neg f2]
  · by_cases e2 : j = 8 + b'.toNat
    · have f1 : ¬ j = 16 + a.toNat := by omega
      simp only [if_neg e1, if_pos e2, if_neg f1]
    · by_cases f1 : j = 16 + a.toNat <;> by_cases f2 : j = 16 + a'.toNat
      · simp only [if_neg e1, if_neg e2, if_pos f1, if_pos f2]
        rw [kinF_comm (hR.ok hj) h2.rb h1.rb (fun e => hne ⟨by omega, e.symm⟩)]
      · simp only [if_neg e1, if_neg e2, if_pos f1, if_neg f2]
      · simp only [if_neg e1, if_neg e2, if_neg f1, if_pos f2]
      · simp only [if_neg e1, if_neg e2, if_neg f1, if_neg f2]
/-- What is no bond's write touches no bond. -/
theorem doG_comm_set {L : List ValD} (hL : L.length = 24) {k a b n k' a' b' n' : Int} (h1 : BondW k a b n) (h2 : setOk k' a' b' n') : doG (doG L k a b n) k' a' b' n' = doG (doG L k' a' b' n') k a b n := by
  have hX := doG_len24 hL k a b n
  have hY := doG_len24 hL k' a' b' n'
  refine rows_ext (doG_len24 hX _ _ _ _) (doG_len24 hY _ _ _ _) fun j hj => ?_
  rw [set_at h2 hX, h1.at hY, h1.at hL, set_at h2 hL]
  have ha := h1.ha
  have hb := h1.hb
  have ha' := h2.2.1
  by_cases e : j = a'.toNat
  · rw [if_pos e, if_neg (by omega), if_neg (by omega), if_pos e]
  · simp only [if_neg e]
theorem doG_set_set {L : List ValD} (hL : L.length = 24) {k a b n k' a' b' n' : Int} (h1 : setOk k a b n) (h2 : setOk k' a' b' n') (hne : a ≠ a') : doG (doG L k a b n) k' a' b' n' = doG (doG L k' a' b' n') k a b n := by
  have hX := doG_len24 hL k a b n
  have hY := doG_len24 hL k' a' b' n'
  refine rows_ext (doG_len24 hX _ _ _ _) (doG_len24 hY _ _ _ _) fun j hj => ?_
  rw [set_at h2 hX, set_at h1 hY, set_at h1 hL, set_at h2 hL]
  have ha := h1.2.1
  have ha' := h2.2.1
  by_cases e : j = a'.toNat
  · rw [if_pos e, if_neg (by omega), if_pos e]
  · simp only [if_neg e]
theorem doG_set_last {L : List ValD} (hL : L.length = 24) {k a b n k' b' n' : Int} (h1 : setOk k a b n) (h2 : setOk k' a b' n') : doG (doG L k a b n) k' a b' n' = doG L k' a b' n' := by
  have hX := doG_len24 hL k a b n
  refine rows_ext (doG_len24 hX _ _ _ _) (doG_len24 hL _ _ _ _) fun j hj => ?_
  rw [set_at h2 hX, set_at h1 hL, set_at h2 hL]
  split <;> rfl
end Go.Proofs.YtkmhnjgncnoddaaGreat
