/- A graph that is ok, behind a write: plain facts. -/
import Derived.Test.YtkmhnjgncnoddaaGreatBa
import Derived.Test.YtkmhnjgncnoddaaGreatEdP
namespace Go.Proofs.YtkmhnjgncnoddaaGreat
open Go.RowKit

/-- Each bond is told by both of its ends, as what is in the rows. -/
def Both (L : List ValD) : Prop := ∀ a b : Nat, a < 8 → b < 8 → ∀ t : Int, ((b : Int), t) ∈ (L.getD (16 + a) valD0).2 ↔ ((a : Int), t) ∈ (L.getD (8 + b) valD0).2
theorem okG_iff {L : List ValD} : okG L = true ↔ L.length = 24 ∧ RightTo L 24 ∧ Both L := by
  constructor
  · intro h
    obtain ⟨hl, hR, h1, h2⟩ := okG_true h
    rw [ends_mem hR (by omega) (by omega)] at h1 h2
    refine ⟨hl, hR, fun a b ha hb t => ⟨fun hx => ?_, fun hx => ?_⟩⟩
    · have := h1 a ha _ hx
      simpa using this
    · have := h2 b hb _ hx
      simpa using this
  · rintro ⟨hl, hR, hB⟩
    rw [okG, decide_eq_true hl, rightG_iff.2 hR, Bool.true_and, Bool.true_and, Bool.and_eq_true, endsG_iff, endsG_iff, ends_mem hR (by omega) (by omega), ends_mem hR (by omega) (by omega)]
    refine ⟨fun a ha x hx => ?_, fun a ha x hx => ?_⟩
    · have r := rightB_iff.1 (okL_mem (hR.ok (k := 16 + a) (by omega)) hx)
      refine (hB a x.1.toNat ha (by omega) x.2).1 ?_
      rw [show ((x.1.toNat : Nat) : Int) = x.1 from by omega]
      exact hx
    · have r := rightB_iff.1 (okL_mem (hR.ok (k := 8 + a) (by omega)) hx)
      refine (hB x.1.toNat a (by omega) ha x.2).2 ?_
      rw [show ((x.1.toNat : Nat) : Int) = x.1 from by omega]
      exact hx
theorem RightTo.put {L : List ValD} (h : RightTo L 24) (hl : L.length = 24) {j : Nat} (hj : j < 24) {x : ValD} (hx : okV (j : Int) x.1 x.2 = true) : RightTo (L.set j x) 24 := fun i hi => by
  rw [getD_set (by rw [hl]; exact hj)]
  by_cases e : i = j
  · subst e; rw [if_pos rfl]; exact hx
  · rw [if_neg e]; exact h i hi
theorem okV_kinL {j : Nat} (h8 : 8 ≤ j) (hj : j < 24) {l : List (Int × Int)} (hl : okL l = true) : okV (j : Int) 0 l = true := by
  rw [okV_kin (by omega) (by omega) (by omega), hl]
  rfl
/-- Two rows of a bond, changed alike, leave a graph ok. -/
theorem okG_two {L : List ValD} (h : okG L = true) {a b : Nat} (ha : a < 8) (hb : b < 8) {l m : List (Int × Int)} (hl : okL l = true) (hm : okL m = true)
    (h1 : ∀ x, x.1 ≠ (b : Int) → (x ∈ l ↔ x ∈ (L.getD (16 + a) valD0).2)) (h2 : ∀ x, x.1 ≠ (a : Int) → (x ∈ m ↔ x ∈ (L.getD (8 + b) valD0).2)) (h3 : ∀ t, ((b : Int), t) ∈ l ↔ ((a : Int), t) ∈ m) :
    okG ((L.set (16 + a) (0, l)).set (8 + b) (0, m)) = true := by
  obtain ⟨hL, hR, hB⟩ := okG_iff.1 h
  have hL1 : (L.set (16 + a) (0, l)).length = 24 := by rw [List.length_set]; exact hL
  refine okG_iff.2 ⟨by rw [List.length_set]; exact hL1, (hR.put hL (by omega) (okV_kinL (by omega) (by omega) hl)).put hL1 (by omega) (okV_kinL (by omega) (by omega) hm), fun a' b' ha' hb' t => ?_⟩
  rw [getD_set (by rw [hL1]; omega), getD_set (by rw [hL]; omega), getD_set (by rw [hL1]; omega), getD_set (by rw [hL]; omega)]
  rw [if_neg (show ¬ 16 + a' = 8 + b by omega), if_neg (show ¬ 8 + b' = 16 + a by omega)]
  by_cases e1 : a' = a <;> by_cases e2 : b' = b
  · subst e1; subst e2
    rw [if_pos rfl, if_pos rfl]
    exact h3 t
  · subst e1
    rw [if_pos rfl, if_neg (by omega)]
    rw [show (((0 : Int), l).2) = l from rfl, h1 ((b' : Int), t) (by show (b' : Int) ≠ b; omega)]
    exact hB a' b' ha' hb' t
  · subst e2
    rw [if_neg (by omega), if_pos rfl]
    rw [show (((0 : Int), m).2) = m from rfl, h2 ((a' : Int), t) (by show (a' : Int) ≠ a; omega)]
    exact hB a' b' ha' hb' t
  · rw [if_neg (by omega), if_neg (by omega)]
    exact hB a' b' ha' hb' t
theorem okG_set {L : List ValD} (h : okG L = true) {a : Nat} (ha : a < 8) {n : Int} (h0 : 0 ≤ n) (h1 : n ≤ 1000000) : okG (L.set a (n, [])) = true := by
  obtain ⟨hL, hR, hB⟩ := okG_iff.1 h
  refine okG_iff.2 ⟨by rw [List.length_set]; exact hL, hR.put hL (by omega) (by rw [okV_numD (by omega) (by omega) (by omega) h0 h1]; rfl), fun a' b' ha' hb' t => ?_⟩
  rw [getD_set (by rw [hL]; omega), getD_set (by rw [hL]; omega), if_neg (by omega), if_neg (by omega)]
  exact hB a' b' ha' hb' t
/-- A graph that is ok stays so behind a write. -/
theorem okG_do {L : List ValD} (h : okG L = true) (k a b n : Int) : okG (doG L k a b n) = true := by
  obtain ⟨hL, hR, hB⟩ := okG_iff.1 h
  unfold doG
  split
  · next hs =>
    obtain ⟨_, ha, _, hn⟩ := hs
    exact okG_set h (by omega) hn.1 hn.2
  · split
    · next hs =>
      obtain ⟨_, ha, hb, _, hn⟩ := hs
      have o1 := hR.ok (k := 16 + a.toNat) (by omega)
      have o2 := hR.ok (k := 8 + b.toNat) (by omega)
      have r1 : rightB (b, n) = true := rightB_iff.2 ⟨hb.1, hb.2, hn.1, hn.2⟩
      have r2 : rightB (a, n) = true := rightB_iff.2 ⟨ha.1, ha.2, hn.1, hn.2⟩
      rw [addL_yes (addB_iff.2 ⟨o1, r1⟩), addL_yes (addB_iff.2 ⟨o2, r2⟩)]
      refine okG_two h (by omega) (by omega) (okL_put o1 r1) (okL_put o2 r2) (fun x hx => ?_) (fun x hx => ?_) (fun t => ?_)
      · rw [mem_put]
        have hx' : x.1 ≠ b := by omega
        constructor
        · rintro (rfl | ⟨h1, _⟩)
          · exact absurd rfl hx'
          · exact h1
        · exact fun h1 => .inr ⟨h1, hx'⟩
      · rw [mem_put]
        have hx' : x.1 ≠ a := by omega
        constructor
        · rintro (rfl | ⟨h1, _⟩)
          · exact absurd rfl hx'
          · exact h1
        · exact fun h1 => .inr ⟨h1, hx'⟩
      · rw [mem_put, mem_put]
        have eb : ((b.toNat : Nat) : Int) = b := by omega
        have ea : ((a.toNat : Nat) : Int) = a := by omega
        rw [eb, ea]
        simp
    · split
      · next hs =>
        obtain ⟨_, ha, hb, _, _⟩ := hs
        have o1 := hR.ok (k := 16 + a.toNat) (by omega)
        have o2 := hR.ok (k := 8 + b.toNat) (by omega)
        rw [dropL_yes o1, dropL_yes o2]
        have eb : ((b.toNat : Nat) : Int) = b := by omega
        have ea : ((a.toNat : Nat) : Int) = a := by omega
        refine okG_two h (by omega) (by omega) (okL_filter _ _ o1) (okL_filter _ _ o2) (fun x hx => ?_) (fun x hx => ?_) (fun t => ?_)
        · rw [mem_filter_notWho]
          exact ⟨fun h1 => h1.1, fun h1 => ⟨h1, by omega⟩⟩
        · rw [mem_filter_notWho]
          exact ⟨fun h1 => h1.1, fun h1 => ⟨h1, by omega⟩⟩
        · rw [mem_filter_notWho, mem_filter_notWho, eb, ea]
          simp
      · exact h
/-- A graph behind a write, key by key. -/
theorem doG_ways (L : List ValD) {k a b n : Int} (h : opOk k a b n = true) : ∃ J : Nat, J < 24 ∧ opKey k a b n = (J : Int) ∧
    ((opOther k a b n = -1 ∧ doG L k a b n = L.set J (doN k a b n, doL k a b n (L.getD J valD0).2)) ∨
     (∃ I : Nat, I < 24 ∧ I ≠ J ∧ opOther k a b n = (I : Int) ∧ doG L k a b n = (L.set J (doN k a b n, doL k a b n (L.getD J valD0).2)).set I (0, backL k a b n (L.getD I valD0).2))) := by
  rcases op_ways k a b n with ⟨hs, -, e1, e2⟩ | ⟨hs, -, e1, e2⟩ | ⟨hs, -, e1, e2⟩ | ⟨-, -, -, e, -⟩
  · obtain ⟨_, ha, _⟩ := id hs
    refine ⟨a.toNat, by omega, by rw [e1]; omega, .inl ⟨e2, ?_⟩⟩
    rcases do_ways k a b n (L.getD a.toNat valD0).2 with ⟨_, h1, h2, _⟩ | ⟨h0, _⟩ | ⟨h0, _⟩ | ⟨h0, _⟩
    · rw [doG, if_pos hs, h1, h2]
    · have := h0.1; have := hs.1; omega
    · have := h0.1; have := hs.1; omega
    · exact absurd hs h0
  · obtain ⟨_, ha, hb, _⟩ := id hs
    have h1 : ¬ setOk k a b n := fun h => by have := h.1; have := hs.1; omega
    refine ⟨16 + a.toNat, by omega, by rw [e1]; omega, .inr ⟨8 + b.toNat, by omega, by omega, by rw [e2]; omega, ?_⟩⟩
    have d1 := do_ways k a b n (L.getD (16 + a.toNat) valD0).2
    have d2 := do_ways k a b n (L.getD (8 + b.toNat) valD0).2
    rcases d1 with ⟨h0, _⟩ | ⟨_, x1, x2, _⟩ | ⟨h0, _⟩ | ⟨_, h0, _⟩
    · exact absurd h0 h1
    · rcases d2 with ⟨h0, _⟩ | ⟨_, _, _, x3⟩ | ⟨h0, _⟩ | ⟨_, h0, _⟩
      · exact absurd h0 h1
      · rw [doG, if_neg h1, if_pos hs, x1, x2, x3]
      · have := h0.1; have := hs.1; omega
      · exact absurd hs h0
    · have := h0.1; have := hs.1; omega
    · exact absurd hs h0
  · obtain ⟨_, ha, hb, _⟩ := id hs
    have h1 : ¬ setOk k a b n := fun h => by have := h.1; have := hs.1; omega
    have h2 : ¬ bindOk k a b n := fun h => by have := h.1; have := hs.1; omega
    refine ⟨16 + a.toNat, by omega, by rw [e1]; omega, .inr ⟨8 + b.toNat, by omega, by omega, by rw [e2]; omega, ?_⟩⟩
    have d1 := do_ways k a b n (L.getD (16 + a.toNat) valD0).2
    have d2 := do_ways k a b n (L.getD (8 + b.toNat) valD0).2
    rcases d1 with ⟨h0, _⟩ | ⟨h0, _⟩ | ⟨_, x1, x2, _⟩ | ⟨_, _, h0, _⟩
    · exact absurd h0 h1
    · exact absurd h0 h2
    · rcases d2 with ⟨h0, _⟩ | ⟨h0, _⟩ | ⟨_, _, _, x3⟩ | ⟨_, _, h0, _⟩
      · exact absurd h0 h1
      · exact absurd h0 h2
      · rw [doG, if_neg h1, if_neg h2, if_pos hs, x1, x2, x3]
      · exact absurd hs h0
    · exact absurd hs h0
  · rw [h] at e; cases e
end Go.Proofs.YtkmhnjgncnoddaaGreat
