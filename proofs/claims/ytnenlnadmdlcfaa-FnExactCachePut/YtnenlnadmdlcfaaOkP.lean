/- Plain: when a list of edges is ok; the order of two edges. -/
import Derived.Test.YtnenlnadmdlcfaaPl
namespace Go.Proofs.Ytnenlnadmdlcfaa

def rightB (x : Int × Int) : Bool := decide (0 ≤ x.1 ∧ x.1 < 8 ∧ 0 ≤ x.2 ∧ x.2 ≤ 1000)
theorem rightB_iff {x : Int × Int} : rightB x = true ↔ 0 ≤ x.1 ∧ x.1 < 8 ∧ 0 ≤ x.2 ∧ x.2 ≤ 1000 := by simp [rightB]
def aheadB (x y : Int × Int) : Bool := decide (x.2 > y.2 ∨ x.2 = y.2 ∧ x.1 < y.1)
theorem aheadB_iff {x y : Int × Int} : aheadB x y = true ↔ x.2 > y.2 ∨ x.2 = y.2 ∧ x.1 < y.1 := by simp [aheadB]
theorem aheadB_trans {x y z : Int × Int} (h : aheadB x y = true) (k : aheadB y z = true) : aheadB x z = true := by
  rw [aheadB_iff] at *; omega
theorem aheadB_total {x y : Int × Int} (hne : x.1 ≠ y.1) (h : ¬ aheadB y x = true) : aheadB x y = true := by
  rw [aheadB_iff] at *; omega

/-- The three-way comparison of two numbers; of two edges. -/
def cmpI (x y : Int) : Int := if x < y then -1 else if x > y then 1 else 0
def cmpE (x y : Int × Int) : Int := if cmpI y.2 x.2 ≠ 0 then cmpI y.2 x.2 else cmpI x.1 y.1
theorem cmpE_neg {x y : Int × Int} : cmpE x y < 0 ↔ aheadB x y = true := by
  rw [aheadB_iff]; unfold cmpE cmpI
  repeat' split
  all_goals omega
theorem cmpE_zero {x y : Int × Int} : cmpE x y = 0 ↔ x = y := by
  obtain ⟨a, b⟩ := x
  obtain ⟨c, d⟩ := y
  unfold cmpE cmpI
  simp only [Prod.mk.injEq]
  repeat' split
  all_goals simp at *
  all_goals omega
theorem cmpE_bd (x y : Int × Int) : -1 ≤ cmpE x y ∧ cmpE x y ≤ 1 := by
  unfold cmpE cmpI
  repeat' split
  all_goals omega

abbrev at0 (l : List (Int × Int)) (i : Nat) : Int × Int := l.getD i (0, 0)

/-- The first k edges are right, in order, of different people. -/
def GoodTo (l : List (Int × Int)) (k : Nat) : Prop := ∀ i, i < k → rightB (l.getD i (0, 0)) = true ∧ ∀ j, j < i → aheadB (l.getD j (0, 0)) (l.getD i (0, 0)) = true ∧ (l.getD j (0, 0)).1 ≠ (l.getD i (0, 0)).1
def okL : List (Int × Int) → Bool
  | [] => true
  | e :: r => rightB e && r.all (fun f => aheadB e f && decide (e.1 ≠ f.1)) && okL r
theorem okL_iff (l : List (Int × Int)) : okL l = true ↔ GoodTo l l.length := by
  induction l with
  | nil => simp [okL, GoodTo]
  | cons e r ih =>
    rw [okL, Bool.and_eq_true, Bool.and_eq_true, ih]
    constructor
    · rintro ⟨⟨h1, h2⟩, h3⟩ i hi
      cases i with
      | zero => exact ⟨by simpa using h1, fun j hj => absurd hj (Nat.not_lt_zero _)⟩
      | succ i =>
        have hi' : i < r.length := by simpa using hi
        have h4 := h3 i hi'
        refine ⟨by simpa using h4.1, fun j hj => ?_⟩
        cases j with
        | zero =>
          have := List.all_eq_true.1 h2 (r.getD i (0, 0)) (by simp [hi'])
          simp only [Bool.and_eq_true, decide_eq_true_eq] at this
          simpa using this
        | succ j => simpa using h4.2 j (by omega)
    · intro h
      refine ⟨⟨by simpa using (h 0 (by simp)).1, List.all_eq_true.2 fun f hf => ?_⟩, fun i hi => ?_⟩
      · obtain ⟨i, hi, rfl⟩ := List.getElem_of_mem hf
        have := (h (i + 1) (by simpa using hi)).2 0 (by omega)
        simpa [hi] using this
      · have := h (i + 1) (by simpa using hi)
        refine ⟨by simpa using this.1, fun j hj => ?_⟩
        simpa using this.2 (j + 1) (by omega)
theorem okL_yes {l : List (Int × Int)} (h : GoodTo l l.length) : okL l = true := (okL_iff l).2 h
theorem okL_no {l : List (Int × Int)} (h : ¬ GoodTo l l.length) : okL l = false := by
  cases e : okL l with
  | false => rfl
  | true => exact absurd ((okL_iff l).1 e) h

theorem GoodTo.zero (l : List (Int × Int)) : GoodTo l 0 := fun _ h => absurd h (Nat.not_lt_zero _)
theorem GoodTo.step {l : List (Int × Int)} {k : Nat} (h : GoodTo l k) (h1 : rightB (l.getD k (0, 0)) = true) (h2 : 0 < k → aheadB (l.getD (k - 1) (0, 0)) (l.getD k (0, 0)) = true)
    (h3 : ∀ j, j < k → (l.getD j (0, 0)).1 ≠ (l.getD k (0, 0)).1) : GoodTo l (k + 1) := by
  intro i hi
  by_cases e : i = k
  · subst e
    refine ⟨h1, fun j hj => ⟨?_, h3 j hj⟩⟩
    have h4 := h2 (by omega)
    by_cases e : j = i - 1
    · rw [e]; exact h4
    · exact aheadB_trans ((h (i - 1) (by omega)).2 j (by omega)).1 h4
  · exact h i (by omega)

/-- All right, and of different people, so far. -/
def MetTo (l : List (Int × Int)) (k : Nat) : Prop := ∀ i, i < k → rightB (l.getD i (0, 0)) = true ∧ ∀ j, j < i → (l.getD j (0, 0)).1 ≠ (l.getD i (0, 0)).1
def metB (l : List (Int × Int)) (k : Nat) (w : Nat) : Bool := (l.take k).any fun e => decide (e.1 = w)
theorem metB_iff {l : List (Int × Int)} {k w : Nat} (hk : k ≤ l.length) : metB l k w = true ↔ ∃ i, i < k ∧ (l.getD i (0, 0)).1 = w := by
  unfold metB
  rw [List.any_eq_true]
  constructor
  · rintro ⟨e, he, hw⟩
    obtain ⟨i, hi, rfl⟩ := List.getElem_of_mem he
    simp only [List.length_take] at hi
    refine ⟨i, by omega, ?_⟩
    have : i < l.length := by omega
    simpa [this] using hw
  · rintro ⟨i, hi, hw⟩
    have hil : i < l.length := by omega
    refine ⟨(l.take k)[i]'(by simp; omega), List.getElem_mem _, ?_⟩
    simpa [hil] using hw
theorem GoodTo.of_met {l : List (Int × Int)} (h : MetTo l l.length) (hs : ∀ i, 0 < i → i < l.length → ¬ aheadB (l.getD i (0, 0)) (l.getD (i - 1) (0, 0)) = true) : GoodTo l l.length := by
  have : ∀ k, k ≤ l.length → GoodTo l k := by
    intro k
    induction k with
    | zero => exact fun _ => GoodTo.zero l
    | succ k ih =>
      intro hk
      refine (ih (by omega)).step (h k (by omega)).1 (fun h0 => ?_) (h k (by omega)).2
      exact aheadB_total ((h k (by omega)).2 (k - 1) (by omega)) (hs k h0 (by omega))
  exact this _ (Nat.le_refl _)
theorem GoodTo.met {l : List (Int × Int)} {k : Nat} (h : GoodTo l k) : MetTo l k := fun i hi => ⟨(h i hi).1, fun j hj => ((h i hi).2 j hj).2⟩
theorem GoodTo.sorted {l : List (Int × Int)} {k : Nat} (h : GoodTo l k) {i : Nat} (h0 : 0 < i) (hi : i < k) : ¬ aheadB (l.getD i (0, 0)) (l.getD (i - 1) (0, 0)) = true := by
  have := ((h i hi).2 (i - 1) (by omega)).1
  rw [aheadB_iff] at *
  omega
theorem okL_mem {l : List (Int × Int)} (h : okL l = true) {x : Int × Int} (hx : x ∈ l) : rightB x = true := by
  obtain ⟨i, hi, rfl⟩ := List.getElem_of_mem hx
  have := (((okL_iff l).1 h) i hi).1
  simpa [hi] using this
theorem getD_in {l : List (Int × Int)} {i : Nat} (hi : i < l.length) : l.getD i (0, 0) = l[i] := by rw [List.getD_eq_getElem?_getD, List.getElem?_eq_getElem hi]; rfl
theorem getD_mem {l : List (Int × Int)} {i : Nat} (hi : i < l.length) : l.getD i (0, 0) ∈ l := by rw [getD_in hi]; exact List.getElem_mem hi
theorem okL_one {l : List (Int × Int)} (h : okL l = true) {i j : Nat} (hi : i < l.length) (hj : j < i) : (l.getD j (0, 0)).1 ≠ (l.getD i (0, 0)).1 := ((((okL_iff l).1 h) i hi).2 j hj).2

theorem nodup_le : ∀ (n : Nat) (l : List Nat), l.Nodup → (∀ x ∈ l, x < n) → l.length ≤ n
  | 0, l, _, h => by
    cases l with
    | nil => exact Nat.le_refl _
    | cons x r => exact absurd (h x (List.mem_cons_self ..)) (Nat.not_lt_zero _)
  | n + 1, l, hd, h => by
    by_cases hm : n ∈ l
    · have h1 := nodup_le n (l.erase n) (hd.erase n) (fun x hx => by
        have hx' := (hd.mem_erase_iff).1 hx
        have := h x hx'.2
        have := hx'.1
        omega)
      rw [List.length_erase_of_mem hm] at h1
      omega
    · exact Nat.le_succ_of_le (nodup_le n l hd (fun x hx => by
        have := h x hx
        have : x ≠ n := fun e => hm (e ▸ hx)
        omega))
theorem okL_le {l : List (Int × Int)} (h : okL l = true) : l.length ≤ 8 := by
  have := nodup_le 8 (l.map fun e => e.1.toNat) (by
    rw [List.nodup_iff_pairwise_ne, List.pairwise_map, List.pairwise_iff_getElem]
    intro i j hi hj hij e
    have h1 := okL_one h hj hij
    rw [getD_in hi, getD_in hj] at h1
    have r1 := rightB_iff.1 (okL_mem h (List.getElem_mem hi))
    have r2 := rightB_iff.1 (okL_mem h (List.getElem_mem hj))
    omega) (fun x hx => by
    obtain ⟨e, he, rfl⟩ := List.mem_map.1 hx
    have r := rightB_iff.1 (okL_mem h he)
    omega)
  simpa using this
end Go.Proofs.Ytnenlnadmdlcfaa
