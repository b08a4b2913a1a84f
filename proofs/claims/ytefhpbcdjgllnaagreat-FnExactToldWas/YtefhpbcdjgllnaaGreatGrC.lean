/- Contracts and plain facts, several texts in one. -/
import Derived.Test.YtefhpbcdjgllnaaGreatGrA
import Derived.Deep.RegionHeld3
import Derived.Deep.DrawnRows
import Derived.BigQuiet
import Derived.Lib.QuietBelow
import Derived.Test.YtefhpbcdjgllnaaGreatRows
import Derived.WalkKit
import Derived.WalkSpells
import Derived.WalkLawsBesides
import Derived.Handy
import Derived.Test.YtefhpbcdjgllnaaGreatGrB
/- Part: Plain: when a list of edges is ok; the order of two edges. -/
namespace Go.Proofs.YtefhpbcdjgllnaaGreat

def rightB (x : Int × Int) : Bool := decide (0 ≤ x.1 ∧ x.1 < 8 ∧ 0 ≤ x.2 ∧ x.2 ≤ 1000)
theorem rightB_iff {x : Int × Int} : rightB x = true ↔ 0 ≤ x.1 ∧ x.1 < 8 ∧ 0 ≤ x.2 ∧ x.2 ≤ 1000 := by simp [rightB]
def aheadB (x y : Int × Int) : Bool := decide (x.2 > y.2 ∨ x.2 = y.2 ∧ x.1 < y.1)
theorem aheadB_iff {x y : Int × Int} : aheadB x y = true ↔ x.2 > y.2 ∨ x.2 = y.2 ∧ x.1 < y.1 := by simp [aheadB]
theorem aheadB_trans {x y z : Int × Int} (h : aheadB x y = true) (k : aheadB y z = true) : aheadB x z = true := by
  rw [aheadB_iff] at *; omega
theorem aheadB_total {x y : Int × Int} (hne : x.1 ≠ y.1) (h : ¬ aheadB y x = true) : aheadB x y = true := by
  rw [aheadB_iff] at *; omega

/-- The three-way comparison of two numbers; of two edges. -/
def cmpI (x y : Int) : Int := if x < y then -1 else if x > y then 1 else 0
def cmpE (x y : Int × Int) : Int := if cmpI y.2 x.2 ≠ 0 then cmpI y.2 x.2 else cmpI x.1 y.1
theorem cmpE_neg {x y : Int × Int} : cmpE x y < 0 ↔ aheadB x y = true := by
  rw [aheadB_iff]; unfold cmpE cmpI
  repeat' split
  all_goals omega
theorem cmpE_zero {x y : Int × Int} : cmpE x y = 0 ↔ x = y := by
  obtain ⟨a, b⟩ := x
  obtain ⟨c, d⟩ := y
  unfold cmpE cmpI
  simp only [Prod.mk.injEq]
  repeat' split
  all_goals simp at *
  all_goals omega
theorem cmpE_bd (x y : Int × Int) : -1 ≤ cmpE x y ∧ cmpE x y ≤ 1 := by
  unfold cmpE cmpI
  repeat' split
  all_goals omega

abbrev at0 (l : List (Int × Int)) (i : Nat) : Int × Int := l.getD i (0, 0)

/-- The first k edges are right, in order, of different people. -/
def GoodTo (l : List (Int × Int)) (k : Nat) : Prop := ∀ i, i < k → rightB (l.getD i (0, 0)) = true ∧ ∀ j, j < i → aheadB (l.getD j (0, 0)) (l.getD i (0, 0)) = true ∧ (l.getD j (0, 0)).1 ≠ (l.getD i (0, 0)).1
def okL : List (Int × Int) → Bool
  | [] => true
  | e :: r => rightB e && r.all (fun f => aheadB e f && decide (e.1 ≠ f.1)) && okL r
theorem okL_iff (l : List (Int × Int)) : okL l = true ↔ GoodTo l l.length := by
  induction l with
  | nil => simp [okL, GoodTo]
  | cons e r ih =>
    rw [okL, Bool.and_eq_true, Bool.and_eq_true, ih]
    constructor
    · rintro ⟨⟨h1, h2⟩, h3⟩ i hi
      cases i with
      | zero => exact ⟨by simpa using h1, fun j hj => absurd hj (Nat.not_lt_zero _)⟩
      | succ i =>
        have hi' : i < r.length := by simpa using hi
        have h4 := h3 i hi'
        refine ⟨by simpa using h4.1, fun j hj => ?_⟩
        cases j with
        | zero =>
          have := List.all_eq_true.1 h2 (r.getD i (0, 0)) (by simp [hi'])
          simp only [Bool.and_eq_true, decide_eq_true_eq] at this
          simpa using this
        | succ j => simpa using h4.2 j (by omega)
    · intro h
      refine ⟨⟨by simpa using (h 0 (by simp)).1, List.all_eq_true.2 fun f hf => ?_⟩, fun i hi => ?_⟩
      · obtain ⟨i, hi, rfl⟩ := List.getElem_of_mem hf
        have := (h (i + 1) (by simpa using hi)).2 0 (by omega)
        simpa [hi] using this
      · have := h (i + 1) (by simpa using hi)
        refine ⟨by simpa using this.1, fun j hj => ?_⟩
        simpa using this.2 (j + 1) (by omega)
theorem okL_yes {l : List (Int × Int)} (h : GoodTo l l.length) : okL l = true := (okL_iff l).2 h
theorem okL_no {l : List (Int × Int)} (h : ¬ GoodTo l l.length) : okL l = false := by
  cases e : okL l with
  | false => rfl
  | true => exact absurd ((okL_iff l).1 e) h

theorem GoodTo.zero (l : List (Int × Int)) : GoodTo l 0 := fun _ h => absurd h (Nat.not_lt_zero _)
theorem GoodTo.step {l : List (Int × Int)} {k : Nat} (h : GoodTo l k) (h1 : rightB (l.getD k (0, 0)) = true) (h2 : 0 < k → aheadB (l.getD (k - 1) (0, 0)) (l.getD k (0, 0)) = true)
    (h3 : ∀ j, j < k → (l.getD j (0, 0)).1 ≠ (l.getD k (0, 0)).1) : GoodTo l (k + 1) := by
  intro i hi
  by_cases e : i = k
  · subst e
    refine ⟨h1, fun j hj => ⟨?_, h3 j hj⟩⟩
    have h4 := h2 (by omega)
    by_cases e : j = i - 1
    · rw [e]; exact h4
    · exact aheadB_trans ((h (i - 1) (by omega)).2 j (by omega)).1 h4
  · exact h i (by omega)

/-- All right, and of different people, so far. -/
def MetTo (l : List (Int × Int)) (k : Nat) : Prop := ∀ i, i < k → rightB (l.getD i (0, 0)) = true ∧ ∀ j, j < i → (l.getD j (0, 0)).1 ≠ (l.getD i (0, 0)).1
def metB (l : List (Int × Int)) (k : Nat) (w : Nat) : Bool := (l.take k).any fun e => decide (e.1 = w)
theorem metB_iff {l : List (Int × Int)} {k w : Nat} (hk : k ≤ l.length) : metB l k w = true ↔ ∃ i, i < k ∧ (l.getD i (0, 0)).1 = w := by
  unfold metB
  rw [List.any_eq_true]
  constructor
  · rintro ⟨e, he, hw⟩
    obtain ⟨i, hi, rfl⟩ := List.getElem_of_mem he
    simp only [List.length_take] at hi
    refine ⟨i, by omega, ?_⟩
    have : i < l.length := by omega
    simpa [this] using hw
  · rintro ⟨i, hi, hw⟩
    have hil : i < l.length := by omega
    refine ⟨(l.take k)[i]'(by simp; omega), List.getElem_mem _, ?_⟩
    simpa [hil] using hw
theorem GoodTo.of_met {l : List (Int × Int)} (h : MetTo l l.length) (hs : ∀ i, 0 < i → i < l.length → ¬ aheadB (l.getD i (0, 0)) (l.getD (i - 1) (0, 0)) = true) : GoodTo l l.length := by
  have : ∀ k, k ≤ l.length → GoodTo l k := by
    intro k
    induction k with
    | zero => exact fun _ => GoodTo.zero l
    | succ k ih =>
      intro hk
      refine (ih (by omega)).step (h k (by omega)).1 (fun h0 => ?_) (h k (by omega)).2
      exact aheadB_total ((h k (by omega)).2 (k - 1) (by omega)) (hs k h0 (by omega))
  exact this _ (Nat.le_refl _)
theorem GoodTo.met {l : List (Int × Int)} {k : Nat} (h : GoodTo l k) : MetTo l k := fun i hi => ⟨(h i hi).1, fun j hj => ((h i hi).2 j hj).2⟩
theorem GoodTo.sorted {l : List (Int × Int)} {k : Nat} (h : GoodTo l k) {i : Nat} (h0 : 0 < i) (hi : i < k) : ¬ aheadB (l.getD i (0, 0)) (l.getD (i - 1) (0, 0)) = true := by
  have := ((h i hi).2 (i - 1) (by omega)).1
  rw [aheadB_iff] at *
  omega
theorem okL_mem {l : List (Int × Int)} (h : okL l = true) {x : Int × Int} (hx : x ∈ l) : rightB x = true := by
  obtain ⟨i, hi, rfl⟩ := List.getElem_of_mem hx
  have := (((okL_iff l).1 h) i hi).1
  simpa [hi] using this
theorem getD_in {l : List (Int × Int)} {i : Nat} (hi : i < l.length) : l.getD i (0, 0) = l[i] := by rw [List.getD_eq_getElem?_getD, List.getElem?_eq_getElem hi]; rfl
theorem getD_mem {l : List (Int × Int)} {i : Nat} (hi : i < l.length) : l.getD i (0, 0) ∈ l := by rw [getD_in hi]; exact List.getElem_mem hi
theorem okL_one {l : List (Int × Int)} (h : okL l = true) {i j : Nat} (hi : i < l.length) (hj : j < i) : (l.getD j (0, 0)).1 ≠ (l.getD i (0, 0)).1 := ((((okL_iff l).1 h) i hi).2 j hj).2

theorem nodup_le : ∀ (n : Nat) (l : List Nat), l.Nodup → (∀ x ∈ l, x < n) → l.length ≤ n
  | 0, l, _, h => by
    cases l with
    | nil => exact Nat.le_refl _
    | cons x r => exact absurd (h x (List.mem_cons_self ..)) (Nat.not_lt_zero _)
  | n + 1, l, hd, h => by
    by_cases hm : n ∈ l
    · have h1 := nodup_le n (l.erase n) (hd.erase n) (fun x hx => by
        have hx' := (hd.mem_erase_iff).1 hx
        have := h x hx'.2
        have := hx'.1
        omega)
      rw [List.length_erase_of_mem hm] at h1
      omega
    · exact Nat.le_succ_of_le (nodup_le n l hd (fun x hx => by
        have := h x hx
        have : x ≠ n := fun e => hm (e ▸ hx)
        omega))
theorem okL_le {l : List (Int × Int)} (h : okL l = true) : l.length ≤ 8 := by
  have := nodup_le 8 (l.map fun e => e.1.toNat) (by
    rw [List.nodup_iff_pairwise_ne, List.pairwise_map, List.pairwise_iff_getElem]
    intro i j hi hj hij e
    have h1 := okL_one h hj hij
    rw [getD_in hi, getD_in hj] at h1
    have r1 := rightB_iff.1 (okL_mem h (List.getElem_mem hi))
    have r2 := rightB_iff.1 (okL_mem h (List.getElem_mem hj))
    omega) (fun x hx => by
    obtain ⟨e, he, rfl⟩ := List.mem_map.1 hx
    have r := rightB_iff.1 (okL_mem h he)
    omega)
  simpa using this
end Go.Proofs.YtefhpbcdjgllnaaGreat

/- Part: The small functions beneath EdgeOk: contracts. -/
namespace Go.Proofs.YtefhpbcdjgllnaaGreat
open Go.RowKit
attribute [local go_sem ↓] Go.wp_at_zero Go.wp_at_succ

set_option maxHeartbeats 1000000 in
theorem edgeRight_any (a b : Int) (w : World) :
    Calls Tryz.prog 115 #[.agg #[.int .i64 a, .int .i64 b]] w fun e w' => e = .returned (.bool (rightB (a, b))) ∧ Below w.heap.size w w' := by
  go_enter Tryz.func115, Tryz.ntmps115
  go_wp2
  all_goals
    go_ret
    exact ⟨by first | (simp_all [rightB]; done) | (simp_all [rightB]; omega), by go_grown⟩

set_option maxHeartbeats 1000000 in
theorem l1One_any (a b : Int) (w : World) :
    Calls Tryz.prog 103 #[.agg #[.int .i64 a, .int .i64 b]] w fun e w' => e = .returned (.bool (rightB (a, b))) ∧ Below w.heap.size w w' := by
  go_enter Tryz.func103, Tryz.ntmps103
  go_wp2
  all_goals
    go_ret
    exact ⟨by first | (simp_all [rightB]; done) | (simp_all [rightB]; omega), by go_grown⟩

set_option maxHeartbeats 1000000 in
theorem l1Ahead_any (a b c d : Int) (w : World) :
    Calls Tryz.prog 104 #[.agg #[.int .i64 a, .int .i64 b], .agg #[.int .i64 c, .int .i64 d]] w fun e w' => e = .returned (.bool (aheadB (a, b) (c, d))) ∧ Below w.heap.size w w' := by
  go_enter Tryz.func104, Tryz.ntmps104
  go_wp2
  all_goals
    go_ret
    exact ⟨by first | (simp_all [aheadB]; done) | (simp_all [aheadB]; omega), by go_grown⟩

set_option maxHeartbeats 1000000 in
theorem compare_any (a b : Int) (w : World) :
    Calls Tryz.prog 106 #[.int .i64 a, .int .i64 b] w fun e w' => e = .returned (.int .i64 (cmpI a b)) ∧ w' = w := by
  go_enter Tryz.func106, Tryz.ntmps106
  go_wp2
  all_goals
    go_ret
    exact ⟨by first | (simp_all [cmpI]; done) | (simp [cmpI]; split <;> first | omega | (split <;> omega)), rfl⟩

def orI (x y : Int) : Int := if x ≠ 0 then x else y
theorem orI_cmp (x y : Int × Int) : orI (cmpI y.2 x.2) (cmpI x.1 y.1) = cmpE x y := rfl

set_option maxHeartbeats 1000000 in
theorem or_any (b : Nat) (x y : Int) (w : World) (c0 : w.cell? ⟨b, 0, none⟩ = some (.int .i64 x)) (c1 : w.cell? ⟨b, 1, none⟩ = some (.int .i64 y)) :
    Calls Tryz.prog 108 #[.slice (some ⟨b, 0, none⟩) 2 2] w fun e w' => e = .returned (.int .i64 (orI x y)) ∧ w' = w := by
  by_cases hx : x = 0
  · subst hx
    by_cases hy : y = 0
    · subst hy
      go_enter Tryz.func108, Tryz.ntmps108
      go_wp2
      go_rounds 3
      go_ret
      exact ⟨by simp [orI], rfl⟩
    · have hy' : (y == 0) = false := beq_eq_false_iff_ne.2 hy
      go_enter Tryz.func108, Tryz.ntmps108
      go_wp2
      go_rounds 3
      go_ret
      exact ⟨by simp [orI], rfl⟩
  · have hx' : (x == 0) = false := beq_eq_false_iff_ne.2 hx
    go_enter Tryz.func108, Tryz.ntmps108
    go_wp2
    go_rounds 3
    go_ret
    exact ⟨by simp [orI, hx], rfl⟩

set_option maxHeartbeats 1000000 in
theorem compareEdges_any (a b c d : Int) (w : World) :
    Calls Tryz.prog 117 #[.agg #[.int .i64 a, .int .i64 b], .agg #[.int .i64 c, .int .i64 d]] w fun e w' => e = .returned (.int .i64 (cmpE (a, b) (c, d))) ∧ Below w.heap.size w w' := by
  go_enter Tryz.func117, Tryz.ntmps117
  go_wp2
  go_region_held3 (fun w' => w'.cell? ⟨w.heap.size, 0, none⟩ = some (.int .i64 a) ∧ w'.cell? ⟨w.heap.size, 1, none⟩ = some (.int .i64 b) ∧ w'.cell? ⟨w.heap.size + 1, 0, none⟩ = some (.int .i64 c) ∧ w'.cell? ⟨w.heap.size + 1, 1, none⟩ = some (.int .i64 d)) (simp [go_sem, World.cell?_alloc_past]) (first | (go_at_call 106; refine (compare_any _ _ _).mono ?_; rintro e w' ⟨rfl, rfl⟩) | (go_at_call 108; refine (or_any _ (cmpI d b) (cmpI a c) _ (by simp [go_sem]) (by simp [go_sem])).mono ?_; rintro e w' ⟨rfl, rfl⟩))
  go_wp2
  go_ret
  exact ⟨by simp [← orI_cmp], by go_grown⟩
end Go.Proofs.YtefhpbcdjgllnaaGreat

/- Part: spec.EdgeOk: contract. -/
namespace Go.Proofs.YtefhpbcdjgllnaaGreat
open Go.RowKit
attribute [local go_sem ↓] Go.wp_at_zero Go.wp_at_succ

set_option maxHeartbeats 4000000 in
theorem specOk_any (v : Value) (l : List (Int × Int)) (w : World) (h : Rd w v l) :
    Calls Tryz.prog 75 #[v] w fun e w' => e = .returned (.bool (okL l)) ∧ Below w.heap.size w w' := by
  obtain ⟨ao, cap, rfl, hl, hc⟩ := h
  unfold maxLen at hl
  go_enter Tryz.func75, Tryz.ntmps75
  go_wp2
  go_loopw [3] (fun i wr => ∃ k : Nat, k ≤ l.length ∧ i = .int .i64 k ∧ GoodTo l k ∧ Below w.heap.size w wr) (fun i _ => l.length - (intOf i).toNat)
  case atStart => exact ⟨0, Nat.zero_le _, rfl, GoodTo.zero l, Below.refl _ _⟩
  case round =>
    obtain ⟨k, hk, rfl, hgood, hbel⟩ := hrel
    have hsz := hbel.size
    by_cases hlt : k < l.length
    · obtain ⟨b, o, rfl, hb, hcc⟩ := hc (by omega)
      have hcr : ∀ i, i < l.length → ∀ W, Below w.heap.size w W → W.cell? ⟨b, o + i * 2, none⟩ = some (.int .i64 (l.getD i (0, 0)).1) ∧ W.cell? ⟨b, o + i * 2 + 1, none⟩ = some (.int .i64 (l.getD i (0, 0)).2) :=
        fun i hi W hW => ⟨(hW.cell (p := ⟨b, o + i * 2, none⟩) hb).trans (hcc i hi).1, (hW.cell (p := ⟨b, o + i * 2 + 1, none⟩) hb).trans (hcc i hi).2⟩
      have HC := hid hcr
      clear hcc hc hcr
      obtain ⟨c0, c1⟩ := HC.out k hlt wr hbel
      by_cases hright : rightB (l.getD k (0, 0)) = true
      · have HG : Hid (GoodTo l k) := hgood
        have HR : Hid (rightB (l.getD k (0, 0)) = true) := hright
        obtain ⟨x, hx⟩ : ∃ x, l.getD k (0, 0) = x := ⟨_, rfl⟩
        have HX : Hid (l.getD k (0, 0) = x) := hx
        rw [hx] at c0 c1 hright
        clear hx hgood
        cases k with
        | zero =>
          simp only [Nat.zero_mul, Nat.add_zero] at c0 c1
          go_wp2
          have r0 := cell_regrown c0
          have r1 := cell_regrown c1
          refine wp_region_quiet_below (by kernel_rfl) (by kernel_rfl) ?_
          repeat (first | go_big_quiet_skip | (go_big_quiet_want; go_big_quiet_op; first | go_big_quiet_on | go_big_quiet_call (first | (go_at_call 103; exact Calls.regrown_of (l1One_any _ _ _)) | (go_at_call 104; exact Calls.regrown_of (l1Ahead_any _ _ _ _ _)))))
          refine wpQuiet_nil ?_
          rintro wq ⟨pq, hwq⟩
          have hq : Below wr.heap.size wr wq := by rw [hwq]; exact below_regrown _ _ _
          clear hwq pq
          clear r0 r1
          go_wp2
          go_loopw [4] (fun i wz => i = .int .i64 0 ∧ Below w.heap.size w wz) (fun _ _ => 0)
          case atStart => exact ⟨rfl, hbel.trans (hq.mono hsz)⟩
          case round =>
            obtain ⟨rfl, hbz⟩ := hrel
            go_wp2
            go_roundw
            case rel => exact ⟨1, by omega, by go_num, HG.out.step HR.out (fun h => absurd h (Nat.lt_irrefl 0)) (fun j hj => absurd hj (Nat.not_lt_zero _)), hbz⟩
            case measure => simp [intOf]; omega
        | succ q =>
          obtain ⟨d0, d1⟩ := HC.out q (by omega) wr hbel
          obtain ⟨y, hy⟩ : ∃ y, l.getD q (0, 0) = y := ⟨_, rfl⟩
          have HY : Hid (l.getD q (0, 0) = y) := hy
          rw [hy] at d0 d1
          clear hy
          by_cases hah : aheadB y x = true
          · go_wp2
            have r0 := cell_regrown c0
            have r1 := cell_regrown c1
            have r2 := cell_regrown d0
            have r3 := cell_regrown d1
            refine wp_region_quiet_below (by kernel_rfl) (by kernel_rfl) ?_
            repeat (first | go_big_quiet_skip | (go_big_quiet_want; go_big_quiet_op; first | go_big_quiet_on | go_big_quiet_call (first | (go_at_call 103; exact Calls.regrown_of (l1One_any _ _ _)) | (go_at_call 104; exact Calls.regrown_of (l1Ahead_any _ _ _ _ _)))))
            refine wpQuiet_nil ?_
            rintro wq ⟨pq, hwq⟩
            have hq : Below wr.heap.size wr wq := by rw [hwq]; exact below_regrown _ _ _
            clear hwq pq
            clear r0 r1 r2 r3
            go_wp2
            go_loopw [4] (fun i wz => ∃ j : Nat, j ≤ q + 1 ∧ i = .int .i64 j ∧ Hid (∀ t, t < j → (l.getD t (0, 0)).1 ≠ (l.getD (q + 1) (0, 0)).1) ∧ Below w.heap.size w wz) (fun i _ => q + 1 - (intOf i).toNat)
            case atStart => exact ⟨0, Nat.zero_le _, rfl, fun t ht => absurd ht (Nat.not_lt_zero _), hbel.trans (hq.mono hsz)⟩
            case round =>
              obtain ⟨j, hj, rfl, hno, hbz⟩ := hrel
              by_cases hjk : j < q + 1
              · obtain ⟨e0, _⟩ := HC.out j (by omega) wr hbz
                obtain ⟨f0, _⟩ := HC.out (q + 1) hlt wr hbz
                rw [HX.out] at f0
                have r0 := cell_regrown e0
                have r1 := cell_regrown f0
                have hszz := hbz.size
                by_cases hsame : (l.getD j (0, 0)).1 = x.1
                · have hfalse : okL l = false := okL_no (fun hg => by
                    have := ((hg (q + 1) hlt).2 j hjk).2
                    rw [HX.out] at this
                    exact this hsame)
                  rw [hsame] at r0
                  clear hsame e0 f0
                  go_wp2
                  refine wp_region_quiet_below (by kernel_rfl) (by kernel_rfl) ?_
                  repeat (first | go_big_quiet_skip | (go_big_quiet_want; go_big_quiet_op; first | go_big_quiet_on | go_big_quiet_call (first | (fail))))
                  refine wpQuiet_nil ?_
                  rintro wq ⟨pq, hwq⟩
                  have hq : Below wr.heap.size wr wq := by rw [hwq]; exact below_regrown _ _ _
                  clear hwq pq
                  clear r0 r1
                  go_wp2
                  go_ret
                  exact ⟨by simp [hfalse], hbz.trans (hq.mono hszz)⟩
                · have hnext : Hid (∀ t, t < j + 1 → (l.getD t (0, 0)).1 ≠ (l.getD (q + 1) (0, 0)).1) := fun t ht => by
                    by_cases e : t = j
                    · rw [e, HX.out]; exact hsame
                    · exact hno.out t (by omega)
                  have hne : ((l.getD j (0, 0)).1 == x.1) = false := beq_eq_false_iff_ne.2 hsame
                  clear hsame e0 f0
                  generalize (l.getD j (0, 0)).1 = z at *
                  go_wp2
                  refine wp_region_quiet_below (by kernel_rfl) (by kernel_rfl) ?_
                  repeat (first | go_big_quiet_skip | (go_big_quiet_want; go_big_quiet_op; first | go_big_quiet_on | go_big_quiet_call (first | (fail))))
                  refine wpQuiet_nil ?_
                  rintro wq ⟨pq, hwq⟩
                  have hq : Below wr.heap.size wr wq := by rw [hwq]; exact below_regrown _ _ _
                  clear hwq pq
                  clear r0 r1
                  go_wp2
                  go_roundw
                  case rel => exact ⟨j + 1, by omega, by go_num, hnext, hbz.trans (hq.mono hszz)⟩
                  case measure => simp [intOf]; omega
              · have hjq : j = q + 1 := by omega
                subst hjq
                go_wp2
                go_roundw
                case rel => exact ⟨q + 1 + 1, by omega, by go_num, HG.out.step HR.out (fun _ => by rw [show q + 1 - 1 = q from rfl, HY.out, HX.out]; exact hah) hno.out, hbz⟩
                case measure => simp [intOf]; omega
          · have hah' : aheadB y x = false := by simpa using hah
            clear hah
            have hfalse : okL l = false := okL_no (fun hg => by
              have := ((hg (q + 1) hlt).2 q (by omega)).1
              rw [HX.out, HY.out, hah'] at this
              exact absurd this (by decide))
            go_wp2
            have r0 := cell_regrown c0
            have r1 := cell_regrown c1
            have r2 := cell_regrown d0
            have r3 := cell_regrown d1
            refine wp_region_quiet_below (by kernel_rfl) (by kernel_rfl) ?_
            repeat (first | go_big_quiet_skip | (go_big_quiet_want; go_big_quiet_op; first | go_big_quiet_on | go_big_quiet_call (first | (go_at_call 103; exact Calls.regrown_of (l1One_any _ _ _)) | (go_at_call 104; exact Calls.regrown_of (l1Ahead_any _ _ _ _ _)))))
            refine wpQuiet_nil ?_
            rintro wq ⟨pq, hwq⟩
            have hq : Below wr.heap.size wr wq := by rw [hwq]; exact below_regrown _ _ _
            clear hwq pq
            clear r0 r1 r2 r3
            go_wp2
            go_ret
            exact ⟨by simp [hfalse], hbel.trans (hq.mono hsz)⟩
      · have hfalse : okL l = false := okL_no (fun hg => hright (hg k hlt).1)
        have hright' : rightB (l.getD k (0, 0)) = false := by simpa using hright
        clear hright hgood
        generalize l.getD k (0, 0) = x at *
        go_wp2
        have r0 := cell_regrown c0
        have r1 := cell_regrown c1
        refine wp_region_quiet_below (by kernel_rfl) (by kernel_rfl) ?_
        repeat (first | go_big_quiet_skip | (go_big_quiet_want; go_big_quiet_op; first | go_big_quiet_on | go_big_quiet_call (first | (go_at_call 103; exact Calls.regrown_of (l1One_any _ _ _)) | (go_at_call 104; exact Calls.regrown_of (l1Ahead_any _ _ _ _ _)))))
        refine wpQuiet_nil ?_
        rintro wq ⟨pq, hwq⟩
        have hq : Below wr.heap.size wr wq := by rw [hwq]; exact below_regrown _ _ _
        clear hwq pq
        clear r0 r1
        go_wp2
        go_ret
        exact ⟨by simp [hfalse], hbel.trans (hq.mono hsz)⟩
    · have hkl : k = l.length := by omega
      have htrue : okL l = true := okL_yes (by rw [← hkl]; exact hgood)
      clear hgood
      go_wp2
      go_ret
      exact ⟨by simp [htrue], hbel⟩
end Go.Proofs.YtefhpbcdjgllnaaGreat

/- Part: slices.IsSortedFunc at edges and compareEdges; impl.EdgeOk: contracts. -/
namespace Go.Proofs.YtefhpbcdjgllnaaGreat
open Go.RowKit
attribute [local go_sem ↓] Go.wp_at_zero Go.wp_at_succ

def NoInv (l : List (Int × Int)) : Prop := ∀ i, 0 < i → i < l.length → ¬ aheadB (l.getD i (0, 0)) (l.getD (i - 1) (0, 0)) = true

set_option maxHeartbeats 2000000 in
theorem isSorted_any (v : Value) (l : List (Int × Int)) (p : Bool) (hp : p = true ↔ NoInv l) (w : World) (h : Rd w v l) :
    Calls Tryz.prog 116 #[v, .func (.func 117) #[] #[]] w fun e w' => e = .returned (.bool p) ∧ Below w.heap.size w w' := by
  obtain ⟨ao, cap, rfl, hl, hc⟩ := h
  unfold maxLen at hl
  have HP : Hid (p = true ↔ NoInv l) := hp
  clear hp
  by_cases h0 : l.length = 0
  · have hpt : p = true := HP.out.2 (fun i _ hi => by omega)
    subst hpt
    go_enter Tryz.func116, Tryz.ntmps116
    go_wp2
    go_loop [5] (fun i => i = .int .i64 (-1)) (fun _ => 0)
    case atStart => simp
    case round =>
      subst hrel
      go_wp2
      go_ret
      exact ⟨by simp, Below.refl _ _⟩
  · have hpos : (0 : Int) < (l.length : Int) := by omega
    clear h0
    go_enter Tryz.func116, Tryz.ntmps116
    go_wp2
    go_loopw [5] (fun i wr => ∃ k : Nat, k < l.length ∧ i = .int .i64 k ∧ Hid (∀ j, k < j → j < l.length → ¬ aheadB (l.getD j (0, 0)) (l.getD (j - 1) (0, 0)) = true) ∧ Below w.heap.size w wr) (fun i _ => (intOf i).toNat)
    case atStart => exact ⟨l.length - 1, by omega, by go_num, fun j hj hj' => by omega, Below.refl _ _⟩
    case round =>
      obtain ⟨k, hk, rfl, hno, hbel⟩ := hrel
      have hsz := hbel.size
      obtain ⟨b, o, rfl, hb, hcc⟩ := hc (by omega)
      cases k with
      | zero =>
        have hpt : p = true := HP.out.2 (fun i hi hi' => hno.out i hi hi')
        subst hpt
        clear hcc hc
        go_wp2
        go_ret
        exact ⟨by simp, hbel⟩
      | succ q =>
        obtain ⟨c0, c1⟩ := hcc (q + 1) hk
        obtain ⟨d0, d1⟩ := hcc q (by omega)
        rw [← hbel.cell (p := ⟨b, o + (q + 1) * 2, none⟩) hb] at c0
        rw [← hbel.cell (p := ⟨b, o + (q + 1) * 2 + 1, none⟩) hb] at c1
        rw [← hbel.cell (p := ⟨b, o + q * 2, none⟩) hb] at d0
        rw [← hbel.cell (p := ⟨b, o + q * 2 + 1, none⟩) hb] at d1
        have r0 := cell_regrown c0
        have r1 := cell_regrown c1
        have r2 := cell_regrown d0
        have r3 := cell_regrown d1
        clear c0 c1 d0 d1 hcc hc
        by_cases hah : aheadB (l.getD (q + 1) (0, 0)) (l.getD q (0, 0)) = true
        · have hpf : p = false := by
            cases hpp : p with
            | false => rfl
            | true => exact absurd hah (HP.out.1 hpp (q + 1) (by omega) hk)
          subst hpf
          have hneg : cmpE (l.getD (q + 1) (0, 0)) (l.getD q (0, 0)) < 0 := cmpE_neg.2 hah
          clear hah
          generalize l.getD (q + 1) (0, 0) = x at *
          generalize l.getD q (0, 0) = y at *
          go_wp2
          refine wp_region_quiet_below (by kernel_rfl) (by kernel_rfl) ?_
          repeat (first | go_big_quiet_skip | (go_big_quiet_want; go_big_quiet_op; first | go_big_quiet_on | go_big_quiet_call (first | (go_at_call 117; exact Calls.regrown_of (compareEdges_any _ _ _ _ _)))))
          refine wpQuiet_nil ?_
          rintro wq ⟨pq, hwq⟩
          have hq : Below wr.heap.size wr wq := by rw [hwq]; exact below_regrown _ _ _
          clear hwq pq
          clear r0 r1 r2 r3
          go_wp2
          go_ret
          exact ⟨by simp, hbel.trans (hq.mono hsz)⟩
        · have hneg : decide (cmpE (l.getD (q + 1) (0, 0)) (l.getD q (0, 0)) < 0) = false := decide_eq_false (fun h => hah (cmpE_neg.1 h))
          have hnext : Hid (∀ j, q < j → j < l.length → ¬ aheadB (l.getD j (0, 0)) (l.getD (j - 1) (0, 0)) = true) := fun j hj hj' => by
            by_cases e : j = q + 1
            · rw [e]; exact hah
            · exact hno.out j (by omega) hj'
          clear hah
          generalize l.getD (q + 1) (0, 0) = x at *
          generalize l.getD q (0, 0) = y at *
          go_wp2
          refine wp_region_quiet_below (by kernel_rfl) (by kernel_rfl) ?_
          repeat (first | go_big_quiet_skip | (go_big_quiet_want; go_big_quiet_op; first | go_big_quiet_on | go_big_quiet_call (first | (go_at_call 117; exact Calls.regrown_of (compareEdges_any _ _ _ _ _)))))
          refine wpQuiet_nil ?_
          rintro wq ⟨pq, hwq⟩
          have hq : Below wr.heap.size wr wq := by rw [hwq]; exact below_regrown _ _ _
          clear hwq pq
          clear r0 r1 r2 r3
          go_wp2
          go_roundw
          case rel => exact ⟨q, by omega, by go_num, hnext, hbel.trans (hq.mono hsz)⟩
          case measure => simp [intOf]

/-- The cells of the array 'met' say who is among the first k. -/
def MetCells (W : World) (B : Nat) (l : List (Int × Int)) (k : Nat) : Prop := ∀ t, t < 8 → W.cell? ⟨B, t, none⟩ = some (.bool (metB l k t)) ∧ W.frozen? ⟨B, t, none⟩ = false
theorem MetCells.later {W W' : World} {B : Nat} {l : List (Int × Int)} {k : Nat} (h : MetCells W B l k) (hB : B < W.heap.size) (hb : Below W.heap.size W W') : MetCells W' B l k :=
  fun t ht => ⟨(hb.cell (p := ⟨B, t, none⟩) hB).trans (h t ht).1, (hb.frozen (p := ⟨B, t, none⟩) hB).trans (h t ht).2⟩
theorem metB_succ (l : List (Int × Int)) (k t : Nat) (hk : k < l.length) : metB l (k + 1) t = (metB l k t || decide ((l.getD k (0, 0)).1 = t)) := by
  unfold metB
  rw [List.take_succ_eq_append_getElem hk, List.any_append]
  simp [hk]
theorem MetCells.set {W : World} {B n : Nat} {l : List (Int × Int)} {k : Nat} (h : MetCells W B l k) (hk : k < l.length) (hn : (l.getD k (0, 0)).1 = n) (hn8 : n < 8) : MetCells (W.setCell ⟨B, n, none⟩ (.bool true)) B l (k + 1) := by
  intro t ht
  rw [metB_succ l k t hk, hn, World.frozen?_setCell]
  refine ⟨?_, (h t ht).2⟩
  by_cases e : t = n
  · subst e
    rw [World.cell?_setCell_same' _ _ _ (by rw [(h t ht).1]; rfl)]
    simp
  · rw [World.cell?_setCell_other _ _ _ _ (by intro he; injection he with _ h2 _; exact e h2.symm), (h t ht).1]
    have : ¬ ((n : Int) = (t : Int)) := by omega
    simp [this]

set_option maxHeartbeats 4000000 in
theorem implOk_any (v : Value) (l : List (Int × Int)) (w : World) (h : Rd w v l) :
    Calls Tryz.prog 110 #[v] w fun e w' => e = .returned (.bool (okL l)) ∧ Below w.heap.size w w' := by
  have hRd := h
  obtain ⟨ao, cap, rfl, hl, hc⟩ := h
  unfold maxLen at hl
  have HRd : Hid (Rd w (.slice ao l.length cap) l) := hRd
  clear hRd
  go_enter Tryz.func110, Tryz.ntmps110
  go_wp2
  go_loopw [8] (fun i wr => ∃ k : Nat, k ≤ l.length ∧ i = .int .i64 k ∧ MetTo l k ∧ MetCells wr w.heap.size l k ∧ Below w.heap.size w wr ∧ w.heap.size < wr.heap.size) (fun i _ => l.length - (intOf i).toNat)
  case atStart =>
    refine ⟨0, Nat.zero_le _, rfl, fun i hi => absurd hi (Nat.not_lt_zero _), fun t ht => ?_, by go_grown, by simp⟩
    rcases (by omega : t = 0 ∨ t = 1 ∨ t = 2 ∨ t = 3 ∨ t = 4 ∨ t = 5 ∨ t = 6 ∨ t = 7) with rfl | rfl | rfl | rfl | rfl | rfl | rfl | rfl <;> simp [go_sem, metB]
  case round =>
    obtain ⟨k, hk, rfl, hmet, hmc, hbel, hB⟩ := hrel
    have HM : Hid (MetTo l k) := hmet
    have HC : Hid (MetCells wr w.heap.size l k) := hmc
    have hsz := hbel.size
    clear hmet hmc
    by_cases hlt : k < l.length
    · obtain ⟨b, o, rfl, hb, hcc⟩ := hc (by omega)
      obtain ⟨c0, c1⟩ := hcc k hlt
      rw [← hbel.cell (p := ⟨b, o + k * 2, none⟩) hb] at c0
      rw [← hbel.cell (p := ⟨b, o + k * 2 + 1, none⟩) hb] at c1
      clear hcc hc
      obtain ⟨x, hx⟩ : ∃ x, l.getD k (0, 0) = x := ⟨_, rfl⟩
      have HX : Hid (l.getD k (0, 0) = x) := hx
      rw [hx] at c0 c1
      clear hx
      by_cases hr : rightB x = true
      · obtain ⟨n, hn⟩ := Int.eq_ofNat_of_zero_le (rightB_iff.1 hr).1
        have hn8 : n < 8 := by have := (rightB_iff.1 hr).2.1; omega
        obtain ⟨xw, xa⟩ := x
        simp only at hn
        subst hn
        have hb1 : ∀ W, Below wr.heap.size wr W → MetCells W w.heap.size l k := fun W hW => HC.out.later hB hW
        have HB : Hid (∀ W, Below wr.heap.size wr W → MetCells W w.heap.size l k) := hb1
        clear hb1
        by_cases hm : metB l k n = true
        · have hfalse : okL l = false := okL_no (fun hg => by
            obtain ⟨i, hi, hw⟩ := (metB_iff (by omega)).1 hm
            have := ((hg k hlt).2 i hi).2
            rw [HX.out] at this
            exact this hw)
          go_wp2_with (first | (go_at_call 115; refine (edgeRight_any _ _ _).mono ?_; rintro e w2 ⟨rfl, hb2⟩; have g0 := (HB.out _ (((Below.refl _ wr).alloc (Nat.le_refl _) _).trans (hb2.mono (by simp)))  n hn8).1; rw [hm] at g0; have g1 := cell_later hb2 (show (wr.alloc (.cells #[.int .i64 (n : Int), .int .i64 xa] 124)).cell? ⟨wr.heap.size, 0, none⟩ = some (.int .i64 (n : Int)) by simp [go_sem])))
          go_ret
          exact ⟨by simp [hfalse], hbel.trans ((((Below.refl _ wr).alloc (Nat.le_refl _) _).trans (hb2.mono (by simp))).mono hsz)⟩
        · have hm : metB l k n = false := by simpa using hm
          have hstep : Hid (MetTo l (k + 1)) := fun i hi => by
            by_cases e : i = k
            · subst e
              refine ⟨by rw [HX.out]; exact hr, fun j hj he => ?_⟩
              rw [HX.out] at he
              have := (metB_iff (k := i) (by omega)).2 ⟨j, hj, he⟩
              rw [hm] at this
              exact absurd this (by decide)
            · exact HM.out i (by omega)
          go_wp2_with (first | (go_at_call 115; refine (edgeRight_any _ _ _).mono ?_; rintro e w2 ⟨rfl, hb2⟩; have g0 := (HB.out _ (((Below.refl _ wr).alloc (Nat.le_refl _) _).trans (hb2.mono (by simp)))  n hn8).1; rw [hm] at g0; have f0 := (HB.out _ (((Below.refl _ wr).alloc (Nat.le_refl _) _).trans (hb2.mono (by simp)))  n hn8).2; have g1 := cell_later hb2 (show (wr.alloc (.cells #[.int .i64 (n : Int), .int .i64 xa] 124)).cell? ⟨wr.heap.size, 0, none⟩ = some (.int .i64 (n : Int)) by simp [go_sem])))
          go_roundw
          case rel => exact ⟨k + 1, by omega, by go_num, hstep, (HB.out _ (((Below.refl _ wr).alloc (Nat.le_refl _) _).trans (hb2.mono (by simp)))).set hlt (by rw [HX.out]) hn8, (hbel.trans ((((Below.refl _ wr).alloc (Nat.le_refl _) _).trans (hb2.mono (by simp))).mono hsz)).setCell (Nat.le_refl _) _, by have := hb2.size; simp at this ⊢; omega⟩
          case measure => simp [intOf]; omega
      · have hfalse : okL l = false := okL_no (fun hg => hr (by have := (hg k hlt).1; rwa [HX.out] at this))
        have hr' : rightB x = false := by simpa using hr
        clear hr
        go_wp2_with (first | (go_at_call 115; refine (edgeRight_any _ _ _).mono ?_; rintro e w2 ⟨rfl, hb2⟩))
        go_ret
        exact ⟨by simp [hfalse], hbel.trans ((((Below.refl _ wr).alloc (Nat.le_refl _) _).trans (hb2.mono (by simp))).mono hsz)⟩
    · have hkl : k = l.length := by omega
      subst hkl
      have hiff : okL l = true ↔ NoInv l := ⟨fun hg i h0 hi => ((okL_iff l).1 hg).sorted h0 hi, fun hs => okL_yes (GoodTo.of_met HM.out hs)⟩
      have HI : Hid (okL l = true ↔ NoInv l) := hiff
      clear hiff
      go_wp2_with fail
      refine (isSorted_any _ l (okL l) HI.out _ (HRd.out.later hbel)).mono ?_
      rintro e w2 ⟨rfl, hb2⟩
      go_wp2
      go_ret
      exact ⟨by simp, hbel.trans (hb2.mono hsz)⟩
end Go.Proofs.YtefhpbcdjgllnaaGreat

/- Part: Keys: what the kind, the person and the part of a key are; contracts of keyRight and of both KeyKind. -/
namespace Go.Proofs.YtefhpbcdjgllnaaGreat
open Go.RowKit

def keyIn (k : Int) : Bool := decide (0 ≤ k ∧ k < 24)
theorem keyIn_yes {k : Int} (h0 : 0 ≤ k) (h1 : k < 24) : keyIn k = true := by simp [keyIn, h0, h1]
theorem keyIn_no {k : Int} (h : ¬ (0 ≤ k ∧ k < 24)) : keyIn k = false := by simp [keyIn]; omega
/-- The kind of a key, whose it is, its part; of no key -1. -/
def kindOf (k : Int) : Int := if 0 ≤ k ∧ k < 24 then k / 8 else -1
def whoOf (k : Int) : Int := if 0 ≤ k ∧ k < 24 then k % 8 else -1
def partOf (k : Int) : Int := if 0 ≤ k ∧ k < 24 then k % 8 % 2 else -1
def keyOf (kind who : Int) : Int := if 0 ≤ kind ∧ kind < 3 ∧ 0 ≤ who ∧ who < 8 then kind * 8 + who else -1
theorem kindOf_in {k : Int} (h0 : 0 ≤ k) (h1 : k < 24) : kindOf k = k / 8 := by simp [kindOf, h0, h1]
theorem kindOf_out {k : Int} (h : ¬ (0 ≤ k ∧ k < 24)) : kindOf k = -1 := by rw [kindOf, if_neg h]
theorem whoOf_in {k : Int} (h0 : 0 ≤ k) (h1 : k < 24) : whoOf k = k % 8 := by simp [whoOf, h0, h1]
theorem whoOf_out {k : Int} (h : ¬ (0 ≤ k ∧ k < 24)) : whoOf k = -1 := by rw [whoOf, if_neg h]
theorem partOf_in {k : Int} (h0 : 0 ≤ k) (h1 : k < 24) : partOf k = k % 8 % 2 := by simp [partOf, h0, h1]
theorem partOf_out {k : Int} (h : ¬ (0 ≤ k ∧ k < 24)) : partOf k = -1 := by rw [partOf, if_neg h]
theorem keyOf_in {a b : Int} (h0 : 0 ≤ a) (h1 : a < 3) (h2 : 0 ≤ b) (h3 : b < 8) : keyOf a b = a * 8 + b := by simp [keyOf, h0, h1, h2, h3]
theorem keyOf_out {a b : Int} (h : ¬ (0 ≤ a ∧ a < 3 ∧ 0 ≤ b ∧ b < 8)) : keyOf a b = -1 := by rw [keyOf, if_neg h]

theorem keyRight_any (k : Int) (w : World) : Calls Tryz.prog 61 #[.int .i64 k] w fun e w' => e = .returned (.bool (keyIn k)) ∧ w' = w := by
  by_cases h : 0 ≤ k ∧ k < 24
  · rw [keyIn_yes h.1 h.2]
    obtain ⟨h0, h1⟩ := h
    go_enter Tryz.func61, Tryz.ntmps61
    go_wp2
    go_ret
    exact ⟨by simp, rfl⟩
  · rw [keyIn_no h]
    by_cases h0 : 0 ≤ k
    · have h1 : ¬ k < 24 := by omega
      clear h
      go_enter Tryz.func61, Tryz.ntmps61
      go_wp2
      go_ret
      exact ⟨by first | (simp; done) | (simp; omega), rfl⟩
    · clear h
      go_enter Tryz.func61, Tryz.ntmps61
      go_wp2
      go_ret
      exact ⟨by first | (simp; done) | (simp; omega), rfl⟩

theorem implKind_any (k : Int) (w : World) : Calls Tryz.prog 109 #[.int .i64 k] w fun e w' => e = .returned (.int .i64 (kindOf k)) ∧ w' = w := by
  by_cases h : 0 ≤ k ∧ k < 24
  · have hk := keyIn_yes h.1 h.2
    rw [kindOf_in h.1 h.2]
    obtain ⟨h0, h1⟩ := h
    go_enter Tryz.func109, Tryz.ntmps109
    go_wp2_with (first | (go_at_call 61; refine (keyRight_any _ _).mono ?_; rintro e w1 ⟨rfl, rfl⟩))
    go_ret
    exact ⟨by first | rfl | go_arith, rfl⟩
  · have hk := keyIn_no h
    rw [kindOf_out h]
    clear h
    go_enter Tryz.func109, Tryz.ntmps109
    go_wp2_with (first | (go_at_call 61; refine (keyRight_any _ _).mono ?_; rintro e w1 ⟨rfl, rfl⟩))
    go_ret
    exact ⟨rfl, rfl⟩

theorem specKind_any (k : Int) (w : World) : Calls Tryz.prog 74 #[.int .i64 k] w fun e w' => e = .returned (.int .i64 (kindOf k)) ∧ w' = w := by
  by_cases h : 0 ≤ k ∧ k < 24
  · rw [kindOf_in h.1 h.2]
    obtain ⟨h0, h1⟩ := h
    go_enter Tryz.func74, Tryz.ntmps74
    go_wp2
    go_ret
    exact ⟨by first | rfl | go_arith, rfl⟩
  · rw [kindOf_out h]
    by_cases h0 : 0 ≤ k
    · have h1 : ¬ k < 24 := by omega
      clear h
      go_enter Tryz.func74, Tryz.ntmps74
      go_wp2
      go_ret
      exact ⟨rfl, rfl⟩
    · clear h
      go_enter Tryz.func74, Tryz.ntmps74
      go_wp2
      go_ret
      exact ⟨rfl, rfl⟩
end Go.Proofs.YtefhpbcdjgllnaaGreat

/- Part: heldBy, the assertion, the methods val: contracts. -/
namespace Go.Proofs.YtefhpbcdjgllnaaGreat
open Go.RowKit
attribute [local go_sem ↓] Go.wp_at_zero Go.wp_at_succ

theorem heldBy_num (k n : Int) (v : Value) (w : World) (hk : kindOf k = 0) :
    Calls Tryz.prog 95 #[.int .i64 k, .agg #[.int .i64 n, v]] w fun e w' => e = .returned (.iface 163 (.int .i64 n)) ∧ Below w.heap.size w w' := by
  go_enter Tryz.func95, Tryz.ntmps95
  go_wp2_with fail
  refine (implKind_any k _).mono ?_
  rintro e w1 ⟨rfl, rfl⟩
  rw [hk]
  go_wp2
  go_ret
  exact ⟨by simp, by go_grown⟩

theorem heldBy_kin (k n : Int) (v : Value) (w : World) (hk : (kindOf k == 0) = false) :
    Calls Tryz.prog 95 #[.int .i64 k, .agg #[.int .i64 n, v]] w fun e w' => e = .returned (.iface 164 v) ∧ Below w.heap.size w w' := by
  go_enter Tryz.func95, Tryz.ntmps95
  go_wp2_with fail
  refine (implKind_any k _).mono ?_
  rintro e w1 ⟨rfl, rfl⟩
  go_wp2
  go_ret
  exact ⟨by simp, by go_grown⟩

theorem assert_num (n : Int) (w : World) : (Instr.typeAssert (.iface 163 (.int .i64 n)) 149 163 true).run Tryz.prog w = .ok (.tuple #[.int .i64 n, .bool true]) w := by kernel_rfl
theorem assert_kin (v : Value) (w : World) : (Instr.typeAssert (.iface 164 v) 149 163 true).run Tryz.prog w = .ok (.tuple #[.int .i64 0, .bool false]) w := by kernel_rfl

theorem numVal_any (n : Int) (w : World) :
    Calls Tryz.prog 137 #[.int .i64 n] w fun e w' => e = .returned (.agg #[.int .i64 n, .slice none 0 0]) ∧ Below w.heap.size w w' := by
  go_enter Tryz.func137, Tryz.ntmps137
  go_wp2
  refine bodyPost_ret (v := .agg #[.int .i64 n, .slice none 0 0]) (by simp [results, Tryz.results137, go_sem]) rfl ⟨rfl, ?_⟩
  go_grown
theorem kinVal_any (ao : Option Addr) (len cap : Nat) (w : World) :
    Calls Tryz.prog 138 #[.slice ao len cap] w fun e w' => e = .returned (.agg #[.int .i64 0, .slice ao len cap]) ∧ Below w.heap.size w w' := by
  go_enter Tryz.func138, Tryz.ntmps138
  go_wp2
  refine bodyPost_ret (v := .agg #[.int .i64 0, .slice ao len cap]) (by simp [results, Tryz.results138, go_sem]) rfl ⟨rfl, ?_⟩
  go_grown

theorem method_num (n : Int) (w : World) : (method 301 163 (.int .i64 n) "loop.example/kith/impl.val").run Tryz.prog w = .ok (137, .int .i64 n) w := by kernel_rfl
theorem method_kin (v : Value) (w : World) : (method 301 164 v "loop.example/kith/impl.val").run Tryz.prog w = .ok (138, v) w := by kernel_rfl
end Go.Proofs.YtefhpbcdjgllnaaGreat

/- Part: heldBy, heldRight, and both ValOk: contracts. -/
namespace Go.Proofs.YtefhpbcdjgllnaaGreat
open Go.RowKit
attribute [local go_sem ↓] Go.wp_at_zero Go.wp_at_succ

/-- Can a key have that? -/
def okV (k n : Int) (l : List (Int × Int)) : Bool :=
  if 0 ≤ k ∧ k < 24 then (if k / 8 = 0 then decide (0 ≤ n ∧ n ≤ 1000000 ∧ l = []) else n == 0 && okL l) else false

theorem heldRight_num (n : Int) (w : World) :
    Calls Tryz.prog 96 #[.iface 163 (.int .i64 n)] w fun e w' => e = .returned (.bool (decide (0 ≤ n ∧ n ≤ 1000000))) ∧ Below w.heap.size w w' := by
  have ha := assert_num n
  go_enter Tryz.func96, Tryz.ntmps96
  go_wp2
  all_goals
    go_ret
    exact ⟨by first | (simp_all; done) | (simp_all; omega), by go_grown⟩

theorem heldRight_kin (v : Value) (l : List (Int × Int)) (w : World) (h : Rd w v l) :
    Calls Tryz.prog 96 #[.iface 164 v] w fun e w' => e = .returned (.bool (okL l)) ∧ Below w.heap.size w w' := by
  obtain ⟨ao, cap, hv, _⟩ := id h
  subst hv
  have ha := assert_kin (.slice ao l.length cap)
  have hfd : ∀ w, (Instr.field 47 (.agg #[.int .i64 0, .slice ao l.length cap]) 1).run Tryz.prog w = .ok (.slice ao l.length cap) w := fun w => by kernel_rfl
  go_enter Tryz.func96, Tryz.ntmps96
  go_wp2_with fail
  refine (kinVal_any ao l.length cap _).mono ?_
  rintro e w1 ⟨rfl, b1⟩
  go_wp2_with fail
  refine (implOk_any _ l _ (h.later (by go_grown))).mono ?_
  rintro e w2 ⟨rfl, b2⟩
  have c2 : Below w.heap.size w w2 := b1.trans (b2.mono b1.size)
  go_wp2
  go_ret
  exact ⟨by simp, c2⟩

theorem heldRight_yes (n : Int) (w : World) (h0 : 0 ≤ n) (h1 : n ≤ 1000000) :
    Calls Tryz.prog 96 #[.iface 163 (.int .i64 n)] w fun e w' => e = .returned (.bool true) ∧ Below w.heap.size w w' :=
  (heldRight_num n w).mono fun _ _ ⟨he, hw⟩ => ⟨by rw [he, decide_eq_true ⟨h0, h1⟩], hw⟩
theorem heldRight_not (n : Int) (w : World) (h : ¬ (0 ≤ n ∧ n ≤ 1000000)) :
    Calls Tryz.prog 96 #[.iface 163 (.int .i64 n)] w fun e w' => e = .returned (.bool false) ∧ Below w.heap.size w w' :=
  (heldRight_num n w).mono fun _ _ ⟨he, hw⟩ => ⟨by rw [he, decide_eq_false h], hw⟩
theorem keyRight_yes (k : Int) (w : World) (h0 : 0 ≤ k) (h1 : k < 24) : Calls Tryz.prog 61 #[.int .i64 k] w fun e w' => e = .returned (.bool true) ∧ Below w.heap.size w w' :=
  (keyRight_any k w).mono fun _ _ ⟨he, hw⟩ => ⟨by rw [he, keyIn_yes h0 h1], by rw [hw]; exact Below.refl _ _⟩
theorem keyRight_no (k : Int) (w : World) (h : ¬ (0 ≤ k ∧ k < 24)) : Calls Tryz.prog 61 #[.int .i64 k] w fun e w' => e = .returned (.bool false) ∧ Below w.heap.size w w' :=
  (keyRight_any k w).mono fun _ _ ⟨he, hw⟩ => ⟨by rw [he, keyIn_no h], by rw [hw]; exact Below.refl _ _⟩

theorem okV_out {k n : Int} {l : List (Int × Int)} (h : ¬ (0 ≤ k ∧ k < 24)) : okV k n l = false := by rw [okV, if_neg h]
theorem okV_numNo {k n : Int} {l : List (Int × Int)} (h0 : 0 ≤ k) (h1 : k < 24) (hk : k / 8 = 0) (h : ¬ (0 ≤ n ∧ n ≤ 1000000)) : okV k n l = false := by
  rw [okV, if_pos ⟨h0, h1⟩, if_pos hk]; exact decide_eq_false (fun x => h ⟨x.1, x.2.1⟩)
theorem okV_num {k n : Int} {l : List (Int × Int)} (h0 : 0 ≤ k) (h1 : k < 24) (hk : k / 8 = 0) (h2 : 0 ≤ n) (h3 : n ≤ 1000000) : okV k n l = eqV n n [] l := by
  rw [okV, if_pos ⟨h0, h1⟩, if_pos hk, eqV_yes]
  simp [h2, h3, eqL, eq_comm]
theorem okV_numD {k n : Int} {l : List (Int × Int)} (h0 : 0 ≤ k) (h1 : k < 24) (hk : k / 8 = 0) (h2 : 0 ≤ n) (h3 : n ≤ 1000000) : okV k n l = ((l.length : Int) == 0) := by
  rw [okV, if_pos ⟨h0, h1⟩, if_pos hk]
  cases l <;> simp [h2, h3]; omega
theorem okV_kin {k n : Int} {l : List (Int × Int)} (h0 : 0 ≤ k) (h1 : k < 24) (hk : ¬ k / 8 = 0) : okV k n l = (n == 0 && okL l) := by
  rw [okV, if_pos ⟨h0, h1⟩, if_neg hk]

theorem heldRight_kinIs (v : Value) (l : List (Int × Int)) (b : Bool) (w : World) (h : Rd w v l) (hb : okL l = b) :
    Calls Tryz.prog 96 #[.iface 164 v] w fun e w' => e = .returned (.bool b) ∧ Below w.heap.size w w' := hb ▸ heldRight_kin v l w h

set_option maxHeartbeats 1000000 in
theorem implOkV_num (k n : Int) (v : Value) (l : List (Int × Int)) (w : World) (h : Rd w v l) (h0 : 0 ≤ k) (h1 : k < 24) (hk : k / 8 = 0) :
    Calls Tryz.prog 60 #[.int .i64 k, .agg #[.int .i64 n, v]] w fun e w' => e = .returned (.bool (okV k n l)) ∧ Below w.heap.size w w' := by
  have hkd : kindOf k = 0 := by rw [kindOf_in h0 h1, hk]
  obtain ⟨ao, cap, hv, _⟩ := id h
  subst hv
  by_cases hn : 0 ≤ n ∧ n ≤ 1000000
  · rw [okV_num h0 h1 hk hn.1 hn.2]
    obtain ⟨hn0, hn1⟩ := hn
    go_enter Tryz.func60, Tryz.ntmps60
    go_wp2_with fail
    refine (heldBy_num k n _ _ hkd).mono ?_
    rintro e w1 ⟨rfl, b1⟩
    have c1 : Below w.heap.size w w1 := (Below.trans (by go_grown) (b1.mono (by first | omega | (simp; done) | (simp; omega))))
    have a0_1 : w1.cell? ⟨w.heap.size, 0, none⟩ = some (.int .i64 n) := (by rw [b1.cell (by first | omega | (simp; done) | (simp; omega))]; go_cell)
    have a1_1 : w1.cell? ⟨w.heap.size, 1, none⟩ = some (.slice ao l.length cap) := (by rw [b1.cell (by first | omega | (simp; done) | (simp; omega))]; go_cell)
    have al_1 : w.heap.size < w1.heap.size := (by have := b1.size; first | omega | (revert this; simp; done) | (revert this; simp; omega))
    clear b1
    have hmt := method_num n
    have hR := hid (h.later c1)
    go_wp2_with fail
    have r0 := cell_regrown a0_1
    have r1 := cell_regrown a1_1
    refine wp_region_quiet_below (by kernel_rfl) (by kernel_rfl) ?_
    repeat (first | go_big_quiet_skip | (go_big_quiet_want; go_big_quiet_op; first | go_big_quiet_on | go_big_quiet_call (first | (go_at_call 61; exact Calls.regrown_of (keyRight_yes _ _ h0 h1)) | (go_at_call 96; exact Calls.regrown_of (heldRight_yes _ _ hn0 hn1)) | (go_at_call 137; exact Calls.regrown_of (numVal_any _ _)) | (go_at_call 64; exact Calls.regrown_of (implVSame_any n n _ _ [] l _ (Rd.nil _ _ _) (hR.out.later (below_regrown _ _ _)))))))
    refine wpQuiet_nil ?_
    rintro wq ⟨pq, hwq⟩
    have hq : Below w1.heap.size w1 wq := by rw [hwq]; exact below_regrown _ _ _
    clear hwq pq
    clear r0 r1
    have cq := c1.trans (hq.mono c1.size)
    go_wp2
    go_ret
    exact ⟨by simp, cq⟩
  · rw [okV_numNo h0 h1 hk hn]
    go_enter Tryz.func60, Tryz.ntmps60
    go_wp2_with fail
    refine (heldBy_num k n _ _ hkd).mono ?_
    rintro e w1 ⟨rfl, b1⟩
    have c1 : Below w.heap.size w w1 := (Below.trans (by go_grown) (b1.mono (by first | omega | (simp; done) | (simp; omega))))
    have a0_1 : w1.cell? ⟨w.heap.size, 0, none⟩ = some (.int .i64 n) := (by rw [b1.cell (by first | omega | (simp; done) | (simp; omega))]; go_cell)
    have a1_1 : w1.cell? ⟨w.heap.size, 1, none⟩ = some (.slice ao l.length cap) := (by rw [b1.cell (by first | omega | (simp; done) | (simp; omega))]; go_cell)
    have al_1 : w.heap.size < w1.heap.size := (by have := b1.size; first | omega | (revert this; simp; done) | (revert this; simp; omega))
    clear b1
    go_wp2_with fail
    have r0 := cell_regrown a0_1
    have r1 := cell_regrown a1_1
    refine wp_region_quiet_below (by kernel_rfl) (by kernel_rfl) ?_
    repeat (first | go_big_quiet_skip | (go_big_quiet_want; go_big_quiet_op; first | go_big_quiet_on | go_big_quiet_call (first | (go_at_call 61; exact Calls.regrown_of (keyRight_yes _ _ h0 h1)) | (go_at_call 96; exact Calls.regrown_of (heldRight_not _ _ hn)))))
    refine wpQuiet_nil ?_
    rintro wq ⟨pq, hwq⟩
    have hq : Below w1.heap.size w1 wq := by rw [hwq]; exact below_regrown _ _ _
    clear hwq pq
    clear r0 r1
    have cq := c1.trans (hq.mono c1.size)
    go_wp2
    go_ret
    exact ⟨by simp, cq⟩

set_option maxHeartbeats 1000000 in
theorem implOkV_kin (k n : Int) (v : Value) (l : List (Int × Int)) (w : World) (h : Rd w v l) (h0 : 0 ≤ k) (h1 : k < 24) (hk : ¬ k / 8 = 0) :
    Calls Tryz.prog 60 #[.int .i64 k, .agg #[.int .i64 n, v]] w fun e w' => e = .returned (.bool (okV k n l)) ∧ Below w.heap.size w w' := by
  have hkd : (kindOf k == 0) = false := by rw [kindOf_in h0 h1]; simpa using hk
  rw [okV_kin h0 h1 hk]
  obtain ⟨ao, cap, hv, _⟩ := id h
  subst hv
  cases hl : okL l with
  | true =>
    have e0 : eqV 0 n l l = (n == 0 && true) := by simp [eqV, eqL_refl, Bool.beq_comm]
    rw [← e0]
    clear e0
    go_enter Tryz.func60, Tryz.ntmps60
    go_wp2_with fail
    refine (heldBy_kin k n _ _ hkd).mono ?_
    rintro e w1 ⟨rfl, b1⟩
    have c1 : Below w.heap.size w w1 := (Below.trans (by go_grown) (b1.mono (by first | omega | (simp; done) | (simp; omega))))
    have a0_1 : w1.cell? ⟨w.heap.size, 0, none⟩ = some (.int .i64 n) := (by rw [b1.cell (by first | omega | (simp; done) | (simp; omega))]; go_cell)
    have a1_1 : w1.cell? ⟨w.heap.size, 1, none⟩ = some (.slice ao l.length cap) := (by rw [b1.cell (by first | omega | (simp; done) | (simp; omega))]; go_cell)
    have al_1 : w.heap.size < w1.heap.size := (by have := b1.size; first | omega | (revert this; simp; done) | (revert this; simp; omega))
    clear b1
    have hmt := method_kin (.slice ao l.length cap)
    have hR := hid (h.later c1)
    go_wp2_with fail
    have r0 := cell_regrown a0_1
    have r1 := cell_regrown a1_1
    refine wp_region_quiet_below (by kernel_rfl) (by kernel_rfl) ?_
    repeat (first | go_big_quiet_skip | (go_big_quiet_want; go_big_quiet_op; first | go_big_quiet_on | go_big_quiet_call (first | (go_at_call 61; exact Calls.regrown_of (keyRight_yes _ _ h0 h1)) | (go_at_call 96; exact Calls.regrown_of (heldRight_kinIs _ l true _ (hR.out.later (below_regrown _ _ _)) hl)) | (go_at_call 138; exact Calls.regrown_of (kinVal_any _ _ _ _)) | (go_at_call 64; exact Calls.regrown_of (implVSame_any 0 n _ _ l l _ (hR.out.later (below_regrown _ _ _)) (hR.out.later (below_regrown _ _ _)))))))
    refine wpQuiet_nil ?_
    rintro wq ⟨pq, hwq⟩
    have hq : Below w1.heap.size w1 wq := by rw [hwq]; exact below_regrown _ _ _
    clear hwq pq
    clear r0 r1
    have cq := c1.trans (hq.mono c1.size)
    go_wp2
    go_ret
    exact ⟨by simp, cq⟩
  | false =>
    rw [Bool.and_false]
    go_enter Tryz.func60, Tryz.ntmps60
    go_wp2_with fail
    refine (heldBy_kin k n _ _ hkd).mono ?_
    rintro e w1 ⟨rfl, b1⟩
    have c1 : Below w.heap.size w w1 := (Below.trans (by go_grown) (b1.mono (by first | omega | (simp; done) | (simp; omega))))
    have a0_1 : w1.cell? ⟨w.heap.size, 0, none⟩ = some (.int .i64 n) := (by rw [b1.cell (by first | omega | (simp; done) | (simp; omega))]; go_cell)
    have a1_1 : w1.cell? ⟨w.heap.size, 1, none⟩ = some (.slice ao l.length cap) := (by rw [b1.cell (by first | omega | (simp; done) | (simp; omega))]; go_cell)
    have al_1 : w.heap.size < w1.heap.size := (by have := b1.size; first | omega | (revert this; simp; done) | (revert this; simp; omega))
    clear b1
    have hR := hid (h.later c1)
    go_wp2_with fail
    have r0 := cell_regrown a0_1
    have r1 := cell_regrown a1_1
    refine wp_region_quiet_below (by kernel_rfl) (by kernel_rfl) ?_
    repeat (first | go_big_quiet_skip | (go_big_quiet_want; go_big_quiet_op; first | go_big_quiet_on | go_big_quiet_call (first | (go_at_call 61; exact Calls.regrown_of (keyRight_yes _ _ h0 h1)) | (go_at_call 96; exact Calls.regrown_of (heldRight_kinIs _ l false _ (hR.out.later (below_regrown _ _ _)) hl)))))
    refine wpQuiet_nil ?_
    rintro wq ⟨pq, hwq⟩
    have hq : Below w1.heap.size w1 wq := by rw [hwq]; exact below_regrown _ _ _
    clear hwq pq
    clear r0 r1
    have cq := c1.trans (hq.mono c1.size)
    go_wp2
    go_ret
    exact ⟨by simp, cq⟩

theorem implOkV_out (k n : Int) (v : Value) (l : List (Int × Int)) (w : World) (h : Rd w v l) (hk : ¬ (0 ≤ k ∧ k < 24)) :
    Calls Tryz.prog 60 #[.int .i64 k, .agg #[.int .i64 n, v]] w fun e w' => e = .returned (.bool (okV k n l)) ∧ Below w.heap.size w w' := by
  have hkd : (kindOf k == 0) = false := by rw [kindOf_out hk]; decide
  rw [okV_out hk]
  obtain ⟨ao, cap, hv, _⟩ := id h
  subst hv
  go_enter Tryz.func60, Tryz.ntmps60
  go_wp2_with fail
  refine (heldBy_kin k n _ _ hkd).mono ?_
  rintro e w1 ⟨rfl, b1⟩
  have c1 : Below w.heap.size w w1 := (Below.trans (by go_grown) (b1.mono (by first | omega | (simp; done) | (simp; omega))))
  have a0_1 : w1.cell? ⟨w.heap.size, 0, none⟩ = some (.int .i64 n) := (by rw [b1.cell (by first | omega | (simp; done) | (simp; omega))]; go_cell)
  have a1_1 : w1.cell? ⟨w.heap.size, 1, none⟩ = some (.slice ao l.length cap) := (by rw [b1.cell (by first | omega | (simp; done) | (simp; omega))]; go_cell)
  have al_1 : w.heap.size < w1.heap.size := (by have := b1.size; first | omega | (revert this; simp; done) | (revert this; simp; omega))
  clear b1
  go_wp2_with fail
  have r0 := cell_regrown a0_1
  have r1 := cell_regrown a1_1
  refine wp_region_quiet_below (by kernel_rfl) (by kernel_rfl) ?_
  repeat (first | go_big_quiet_skip | (go_big_quiet_want; go_big_quiet_op; first | go_big_quiet_on | go_big_quiet_call (first | (go_at_call 61; exact Calls.regrown_of (keyRight_no _ _ hk)))))
  refine wpQuiet_nil ?_
  rintro wq ⟨pq, hwq⟩
  have hq : Below w1.heap.size w1 wq := by rw [hwq]; exact below_regrown _ _ _
  clear hwq pq
  clear r0 r1
  have cq := c1.trans (hq.mono c1.size)
  go_wp2
  go_ret
  exact ⟨by simp, cq⟩

theorem implOkV_any (k n : Int) (v : Value) (l : List (Int × Int)) (w : World) (h : Rd w v l) :
    Calls Tryz.prog 60 #[.int .i64 k, .agg #[.int .i64 n, v]] w fun e w' => e = .returned (.bool (okV k n l)) ∧ Below w.heap.size w w' := by
  by_cases hin : 0 ≤ k ∧ k < 24
  · by_cases hk : k / 8 = 0
    · exact implOkV_num k n v l w h hin.1 hin.2 hk
    · exact implOkV_kin k n v l w h hin.1 hin.2 hk
  · exact implOkV_out k n v l w h hin

set_option maxHeartbeats 1000000 in
theorem specOkV_any (k n : Int) (v : Value) (l : List (Int × Int)) (w : World) (h : Rd w v l) :
    Calls Tryz.prog 45 #[.int .i64 k, .agg #[.int .i64 n, v]] w fun e w' => e = .returned (.bool (okV k n l)) ∧ Below w.heap.size w w' := by
  obtain ⟨ao, cap, hv, hml, _⟩ := id h
  subst hv
  by_cases hin : 0 ≤ k ∧ k < 24
  · by_cases hk : k / 8 = 0
    · have hkd : kindOf k = 0 := by rw [kindOf_in hin.1 hin.2, hk]
      by_cases hn : 0 ≤ n ∧ n ≤ 1000000
      · rw [okV_numD hin.1 hin.2 hk hn.1 hn.2]
        obtain ⟨hn0, hn1⟩ := hn
        go_enter Tryz.func45, Tryz.ntmps45
        go_wp2_with fail
        refine (specKind_any k _).mono ?_
        rintro e w1 ⟨rfl, rfl⟩
        rw [hkd]
        go_wp2_with fail
        all_goals
          go_ret
          exact ⟨by first | rfl | simp, by go_grown⟩
      · rw [okV_numNo hin.1 hin.2 hk hn]
        go_enter Tryz.func45, Tryz.ntmps45
        go_wp2_with fail
        refine (specKind_any k _).mono ?_
        rintro e w1 ⟨rfl, rfl⟩
        rw [hkd]
        go_wp2_with fail
        all_goals
          first
            | (go_ret; exact ⟨by first | rfl | simp, by go_grown⟩)
            | (exfalso; omega)
    · rw [okV_kin hin.1 hin.2 hk]
      obtain ⟨q, hq⟩ : ∃ q, kindOf k = q := ⟨_, rfl⟩
      have hq1 : q = 1 ∨ q = 2 := by rw [← hq, kindOf_in hin.1 hin.2]; omega
      clear hk
      by_cases hn : n = 0
      · subst hn
        rw [show ((0 : Int) == 0 && okL l) = okL l from by simp]
        go_enter Tryz.func45, Tryz.ntmps45
        go_wp2_with fail
        refine (specKind_any k _).mono ?_
        rintro e w1 ⟨rfl, rfl⟩
        rw [hq]
        clear hq
        rcases hq1 with rfl | rfl
        all_goals
          go_wp2_with fail
          refine (specOk_any _ l _ (h.later (by go_grown))).mono ?_
          rintro e w2 ⟨rfl, b2⟩
          have c2 : Below w.heap.size w w2 := (Below.trans (by go_grown) (b2.mono (by first | omega | (simp; done) | (simp; omega))))
          go_wp2
          go_ret
          exact ⟨by simp, c2⟩
      · have hn' : (n == 0) = false := by simpa using hn
        rw [show (n == 0 && okL l) = false from by rw [hn', Bool.false_and]]
        go_enter Tryz.func45, Tryz.ntmps45
        go_wp2_with fail
        refine (specKind_any k _).mono ?_
        rintro e w1 ⟨rfl, rfl⟩
        rw [hq]
        clear hq
        rcases hq1 with rfl | rfl
        all_goals
          go_wp2_with fail
          go_ret
          exact ⟨by first | rfl | simp, by go_grown⟩
  · rw [okV_out hin]
    have hq := kindOf_out hin
    clear hin
    go_enter Tryz.func45, Tryz.ntmps45
    go_wp2_with fail
    refine (specKind_any k _).mono ?_
    rintro e w1 ⟨rfl, rfl⟩
    rw [hq]
    go_wp2_with fail
    go_ret
    exact ⟨by first | rfl | simp, by go_grown⟩
theorem okV_le {k n : Int} {l : List (Int × Int)} (h : okV k n l = true) : l.length ≤ 8 := by
  by_cases hk : 0 ≤ k ∧ k < 24
  · by_cases h8 : k / 8 = 0
    · by_cases hn : 0 ≤ n ∧ n ≤ 1000000
      · rw [okV_numD hk.1 hk.2 h8 hn.1 hn.2] at h
        have : (l.length : Int) = 0 := by simpa using h
        omega
      · rw [okV_numNo hk.1 hk.2 h8 hn] at h; cases h
    · rw [okV_kin hk.1 hk.2 h8, Bool.and_eq_true] at h
      exact okL_le h.2
  · rw [okV_out hk] at h; cases h
end Go.Proofs.YtefhpbcdjgllnaaGreat
