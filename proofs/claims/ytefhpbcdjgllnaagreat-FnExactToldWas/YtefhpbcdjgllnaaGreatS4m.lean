/- What parts of a shard are in order: compareDones, compareIntents, compareSeen, ascends, doneRight: contracts. Written by a program (gsm.py). -/
import Derived.Test.YtefhpbcdjgllnaaGreatYa
import Derived.Test.YtefhpbcdjgllnaaGreatGrA
import Derived.Test.YtefhpbcdjgllnaaGreatGrC
import Derived.Deep.RegionHeld3
import Derived.BigQuiet
import Derived.Lib.QuietBelow
namespace Go.Proofs.YtefhpbcdjgllnaaGreat
open Go.RowKit
attribute [local go_sem ↓] Go.wp_at_zero Go.wp_at_succ

/-- Each is behind the one ahead of it. -/
def AscTo (lt : Nat → Nat → Bool) (n : Nat) : Prop := ∀ i, i < n → 0 < i → lt (i - 1) i = true
instance (lt : Nat → Nat → Bool) (n : Nat) : Decidable (AscTo lt n) := inferInstanceAs (Decidable (∀ i, i < n → 0 < i → lt (i - 1) i = true))
def ascB (lt : Nat → Nat → Bool) (n : Nat) : Bool := decide (AscTo lt n)
def ltD (L : List KD) (i j : Nat) : Bool := decide (colK L i 0 < colK L j 0)
def ltS (L : List KD) (i j : Nat) : Bool := decide (colK L i 0 < colK L j 0 ∨ colK L i 0 = colK L j 0 ∧ colK L i 1 < colK L j 1)
theorem AscTo.more {lt : Nat → Nat → Bool} {k : Nat} (h : AscTo lt k) (hk : lt (k - 1) k = true) : AscTo lt (k + 1) := by
  intro i hi h0
  by_cases e : i = k
  · rw [e]; exact hk
  · exact h i (by omega) h0
theorem ascB_no {lt : Nat → Nat → Bool} {n k : Nat} (hk : k < n) (h0 : 0 < k) (h : ¬ lt (k - 1) k = true) : ascB lt n = false := decide_eq_false (fun q => h (q k hk h0))
theorem cmpI_lt {a b : Int} : cmpI a b < 0 ↔ a < b := by
  unfold cmpI
  split
  · simp [*]
  · split <;> simp <;> omega
theorem cmpI_zero {a b : Int} : cmpI a b = 0 ↔ a = b := by
  unfold cmpI
  split
  · simp; omega
  · split <;> simp <;> omega
theorem orI_lt {a b c d : Int} : orI (cmpI a b) (cmpI c d) < 0 ↔ a < b ∨ a = b ∧ c < d := by
  unfold orI
  by_cases h : cmpI a b = 0
  · have e := cmpI_zero.1 h
    rw [if_neg (by simp [h]), cmpI_lt]
    omega
  · rw [if_pos h, cmpI_lt]
    have e : ¬ a = b := fun q => h (cmpI_zero.2 q)
    omega
theorem compareDones_any (x0 x1 x2 x3 x4 x5 y0 y1 y2 y3 y4 y5 : Int) (w : World) : Calls Tryz.prog 88 #[.agg #[.int .i64 x0, .int .i64 x1, .int .i64 x2, .int .i64 x3, .int .i64 x4, .int .i64 x5], .agg #[.int .i64 y0, .int .i64 y1, .int .i64 y2, .int .i64 y3, .int .i64 y4, .int .i64 y5]] w fun e w' => e = .returned (.int .i64 (cmpI x0 y0)) ∧ Below w.heap.size w w' := by
  go_enter Tryz.func88, Tryz.ntmps88
  go_wp2_with fail
  refine (compare_any _ _ _).mono ?_
  rintro e w' ⟨rfl, rfl⟩
  go_wp2
  go_ret
  exact ⟨by simp, by go_grown⟩
theorem compareIntents_any (x0 x1 x2 x3 x4 y0 y1 y2 y3 y4 : Int) (w : World) : Calls Tryz.prog 91 #[.agg #[.int .i64 x0, .int .i64 x1, .int .i64 x2, .int .i64 x3, .int .i64 x4], .agg #[.int .i64 y0, .int .i64 y1, .int .i64 y2, .int .i64 y3, .int .i64 y4]] w fun e w' => e = .returned (.int .i64 (cmpI x0 y0)) ∧ Below w.heap.size w w' := by
  go_enter Tryz.func91, Tryz.ntmps91
  go_wp2_with fail
  refine (compare_any _ _ _).mono ?_
  rintro e w' ⟨rfl, rfl⟩
  go_wp2
  go_ret
  exact ⟨by simp, by go_grown⟩
set_option maxHeartbeats 1000000 in
theorem compareSeen_any (a b x c d y : Int) (w : World) :
    Calls Tryz.prog 94 #[.agg #[.int .i64 a, .int .i64 b, .int .i64 x], .agg #[.int .i64 c, .int .i64 d, .int .i64 y]] w fun e w' => e = .returned (.int .i64 (orI (cmpI a c) (cmpI b d))) ∧ Below w.heap.size w w' := by
  go_enter Tryz.func94, Tryz.ntmps94
  go_wp2
  go_region_held3 (fun w' => w'.cell? ⟨w.heap.size, 0, none⟩ = some (.int .i64 a) ∧ w'.cell? ⟨w.heap.size, 1, none⟩ = some (.int .i64 b) ∧ w'.cell? ⟨w.heap.size + 1, 0, none⟩ = some (.int .i64 c) ∧ w'.cell? ⟨w.heap.size + 1, 1, none⟩ = some (.int .i64 d)) (simp [go_sem, World.cell?_alloc_past]) (first | (go_at_call 106; refine (compare_any _ _ _).mono ?_; rintro e w' ⟨rfl, rfl⟩) | (go_at_call 108; refine (or_any _ (cmpI a c) (cmpI b d) _ (by simp [go_sem]) (by simp [go_sem])).mono ?_; rintro e w' ⟨rfl, rfl⟩))
  go_wp2
  go_ret
  exact ⟨by simp, by go_grown⟩
set_option maxRecDepth 100000 in
set_option maxHeartbeats 4000000 in
theorem ascDone_any (v : Value) (L : List KD) (w : World) (h : RdM 6 6 false w v L) :
    Calls Tryz.prog 87 #[v, .func (.func 88) #[] #[]] w fun e w' => e = .returned (.bool (ascB (ltD L) L.length)) ∧ Below w.heap.size w w' := by
  obtain ⟨ao, cap, rfl, hl, hc⟩ := h
  unfold maxLen at hl
  have HC := hid hc
  clear hc
  go_enter Tryz.func87, Tryz.ntmps87
  go_wp2
  go_loopw [5] (fun i wr => ∃ k : Nat, 1 ≤ k ∧ (k ≤ L.length ∨ k = 1) ∧ i = .int .i64 k ∧ Hid (AscTo (ltD L) k) ∧ Hid (Below w.heap.size w wr)) (fun i _ => L.length - (intOf i).toNat)
  case atStart => exact ⟨1, Nat.le_refl _, .inr rfl, rfl, hid (fun i hi h0 => by omega), hid (Below.refl _ _)⟩
  case round =>
    obtain ⟨k, hk1, hk, rfl, hpre, hbel⟩ := hrel
    obtain ⟨w50, hw50⟩ : ∃ y, y = wr := ⟨_, rfl⟩
    subst hw50
    have c50 := hbel.out
    by_cases hlt : k < L.length
    · obtain ⟨b, o, rfl, hb, hcc⟩ := HC.out (by omega)
      obtain ⟨q, hqk⟩ : ∃ q, q + 1 = k := ⟨k - 1, by omega⟩
      obtain ⟨x0, x1, x2, x3, x4, x5, hx, e0, e1, e2, e3, e4, e5⟩ := atK_6n ((hcc q (by omega)).later hb c50)
      obtain ⟨y0, y1, y2, y3, y4, y5, hy, f0, f1, f2, f3, f4, f5⟩ := atK_6n ((hcc k hlt).later hb c50)
      have hki : (k : Int) < (L.length : Int) := by omega
      have hqi : (q : Int) < (L.length : Int) := by omega
      have hq1 : (k : Int) - 1 = (q : Int) := by omega
      have HK1 := hid (And.intro hk1 hlt)
      have HLT : Hid (ltD L (k - 1) k = true ↔ cmpI x0 y0 < 0) := hid (by
        rw [show k - 1 = q from by omega, ltD, decide_eq_true_iff]
        simp only [colK, hx, hy]
        exact cmpI_lt.symm)
      clear hx hy hcc hqk hk1 hlt hk
      have re0 := cell_regrown e0
      have rf0 := cell_regrown f0
      have re1 := cell_regrown e1
      have rf1 := cell_regrown f1
      have re2 := cell_regrown e2
      have rf2 := cell_regrown f2
      have re3 := cell_regrown e3
      have rf3 := cell_regrown f3
      have re4 := cell_regrown e4
      have rf4 := cell_regrown f4
      have re5 := cell_regrown e5
      have rf5 := cell_regrown f5
      by_cases hc : cmpI x0 y0 < 0
      · have g1 : decide (cmpI x0 y0 ≥ 0) = false := by simp only [decide_eq_false_iff_not]; omega
        have HM := hid (hpre.out.more (HLT.out.2 hc))
        go_wp2_with fail
        refine wp_region_quiet_below (by kernel_rfl) (by kernel_rfl) ?_
        repeat (first | go_big_quiet_skip | (go_big_quiet_want; go_big_quiet_op; first | go_big_quiet_on | go_big_quiet_call (first | (go_at_call 88; exact Calls.regrown_of (compareDones_any x0 x1 x2 x3 x4 x5 y0 y1 y2 y3 y4 y5 _)))))
        refine wpQuiet_nil ?_
        rintro wq ⟨pq, hwq⟩
        have hq : Below w50.heap.size w50 wq := by rw [hwq]; exact below_regrown _ _ _
        clear hwq pq
        have HQ := hid (c50.trans (hq.mono c50.size))
        go_wp2_with fail
        go_roundw
        case rel => exact ⟨k + 1, by omega, .inl (by have := HK1.out; omega), by go_num, HM, HQ⟩
        case measure =>
          have := HK1.out
          simp [intOf]
          omega
      · have g1 : decide (cmpI x0 y0 ≥ 0) = true := by simp only [decide_eq_true_eq]; omega
        have hno := ascB_no HK1.out.2 HK1.out.1 (fun z => hc (HLT.out.1 z))
        go_wp2_with fail
        refine wp_region_quiet_below (by kernel_rfl) (by kernel_rfl) ?_
        repeat (first | go_big_quiet_skip | (go_big_quiet_want; go_big_quiet_op; first | go_big_quiet_on | go_big_quiet_call (first | (go_at_call 88; exact Calls.regrown_of (compareDones_any x0 x1 x2 x3 x4 x5 y0 y1 y2 y3 y4 y5 _)))))
        refine wpQuiet_nil ?_
        rintro wq ⟨pq, hwq⟩
        have hq : Below w50.heap.size w50 wq := by rw [hwq]; exact below_regrown _ _ _
        clear hwq pq
        have cq := c50.trans (hq.mono c50.size)
        go_wp2
        go_ret
        exact ⟨by simp [hno], cq⟩
    · have hall : ascB (ltD L) L.length = true := decide_eq_true (fun i hi h0 => hpre.out i (by omega) h0)
      have hki : ¬ (k : Int) < (L.length : Int) := by omega
      go_wp2
      go_ret
      exact ⟨by simp, c50⟩
set_option maxRecDepth 100000 in
set_option maxHeartbeats 4000000 in
theorem ascIntent_any (v : Value) (L : List KD) (w : World) (h : RdM 5 5 false w v L) :
    Calls Tryz.prog 90 #[v, .func (.func 91) #[] #[]] w fun e w' => e = .returned (.bool (ascB (ltD L) L.length)) ∧ Below w.heap.size w w' := by
  obtain ⟨ao, cap, rfl, hl, hc⟩ := h
  unfold maxLen at hl
  have HC := hid hc
  clear hc
  go_enter Tryz.func90, Tryz.ntmps90
  go_wp2
  go_loopw [5] (fun i wr => ∃ k : Nat, 1 ≤ k ∧ (k ≤ L.length ∨ k = 1) ∧ i = .int .i64 k ∧ Hid (AscTo (ltD L) k) ∧ Hid (Below w.heap.size w wr)) (fun i _ => L.length - (intOf i).toNat)
  case atStart => exact ⟨1, Nat.le_refl _, .inr rfl, rfl, hid (fun i hi h0 => by omega), hid (Below.refl _ _)⟩
  case round =>
    obtain ⟨k, hk1, hk, rfl, hpre, hbel⟩ := hrel
    obtain ⟨w50, hw50⟩ : ∃ y, y = wr := ⟨_, rfl⟩
    subst hw50
    have c50 := hbel.out
    by_cases hlt : k < L.length
    · obtain ⟨b, o, rfl, hb, hcc⟩ := HC.out (by omega)
      obtain ⟨q, hqk⟩ : ∃ q, q + 1 = k := ⟨k - 1, by omega⟩
      obtain ⟨x0, x1, x2, x3, x4, hx, e0, e1, e2, e3, e4⟩ := atK_5n ((hcc q (by omega)).later hb c50)
      obtain ⟨y0, y1, y2, y3, y4, hy, f0, f1, f2, f3, f4⟩ := atK_5n ((hcc k hlt).later hb c50)
      have hki : (k : Int) < (L.length : Int) := by omega
      have hqi : (q : Int) < (L.length : Int) := by omega
      have hq1 : (k : Int) - 1 = (q : Int) := by omega
      have HK1 := hid (And.intro hk1 hlt)
      have HLT : Hid (ltD L (k - 1) k = true ↔ cmpI x0 y0 < 0) := hid (by
        rw [show k - 1 = q from by omega, ltD, decide_eq_true_iff]
        simp only [colK, hx, hy]
        exact cmpI_lt.symm)
      clear hx hy hcc hqk hk1 hlt hk
      have re0 := cell_regrown e0
      have rf0 := cell_regrown f0
      have re1 := cell_regrown e1
      have rf1 := cell_regrown f1
      have re2 := cell_regrown e2
      have rf2 := cell_regrown f2
      have re3 := cell_regrown e3
      have rf3 := cell_regrown f3
      have re4 := cell_regrown e4
      have rf4 := cell_regrown f4
      by_cases hc : cmpI x0 y0 < 0
      · have g1 : decide (cmpI x0 y0 ≥ 0) = false := by simp only [decide_eq_false_iff_not]; omega
        have HM := hid (hpre.out.more (HLT.out.2 hc))
        go_wp2_with fail
        refine wp_region_quiet_below (by kernel_rfl) (by kernel_rfl) ?_
        repeat (first | go_big_quiet_skip | (go_big_quiet_want; go_big_quiet_op; first | go_big_quiet_on | go_big_quiet_call (first | (go_at_call 91; exact Calls.regrown_of (compareIntents_any x0 x1 x2 x3 x4 y0 y1 y2 y3 y4 _)))))
        refine wpQuiet_nil ?_
        rintro wq ⟨pq, hwq⟩
        have hq : Below w50.heap.size w50 wq := by rw [hwq]; exact below_regrown _ _ _
        clear hwq pq
        have HQ := hid (c50.trans (hq.mono c50.size))
        go_wp2_with fail
        go_roundw
        case rel => exact ⟨k + 1, by omega, .inl (by have := HK1.out; omega), by go_num, HM, HQ⟩
        case measure =>
          have := HK1.out
          simp [intOf]
          omega
      · have g1 : decide (cmpI x0 y0 ≥ 0) = true := by simp only [decide_eq_true_eq]; omega
        have hno := ascB_no HK1.out.2 HK1.out.1 (fun z => hc (HLT.out.1 z))
        go_wp2_with fail
        refine wp_region_quiet_below (by kernel_rfl) (by kernel_rfl) ?_
        repeat (first | go_big_quiet_skip | (go_big_quiet_want; go_big_quiet_op; first | go_big_quiet_on | go_big_quiet_call (first | (go_at_call 91; exact Calls.regrown_of (compareIntents_any x0 x1 x2 x3 x4 y0 y1 y2 y3 y4 _)))))
        refine wpQuiet_nil ?_
        rintro wq ⟨pq, hwq⟩
        have hq : Below w50.heap.size w50 wq := by rw [hwq]; exact below_regrown _ _ _
        clear hwq pq
        have cq := c50.trans (hq.mono c50.size)
        go_wp2
        go_ret
        exact ⟨by simp [hno], cq⟩
    · have hall : ascB (ltD L) L.length = true := decide_eq_true (fun i hi h0 => hpre.out i (by omega) h0)
      have hki : ¬ (k : Int) < (L.length : Int) := by omega
      go_wp2
      go_ret
      exact ⟨by simp, c50⟩
set_option maxRecDepth 100000 in
set_option maxHeartbeats 4000000 in
theorem ascSeen_any (v : Value) (L : List KD) (w : World) (h : RdM 3 3 false w v L) :
    Calls Tryz.prog 93 #[v, .func (.func 94) #[] #[]] w fun e w' => e = .returned (.bool (ascB (ltS L) L.length)) ∧ Below w.heap.size w w' := by
  obtain ⟨ao, cap, rfl, hl, hc⟩ := h
  unfold maxLen at hl
  have HC := hid hc
  clear hc
  go_enter Tryz.func93, Tryz.ntmps93
  go_wp2
  go_loopw [5] (fun i wr => ∃ k : Nat, 1 ≤ k ∧ (k ≤ L.length ∨ k = 1) ∧ i = .int .i64 k ∧ Hid (AscTo (ltS L) k) ∧ Hid (Below w.heap.size w wr)) (fun i _ => L.length - (intOf i).toNat)
  case atStart => exact ⟨1, Nat.le_refl _, .inr rfl, rfl, hid (fun i hi h0 => by omega), hid (Below.refl _ _)⟩
  case round =>
    obtain ⟨k, hk1, hk, rfl, hpre, hbel⟩ := hrel
    obtain ⟨w50, hw50⟩ : ∃ y, y = wr := ⟨_, rfl⟩
    subst hw50
    have c50 := hbel.out
    by_cases hlt : k < L.length
    · obtain ⟨b, o, rfl, hb, hcc⟩ := HC.out (by omega)
      obtain ⟨q, hqk⟩ : ∃ q, q + 1 = k := ⟨k - 1, by omega⟩
      obtain ⟨x0, x1, x2, hx, e0, e1, e2⟩ := atK_3n ((hcc q (by omega)).later hb c50)
      obtain ⟨y0, y1, y2, hy, f0, f1, f2⟩ := atK_3n ((hcc k hlt).later hb c50)
      have hki : (k : Int) < (L.length : Int) := by omega
      have hqi : (q : Int) < (L.length : Int) := by omega
      have hq1 : (k : Int) - 1 = (q : Int) := by omega
      have HK1 := hid (And.intro hk1 hlt)
      have HLT : Hid (ltS L (k - 1) k = true ↔ orI (cmpI x0 y0) (cmpI x1 y1) < 0) := hid (by
        rw [show k - 1 = q from by omega, ltS, decide_eq_true_iff]
        simp only [colK, hx, hy]
        exact orI_lt.symm)
      clear hx hy hcc hqk hk1 hlt hk
      have re0 := cell_regrown e0
      have rf0 := cell_regrown f0
      have re1 := cell_regrown e1
      have rf1 := cell_regrown f1
      have re2 := cell_regrown e2
      have rf2 := cell_regrown f2
      by_cases hc : orI (cmpI x0 y0) (cmpI x1 y1) < 0
      · have g1 : decide (orI (cmpI x0 y0) (cmpI x1 y1) ≥ 0) = false := by simp only [decide_eq_false_iff_not]; omega
        have HM := hid (hpre.out.more (HLT.out.2 hc))
        go_wp2_with fail
        refine wp_region_quiet_below (by kernel_rfl) (by kernel_rfl) ?_
        repeat (first | go_big_quiet_skip | (go_big_quiet_want; go_big_quiet_op; first | go_big_quiet_on | go_big_quiet_call (first | (go_at_call 94; exact Calls.regrown_of (compareSeen_any x0 x1 x2 y0 y1 y2 _)))))
        refine wpQuiet_nil ?_
        rintro wq ⟨pq, hwq⟩
        have hq : Below w50.heap.size w50 wq := by rw [hwq]; exact below_regrown _ _ _
        clear hwq pq
        have HQ := hid (c50.trans (hq.mono c50.size))
        go_wp2_with fail
        go_roundw
        case rel => exact ⟨k + 1, by omega, .inl (by have := HK1.out; omega), by go_num, HM, HQ⟩
        case measure =>
          have := HK1.out
          simp [intOf]
          omega
      · have g1 : decide (orI (cmpI x0 y0) (cmpI x1 y1) ≥ 0) = true := by simp only [decide_eq_true_eq]; omega
        have hno := ascB_no HK1.out.2 HK1.out.1 (fun z => hc (HLT.out.1 z))
        go_wp2_with fail
        refine wp_region_quiet_below (by kernel_rfl) (by kernel_rfl) ?_
        repeat (first | go_big_quiet_skip | (go_big_quiet_want; go_big_quiet_op; first | go_big_quiet_on | go_big_quiet_call (first | (go_at_call 94; exact Calls.regrown_of (compareSeen_any x0 x1 x2 y0 y1 y2 _)))))
        refine wpQuiet_nil ?_
        rintro wq ⟨pq, hwq⟩
        have hq : Below w50.heap.size w50 wq := by rw [hwq]; exact below_regrown _ _ _
        clear hwq pq
        have cq := c50.trans (hq.mono c50.size)
        go_wp2
        go_ret
        exact ⟨by simp [hno], cq⟩
    · have hall : ascB (ltS L) L.length = true := decide_eq_true (fun i hi h0 => hpre.out i (by omega) h0)
      have hki : ¬ (k : Int) < (L.length : Int) := by omega
      go_wp2
      go_ret
      exact ⟨by simp, c50⟩
def doneR (d4 d5 ver : Int) : Bool := decide ((d5 = 0 ∨ d5 = 3) ∧ (d5 = 0 → 1 ≤ d4) ∧ 0 ≤ d4 ∧ d4 ≤ ver)
theorem doneRight_any (d0 d1 d2 d3 d4 d5 ver : Int) (w : World) : Calls Tryz.prog 86 #[.agg #[.int .i64 d0, .int .i64 d1, .int .i64 d2, .int .i64 d3, .int .i64 d4, .int .i64 d5], .int .i64 ver] w fun e w' => e = .returned (.bool (doneR d4 d5 ver)) ∧ Below w.heap.size w w' := by
  go_enter Tryz.func86, Tryz.ntmps86
  go_wp2
  all_goals
    go_ret
    exact ⟨by first | (simp_all [doneR]; done) | (simp_all [doneR]; omega), by go_grown⟩
end Go.Proofs.YtefhpbcdjgllnaaGreat
