/- spec.l5Item, spec.ToldWas: contract. Written by a program (gtw.py). -/
import Derived.Test.YtefhpbcdjgllnaaGreatT0p
import Derived.Test.YtefhpbcdjgllnaaGreatS4q
import Derived.Deep.Cut
namespace Go.Proofs.YtefhpbcdjgllnaaGreat
open Go.RowKit
attribute [local go_sem ↓] Go.wp_at_zero Go.wp_at_succ

set_option maxHeartbeats 1000000 in
theorem l5Item_b (k p1 n : Int) (u : Value) (l : List (Int × Int)) (w : World) (h : Rd w u l) :
    Calls Tryz.prog 19 #[.agg #[.int .i64 k, .int .i64 p1, .int .i64 n, u]] w fun e w' => e = .returned (.bool (itemB k p1 n l)) ∧ Below w.heap.size w w' := by
  have H := hid h
  obtain ⟨uo, uc, rfl, _⟩ := h
  go_enter Tryz.func19, Tryz.ntmps19
  by_cases h0 : 0 ≤ p1
  case neg =>
    have hno : itemB k p1 n l = false := by rw [itemB, decide_eq_false (fun z => h0 z.1), Bool.false_and]
    have g0 : decide (p1 ≥ 0) = false := by simp; omega
    go_wp2
    go_ret
    exact ⟨by first | (simp; done) | simp [hno], by go_grown⟩
  have g0 : decide (p1 ≥ 0) = true := by simp; omega
  by_cases h1 : p1 ≤ 60
  case neg =>
    have hno : itemB k p1 n l = false := by rw [itemB, decide_eq_false (fun z => h1 z.2), Bool.false_and]
    have g1 : decide (p1 ≤ 60) = false := by simp; omega
    go_wp2
    go_ret
    exact ⟨by first | (simp; done) | simp [hno], by go_grown⟩
  have g1 : decide (p1 ≤ 60) = true := by simp; omega
  have hyes : itemB k p1 n l = okV k n l := by rw [itemB, decide_eq_true (And.intro h0 h1), Bool.true_and]
  have HY := hid hyes
  clear hyes
  go_wp2_with fail
  generalize hW1 : (w.alloc (.cells #[.int .i64 k, .int .i64 p1, .int .i64 n, .slice uo l.length uc] 49)) = w1
  have a0_1 : w1.cell? ⟨w.heap.size, 0, none⟩ = some (.int .i64 k) := by subst hW1; go_cell
  have a1_1 : w1.cell? ⟨w.heap.size, 1, none⟩ = some (.int .i64 p1) := by subst hW1; go_cell
  have a2_1 : w1.cell? ⟨w.heap.size, 2, none⟩ = some (.int .i64 n) := by subst hW1; go_cell
  have a3_1 : w1.cell? ⟨w.heap.size, 3, none⟩ = some (.slice uo l.length uc) := by subst hW1; go_cell
  have al_1 : w.heap.size < w1.heap.size := by subst hW1; first | (simp; done) | (simp; omega)
  have c1 : Below w.heap.size w w1 := by subst hW1; go_grown
  have s1 : w1.heap.size = w.heap.size + 1 := by subst hW1; simp
  clear hW1
  have qa0_1 := cell_regrown a0_1
  have qa1_1 := cell_regrown a1_1
  have qa2_1 := cell_regrown a2_1
  have qa3_1 := cell_regrown a3_1
  refine (specOkV_any k n _ l _ (H.out.later c1)).mono ?_
  rintro e w2 ⟨rfl, b2⟩
  have c2 := c1.trans (b2.mono c1.size)
  go_wp2
  go_ret
  exact ⟨by rw [HY.out]; simp, c2⟩
theorem l5Item_is {k p1 n : Int} {u : Value} {l : List (Int × Int)} {r : Bool} (hr : itemB k p1 n l = r) (w : World) (h : Rd w u l) : Calls Tryz.prog 19 #[.agg #[.int .i64 k, .int .i64 p1, .int .i64 n, u]] w fun e w' => e = .returned (.bool r) ∧ Below w.heap.size w w' := hr ▸ l5Item_b k p1 n u l w h
theorem specSOk_is {p f st : Int} {v0 v1 v2 v3 v4 : Value} {R D T S Lg : List KD} {r : Bool} (hr : okS p f st R D T S Lg = r) (w : World) (h : RSShard w v0 v1 v2 v3 v4 R D T S Lg) :
    Calls Tryz.prog 18 #[.agg #[.int .i64 p, .int .i64 f, .int .i64 st, v0, v1, v2, v3, v4]] w fun e w' => e = .returned (.bool r) ∧ Below w.heap.size w w' := hr ▸ specSOk_any p f st v0 v1 v2 v3 v4 R D T S Lg w h
/-- None of the first k commits is of the key and of the Ver. -/
def NotYet (Lg : List KD) (key p1 : Int) (m : Nat) : Prop := ∀ i, i < m → ¬ (keyK (Lg.getD i kd0) = key ∧ verK (Lg.getD i kd0) = p1)
theorem NotYet.had {Lg : List KD} {key p1 : Int} {m : Nat} (h : NotYet Lg key p1 m) (hp : p1 ≠ 0) : ∀ x ∈ hadL Lg key m, verK (hadE Lg key x) ≠ p1 := by
  intro x hx
  rcases hadL_mem hx with rfl | ⟨i, rfl, h1, h2⟩
  · exact fun q => hp q.symm
  · exact fun q => h i h1 ⟨h2, q⟩
theorem NotYet.at {Lg : List KD} {key p1 n : Int} {l : List (Int × Int)} {m : Nat} (h : NotYet Lg key p1 m) (hp : p1 ≠ 0) (hm : m < Lg.length) (hk : keyK (Lg.getD m kd0) = key) (hv : verK (Lg.getD m kd0) = p1) :
    wasB Lg key p1 n l = ((Lg.getD m kd0).1.getD 2 0 == n && decide ((Lg.getD m kd0).2 = l)) := by
  have hb : (keyK (Lg.getD m kd0) == key) = true := by simpa using hk
  have := wasB_at (n := n) (l := l) (x := m + 1) (pre := hadL Lg key m) (by rw [← hadL_more hb]; exact hadL_upto (by omega)) (h.had hp) hv
  exact this
theorem was_zero {Lg : List KD} {key n : Int} {l : List (Int × Int)} : wasB Lg key 0 n l = eqV n 0 l [] := by
  have : wasB Lg key 0 n l = ((0 : Int) == n && decide (([] : List (Int × Int)) = l)) := by
    unfold wasB hadL wasV
    rw [if_pos (show verK (hadE Lg key 0) = 0 from rfl)]
    rfl
  rw [this]
  have e1 : ((0 : Int) == n) = (n == 0) := by
    rw [Bool.eq_iff_iff, beq_iff_eq, beq_iff_eq]
    exact ⟨Eq.symm, Eq.symm⟩
  have e2 : decide (([] : List (Int × Int)) = l) = decide (l = []) := decide_eq_decide.2 ⟨Eq.symm, Eq.symm⟩
  rw [e1, e2]
  simp [eqV, eqL]
theorem eqV_cell {c n : Int} {cl l : List (Int × Int)} : eqV c n cl l = (c == n && decide (cl = l)) := by simp [eqV, eqL]
set_option maxRecDepth 100000 in
set_option maxHeartbeats 8000000 in
theorem specToldWas_any (p f st : Int) (v0 v1 v2 v3 v4 : Value) (R D T S Lg : List KD) (k p1 n : Int) (u : Value) (l : List (Int × Int)) (w : World) (ha : RSShard w v0 v1 v2 v3 v4 R D T S Lg) (hu : Rd w u l) :
    Calls Tryz.prog 6 #[.agg #[.int .i64 p, .int .i64 f, .int .i64 st, v0, v1, v2, v3, v4], .agg #[.int .i64 k, .int .i64 p1, .int .i64 n, u]] w fun e w' => e = .returned (.bool (toldWasB k p1 n l p f st R D T S Lg)) ∧ Below w.heap.size w w' := by
  have HA := hid ha
  have HU := hid hu
  obtain ⟨o0, o1, o2, o3, o4, q0, q1, q2, q3, q4, rfl, rfl, rfl, rfl, rfl⟩ := ha.open
  obtain ⟨uo, uc, rfl, _⟩ := hu
  clear ha
  go_enter Tryz.func6, Tryz.ntmps6
  go_upto_region 1 with fail
  generalize hW1 : ((w.alloc (.cells #[.int .i64 p, .int .i64 f, .int .i64 st, .slice o0 R.length q0, .slice o1 D.length q1, .slice o2 T.length q2, .slice o3 S.length q3, .slice o4 Lg.length q4] 43)).alloc (.cells #[.int .i64 k, .int .i64 p1, .int .i64 n, .slice uo l.length uc] 49)) = w1
  have a0_1 : w1.cell? ⟨w.heap.size, 0, none⟩ = some (.int .i64 p) := by subst hW1; go_cell
  have a1_1 : w1.cell? ⟨w.heap.size, 1, none⟩ = some (.int .i64 f) := by subst hW1; go_cell
  have a2_1 : w1.cell? ⟨w.heap.size, 2, none⟩ = some (.int .i64 st) := by subst hW1; go_cell
  have a3_1 : w1.cell? ⟨w.heap.size, 3, none⟩ = some (.slice o0 R.length q0) := by subst hW1; go_cell
  have a4_1 : w1.cell? ⟨w.heap.size, 4, none⟩ = some (.slice o1 D.length q1) := by subst hW1; go_cell
  have a5_1 : w1.cell? ⟨w.heap.size, 5, none⟩ = some (.slice o2 T.length q2) := by subst hW1; go_cell
  have a6_1 : w1.cell? ⟨w.heap.size, 6, none⟩ = some (.slice o3 S.length q3) := by subst hW1; go_cell
  have a7_1 : w1.cell? ⟨w.heap.size, 7, none⟩ = some (.slice o4 Lg.length q4) := by subst hW1; go_cell
  have al_1 : w.heap.size < w1.heap.size := by subst hW1; first | (simp; done) | (simp; omega)
  have b0_1 : w1.cell? ⟨w.heap.size + 1, 0, none⟩ = some (.int .i64 k) := by subst hW1; go_cell
  have b1_1 : w1.cell? ⟨w.heap.size + 1, 1, none⟩ = some (.int .i64 p1) := by subst hW1; go_cell
  have b2_1 : w1.cell? ⟨w.heap.size + 1, 2, none⟩ = some (.int .i64 n) := by subst hW1; go_cell
  have b3_1 : w1.cell? ⟨w.heap.size + 1, 3, none⟩ = some (.slice uo l.length uc) := by subst hW1; go_cell
  have bl_1 : w.heap.size + 1 < w1.heap.size := by subst hW1; first | (simp; done) | (simp; omega)
  have c1 : Below w.heap.size w w1 := by subst hW1; go_grown
  have s1 : w1.heap.size = w.heap.size + 2 := by subst hW1; simp
  clear hW1
  have qa0_1 := cell_regrown a0_1
  have qa1_1 := cell_regrown a1_1
  have qa2_1 := cell_regrown a2_1
  have qa3_1 := cell_regrown a3_1
  have qa4_1 := cell_regrown a4_1
  have qa5_1 := cell_regrown a5_1
  have qa6_1 := cell_regrown a6_1
  have qa7_1 := cell_regrown a7_1
  have qb0_1 := cell_regrown b0_1
  have qb1_1 := cell_regrown b1_1
  have qb2_1 := cell_regrown b2_1
  have qb3_1 := cell_regrown b3_1
  clear qa0_1 qa1_1 qa2_1 qa3_1 qa4_1 qa5_1 qa6_1 qa7_1 qb0_1 qb1_1 qb2_1 qb3_1 s1
  have ra0 := cell_regrown a0_1
  have ra1 := cell_regrown a1_1
  have ra2 := cell_regrown a2_1
  have ra3 := cell_regrown a3_1
  have ra4 := cell_regrown a4_1
  have ra5 := cell_regrown a5_1
  have ra6 := cell_regrown a6_1
  have ra7 := cell_regrown a7_1
  have rb0 := cell_regrown b0_1
  have rb1 := cell_regrown b1_1
  have rb2 := cell_regrown b2_1
  have rb3 := cell_regrown b3_1
  have HA1 := hid (HA.out.later c1)
  have HU1 := hid (HU.out.later c1)
  cases hs : okS p f st R D T S Lg with
  | false =>
    have HQ0 := hid hs
    have HQ1 : Hid (itemB k p1 n l = itemB k p1 n l) := hid rfl
    have hno : toldWasB k p1 n l p f st R D T S Lg = false := by
      unfold toldWasB
      rw [hs, Bool.false_and]
    refine wp_region_quiet_below (by kernel_rfl) (by kernel_rfl) ?_
    repeat (first | go_big_quiet_skip | (go_big_quiet_want; go_big_quiet_op; first | go_big_quiet_on | go_big_quiet_call (first | (go_at_call 18; exact Calls.regrown_of (specSOk_is HQ0.out _ (HA1.out.later (below_regrown _ _ _)))) | (go_at_call 19; exact Calls.regrown_of (l5Item_is HQ1.out _ (HU1.out.later (below_regrown _ _ _)))) | (go_at_call 20; exact Calls.regrown_of (specShard_b _ _)))))
    refine wpQuiet_nil ?_
    rintro wq ⟨pq, hwq⟩
    have hq : Below w1.heap.size w1 wq := by rw [hwq]; exact below_regrown _ _ _
    clear hwq pq
    have cq := c1.trans (hq.mono c1.size)
    go_wp2
    go_ret
    exact ⟨by first | (simp; done) | simp [hno], cq⟩
  | true =>
    have HQ0 := hid hs
    cases hi : itemB k p1 n l with
    | false =>
      have HQ1 := hid hi
      have hno : toldWasB k p1 n l p f st R D T S Lg = false := by
        unfold toldWasB
        rw [hs, hi, Bool.true_and, Bool.false_and]
      refine wp_region_quiet_below (by kernel_rfl) (by kernel_rfl) ?_
      repeat (first | go_big_quiet_skip | (go_big_quiet_want; go_big_quiet_op; first | go_big_quiet_on | go_big_quiet_call (first | (go_at_call 18; exact Calls.regrown_of (specSOk_is HQ0.out _ (HA1.out.later (below_regrown _ _ _)))) | (go_at_call 19; exact Calls.regrown_of (l5Item_is HQ1.out _ (HU1.out.later (below_regrown _ _ _)))) | (go_at_call 20; exact Calls.regrown_of (specShard_b _ _)))))
      refine wpQuiet_nil ?_
      rintro wq ⟨pq, hwq⟩
      have hq : Below w1.heap.size w1 wq := by rw [hwq]; exact below_regrown _ _ _
      clear hwq pq
      have cq := c1.trans (hq.mono c1.size)
      go_wp2
      go_ret
      exact ⟨by first | (simp; done) | simp [hno], cq⟩
    | true =>
      have HQ1 := hid hi
      by_cases hp : partOf k = p
      case neg =>
        have g0 : (partOf k != p) = true := by simpa using hp
        have hno : toldWasB k p1 n l p f st R D T S Lg = false := by
          unfold toldWasB
          rw [hs, hi, Bool.true_and, Bool.true_and, decide_eq_false hp, Bool.false_and]
        refine wp_region_quiet_below (by kernel_rfl) (by kernel_rfl) ?_
        repeat (first | go_big_quiet_skip | (go_big_quiet_want; go_big_quiet_op; first | go_big_quiet_on | go_big_quiet_call (first | (go_at_call 18; exact Calls.regrown_of (specSOk_is HQ0.out _ (HA1.out.later (below_regrown _ _ _)))) | (go_at_call 19; exact Calls.regrown_of (l5Item_is HQ1.out _ (HU1.out.later (below_regrown _ _ _)))) | (go_at_call 20; exact Calls.regrown_of (specShard_b _ _)))))
        refine wpQuiet_nil ?_
        rintro wq ⟨pq, hwq⟩
        have hq : Below w1.heap.size w1 wq := by rw [hwq]; exact below_regrown _ _ _
        clear hwq pq
        have cq := c1.trans (hq.mono c1.size)
        go_wp2
        go_ret
        exact ⟨by first | (simp; done) | simp [hno], cq⟩
      have g0 : (partOf k != p) = false := by simpa using hp
      have HRES : Hid (toldWasB k p1 n l p f st R D T S Lg = wasB Lg k p1 n l) := hid (by
        unfold toldWasB
        rw [hs, hi, decide_eq_true hp]
        simp)
      have HPK := hid hp
      clear hs hi hp
      refine wp_region_quiet_below (by kernel_rfl) (by kernel_rfl) ?_
      repeat (first | go_big_quiet_skip | (go_big_quiet_want; go_big_quiet_op; first | go_big_quiet_on | go_big_quiet_call (first | (go_at_call 18; exact Calls.regrown_of (specSOk_is HQ0.out _ (HA1.out.later (below_regrown _ _ _)))) | (go_at_call 19; exact Calls.regrown_of (l5Item_is HQ1.out _ (HU1.out.later (below_regrown _ _ _)))) | (go_at_call 20; exact Calls.regrown_of (specShard_b _ _)))))
      refine wpQuiet_nil ?_
      rintro wq ⟨pq, hwq⟩
      have hq : Below w1.heap.size w1 wq := by rw [hwq]; exact below_regrown _ _ _
      clear hwq pq
      obtain ⟨w2, hw2⟩ : ∃ y, y = wq := ⟨_, rfl⟩
      subst hw2
      have b2 := hq
      clear hq ra0 ra1 ra2 ra3 ra4 ra5 ra6 ra7 rb0 rb1 rb2 rb3 g0
      have d2 : Below w1.heap.size w1 w2 := (Below.trans (by go_grown) (b2.mono (by first | omega | (simp; done) | (simp; omega))))
      have c2 : Below w.heap.size w w2 := c1.trans (d2.mono c1.size)
      have a0_2 : w2.cell? ⟨w.heap.size, 0, none⟩ = some (.int .i64 p) := (by rw [b2.cell (by first | omega | (simp; done) | (simp; omega))]; go_cell)
      have a1_2 : w2.cell? ⟨w.heap.size, 1, none⟩ = some (.int .i64 f) := (by rw [b2.cell (by first | omega | (simp; done) | (simp; omega))]; go_cell)
      have a2_2 : w2.cell? ⟨w.heap.size, 2, none⟩ = some (.int .i64 st) := (by rw [b2.cell (by first | omega | (simp; done) | (simp; omega))]; go_cell)
      have a3_2 : w2.cell? ⟨w.heap.size, 3, none⟩ = some (.slice o0 R.length q0) := (by rw [b2.cell (by first | omega | (simp; done) | (simp; omega))]; go_cell)
      have a4_2 : w2.cell? ⟨w.heap.size, 4, none⟩ = some (.slice o1 D.length q1) := (by rw [b2.cell (by first | omega | (simp; done) | (simp; omega))]; go_cell)
      have a5_2 : w2.cell? ⟨w.heap.size, 5, none⟩ = some (.slice o2 T.length q2) := (by rw [b2.cell (by first | omega | (simp; done) | (simp; omega))]; go_cell)
      have a6_2 : w2.cell? ⟨w.heap.size, 6, none⟩ = some (.slice o3 S.length q3) := (by rw [b2.cell (by first | omega | (simp; done) | (simp; omega))]; go_cell)
      have a7_2 : w2.cell? ⟨w.heap.size, 7, none⟩ = some (.slice o4 Lg.length q4) := (by rw [b2.cell (by first | omega | (simp; done) | (simp; omega))]; go_cell)
      have al_2 : w.heap.size < w2.heap.size := (by have := b2.size; first | omega | (revert this; simp; done) | (revert this; simp; omega))
      have b0_2 : w2.cell? ⟨w.heap.size + 1, 0, none⟩ = some (.int .i64 k) := (by rw [b2.cell (by first | omega | (simp; done) | (simp; omega))]; go_cell)
      have b1_2 : w2.cell? ⟨w.heap.size + 1, 1, none⟩ = some (.int .i64 p1) := (by rw [b2.cell (by first | omega | (simp; done) | (simp; omega))]; go_cell)
      have b2_2 : w2.cell? ⟨w.heap.size + 1, 2, none⟩ = some (.int .i64 n) := (by rw [b2.cell (by first | omega | (simp; done) | (simp; omega))]; go_cell)
      have b3_2 : w2.cell? ⟨w.heap.size + 1, 3, none⟩ = some (.slice uo l.length uc) := (by rw [b2.cell (by first | omega | (simp; done) | (simp; omega))]; go_cell)
      have bl_2 : w.heap.size + 1 < w2.heap.size := (by have := b2.size; first | omega | (revert this; simp; done) | (revert this; simp; omega))
      clear a0_1 a1_1 a2_1 a3_1 a4_1 a5_1 a6_1 a7_1 al_1 b0_1 b1_1 b2_1 b3_1 bl_1
      clear b2 d2
      by_cases h0 : p1 = 0
      · have g0 : (p1 == 0) = true := by simpa using h0
        have hz : wasB Lg k p1 n l = eqV n 0 l [] := by rw [h0]; exact was_zero
        have HZ := hid hz
        have H0 := hid h0
        clear hz h0
        go_wp2_with fail
        refine (specVSame_any n 0 _ _ l [] _ (HU.out.later c2) (Rd.nil _ none 0)).mono ?_
        rintro e w3 ⟨rfl, b3⟩
        have cq := c2.trans (b3.mono c2.size)
        go_wp2
        go_ret
        exact ⟨by rw [HRES.out, HZ.out]; simp, cq⟩
      · have g0 : (p1 == 0) = false := by simpa using h0
        have HN0 := hid h0
        clear h0
        go_wp2_with fail
        have HL4 := hid (HA.out.later c2).h4
        obtain ⟨_, _, hio, hml, hci⟩ := HL4.out
        have HC := hid hci
        unfold maxLen at hml
        injection hio with hio1 hio2 hio3
        subst hio1 hio3
        clear hci hio2
        go_loopw [5] (fun i wr => ∃ m : Nat, m ≤ Lg.length ∧ i = .int .i64 m ∧ Hid (NotYet Lg k p1 m) ∧ Hid (Below w2.heap.size w2 wr)) (fun i _ => Lg.length - (intOf i).toNat)
        case atStart => exact ⟨0, Nat.zero_le _, rfl, hid (fun j hj => absurd hj (Nat.not_lt_zero j)), hid (Below.refl _ _)⟩
        case round =>
          obtain ⟨m, hm, rfl, hpre, hbel⟩ := hrel
          obtain ⟨w50, hw50⟩ : ∃ y, y = wr := ⟨_, rfl⟩
          subst hw50
          have b50 := hbel.out
          have d50 : Below w2.heap.size w2 w50 := (Below.trans (by go_grown) (b50.mono (by first | omega | (simp; done) | (simp; omega))))
          have c50 : Below w.heap.size w w50 := c2.trans (d50.mono c2.size)
          have a0_50 : w50.cell? ⟨w.heap.size, 0, none⟩ = some (.int .i64 p) := (by rw [b50.cell (by first | omega | (simp; done) | (simp; omega))]; go_cell)
          have a1_50 : w50.cell? ⟨w.heap.size, 1, none⟩ = some (.int .i64 f) := (by rw [b50.cell (by first | omega | (simp; done) | (simp; omega))]; go_cell)
          have a2_50 : w50.cell? ⟨w.heap.size, 2, none⟩ = some (.int .i64 st) := (by rw [b50.cell (by first | omega | (simp; done) | (simp; omega))]; go_cell)
          have a3_50 : w50.cell? ⟨w.heap.size, 3, none⟩ = some (.slice o0 R.length q0) := (by rw [b50.cell (by first | omega | (simp; done) | (simp; omega))]; go_cell)
          have a4_50 : w50.cell? ⟨w.heap.size, 4, none⟩ = some (.slice o1 D.length q1) := (by rw [b50.cell (by first | omega | (simp; done) | (simp; omega))]; go_cell)
          have a5_50 : w50.cell? ⟨w.heap.size, 5, none⟩ = some (.slice o2 T.length q2) := (by rw [b50.cell (by first | omega | (simp; done) | (simp; omega))]; go_cell)
          have a6_50 : w50.cell? ⟨w.heap.size, 6, none⟩ = some (.slice o3 S.length q3) := (by rw [b50.cell (by first | omega | (simp; done) | (simp; omega))]; go_cell)
          have a7_50 : w50.cell? ⟨w.heap.size, 7, none⟩ = some (.slice o4 Lg.length q4) := (by rw [b50.cell (by first | omega | (simp; done) | (simp; omega))]; go_cell)
          have al_50 : w.heap.size < w50.heap.size := (by have := b50.size; first | omega | (revert this; simp; done) | (revert this; simp; omega))
          have b0_50 : w50.cell? ⟨w.heap.size + 1, 0, none⟩ = some (.int .i64 k) := (by rw [b50.cell (by first | omega | (simp; done) | (simp; omega))]; go_cell)
          have b1_50 : w50.cell? ⟨w.heap.size + 1, 1, none⟩ = some (.int .i64 p1) := (by rw [b50.cell (by first | omega | (simp; done) | (simp; omega))]; go_cell)
          have b2_50 : w50.cell? ⟨w.heap.size + 1, 2, none⟩ = some (.int .i64 n) := (by rw [b50.cell (by first | omega | (simp; done) | (simp; omega))]; go_cell)
          have b3_50 : w50.cell? ⟨w.heap.size + 1, 3, none⟩ = some (.slice uo l.length uc) := (by rw [b50.cell (by first | omega | (simp; done) | (simp; omega))]; go_cell)
          have bl_50 : w.heap.size + 1 < w50.heap.size := (by have := b50.size; first | omega | (revert this; simp; done) | (revert this; simp; omega))
          clear a0_2 a1_2 a2_2 a3_2 a4_2 a5_2 a6_2 a7_2 al_2 b0_2 b1_2 b2_2 b3_2 bl_2
          have HD50 := hid d50
          clear b50 d50
          by_cases hlt : m < Lg.length
          · obtain ⟨b, o, hio, hb, hcc⟩ := HC.out (by omega)
            subst hio
            obtain ⟨ck, cv, cn, cl, cu, hx, e0, e1, e2, e3, hcu⟩ := atK_3k ((hcc m hlt).later hb HD50.out)
            have hki : (m : Int) < (Lg.length : Int) := by omega
            have HCU := hid hcu
            have HAT : Hid (ck = k → cv = p1 → wasB Lg k p1 n l = eqV cn n cl l) := hid (fun z1 z2 => by
              have := hpre.out.at (n := n) (l := l) HN0.out hlt (by rw [hx]; exact z1) (by rw [hx]; exact z2)
              rw [this, hx, eqV_cell]
              rfl)
            have HNX : Hid (¬ (ck = k ∧ cv = p1) → NotYet Lg k p1 (m + 1)) := hid (fun z i hi => by
              by_cases e : i = m
              · rw [e, hx]; exact z
              · exact hpre.out i (by omega))
            obtain ⟨co, cc, rfl, _⟩ := hcu
            have HLT := hid hlt
            have HB1 := hid hbel.out
            clear hx hcc hlt hpre hbel
            go_upto_region 9 with fail
            generalize hW51 : (w50.alloc (.cells #[.int .i64 ck, .int .i64 cv, .int .i64 cn, .slice co cl.length cc] 64)) = w51
            have m0_51 : w51.cell? ⟨w50.heap.size, 0, none⟩ = some (.int .i64 ck) := by subst hW51; go_cell
            have m1_51 : w51.cell? ⟨w50.heap.size, 1, none⟩ = some (.int .i64 cv) := by subst hW51; go_cell
            have m2_51 : w51.cell? ⟨w50.heap.size, 2, none⟩ = some (.int .i64 cn) := by subst hW51; go_cell
            have m3_51 : w51.cell? ⟨w50.heap.size, 3, none⟩ = some (.slice co cl.length cc) := by subst hW51; go_cell
            have ml_51 : w50.heap.size < w51.heap.size := by subst hW51; simp
            have d51 : Below w50.heap.size w50 w51 := by subst hW51; go_grown
            clear hW51
            have c51 : Below w.heap.size w w51 := c50.trans (d51.mono c50.size)
            have a0_51 : w51.cell? ⟨w.heap.size, 0, none⟩ = some (.int .i64 p) := (by rw [d51.cell (by first | omega | (simp; done) | (simp; omega))]; go_cell)
            have a1_51 : w51.cell? ⟨w.heap.size, 1, none⟩ = some (.int .i64 f) := (by rw [d51.cell (by first | omega | (simp; done) | (simp; omega))]; go_cell)
            have a2_51 : w51.cell? ⟨w.heap.size, 2, none⟩ = some (.int .i64 st) := (by rw [d51.cell (by first | omega | (simp; done) | (simp; omega))]; go_cell)
            have a3_51 : w51.cell? ⟨w.heap.size, 3, none⟩ = some (.slice o0 R.length q0) := (by rw [d51.cell (by first | omega | (simp; done) | (simp; omega))]; go_cell)
            have a4_51 : w51.cell? ⟨w.heap.size, 4, none⟩ = some (.slice o1 D.length q1) := (by rw [d51.cell (by first | omega | (simp; done) | (simp; omega))]; go_cell)
            have a5_51 : w51.cell? ⟨w.heap.size, 5, none⟩ = some (.slice o2 T.length q2) := (by rw [d51.cell (by first | omega | (simp; done) | (simp; omega))]; go_cell)
            have a6_51 : w51.cell? ⟨w.heap.size, 6, none⟩ = some (.slice o3 S.length q3) := (by rw [d51.cell (by first | omega | (simp; done) | (simp; omega))]; go_cell)
            have a7_51 : w51.cell? ⟨w.heap.size, 7, none⟩ = some (.slice (some ⟨b, o, none⟩) Lg.length q4) := (by rw [d51.cell (by first | omega | (simp; done) | (simp; omega))]; go_cell)
            have al_51 : w.heap.size < w51.heap.size := (by have := d51.size; omega)
            have b0_51 : w51.cell? ⟨w.heap.size + 1, 0, none⟩ = some (.int .i64 k) := (by rw [d51.cell (by first | omega | (simp; done) | (simp; omega))]; go_cell)
            have b1_51 : w51.cell? ⟨w.heap.size + 1, 1, none⟩ = some (.int .i64 p1) := (by rw [d51.cell (by first | omega | (simp; done) | (simp; omega))]; go_cell)
            have b2_51 : w51.cell? ⟨w.heap.size + 1, 2, none⟩ = some (.int .i64 n) := (by rw [d51.cell (by first | omega | (simp; done) | (simp; omega))]; go_cell)
            have b3_51 : w51.cell? ⟨w.heap.size + 1, 3, none⟩ = some (.slice uo l.length uc) := (by rw [d51.cell (by first | omega | (simp; done) | (simp; omega))]; go_cell)
            have bl_51 : w.heap.size + 1 < w51.heap.size := (by have := d51.size; omega)
            clear a0_50 a1_50 a2_50 a3_50 a4_50 a5_50 a6_50 a7_50 al_50 b0_50 b1_50 b2_50 b3_50 bl_50
            have HD51 := hid d51
            have HCU51 := hid (HCU.out.later d51)
            clear e0 e1 e2 e3 d51
            by_cases h1 : ck = k
            · have g1 : (ck == k) = true := by simpa using h1
              by_cases h2 : cv = p1
              · have g2 : (cv == p1) = true := by simpa using h2
                have HW := hid (HAT.out h1 h2)
                have H1 := hid h1
                have H2 := hid h2
                clear h1 h2
                go_wp2_with fail
                refine (specVSame_any cn n _ _ cl l _ HCU51.out (HU.out.later c51)).mono ?_
                rintro e w60 ⟨rfl, b60⟩
                have cq := c51.trans (b60.mono c51.size)
                go_wp2
                go_ret
                exact ⟨by rw [HRES.out, HW.out]; simp, cq⟩
              · have g2 : (cv == p1) = false := by simpa using h2
                have HN := hid (HNX.out (fun z => h2 z.2))
                have H1 := hid h1
                have H2 := hid h2
                clear h1 h2
                have HQ := hid (HB1.out.trans (HD51.out.mono HB1.out.size))
                go_wp2_with fail
                go_roundw
                case rel => exact ⟨m + 1, by have := HLT.out; omega, by go_num, HN, HQ⟩
                case measure =>
                  have := HLT.out
                  simp [intOf]
                  omega
            · have g1 : (ck == k) = false := by simpa using h1
              have HN := hid (HNX.out (fun z => h1 z.1))
              have H1 := hid h1
              clear h1
              have HQ := hid (HB1.out.trans (HD51.out.mono HB1.out.size))
              go_wp2_with fail
              go_roundw
              case rel => exact ⟨m + 1, by have := HLT.out; omega, by go_num, HN, HQ⟩
              case measure =>
                have := HLT.out
                simp [intOf]
                omega
          · obtain rfl : m = Lg.length := by omega
            have hki : ¬ ((Lg.length : Int) < (Lg.length : Int)) := by omega
            have HW := hid (wasB_none (n := n) (l := l) (hpre.out.had HN0.out))
            go_wp2
            go_ret
            exact ⟨by rw [HRES.out, HW.out]; simp, c50⟩
end Go.Proofs.YtefhpbcdjgllnaaGreat
