/- Contracts and plain facts, several texts in one. -/
import Derived.Test.YtilbaiohcfhcaaaGrA
import Derived.Test.YtilbaiohcfhcaaaGrB
/- Part: Both CacheSame: contracts. Written by a program (gcs.py). -/
namespace Go.Proofs.Ytilbaiohcfhcaaa
open Go.RowKit
attribute [local go_sem ↓] Go.wp_at_zero Go.wp_at_succ

theorem eqK_3 (p0 p1 p2 t0 t1 t2 : Int) (la lb : List (Int × Int)) : eqK ([p0, p1, p2], la) ([t0, t1, t2], lb) = (decide (p0 = t0) && (decide (p1 = t1) && (p2 == t2 && eqL la lb))) := by
  by_cases h0 : p0 = t0 <;> by_cases h1 : p1 = t1 <;> by_cases h2 : p2 = t2 <;> simp [eqK, eqL, h0, h1, h2]
theorem iVSame_k (n m : Int) (va vb : Value) (la lb : List (Int × Int)) (w : World) (ha : Rd w va la) (hb : Rd w vb lb) {c : Bool} (hc : (n == m && eqL la lb) = c) :
    Calls Try.prog 11 #[.agg #[.int .i64 n, va], .agg #[.int .i64 m, vb]] w fun e w' => e = .returned (.bool c) ∧ Below w.heap.size w w' := hc ▸ implVSame_any n m va vb la lb w ha hb

set_option maxRecDepth 100000 in
set_option maxHeartbeats 2000000 in
theorem implCommitSame_any (p0 p1 p2 t0 t1 t2 : Int) (la lb : List (Int × Int)) (va vb : Value) (w : World) (ha : Rd w va la) (hb : Rd w vb lb) :
    Calls Try.prog 44 #[.agg #[.int .i64 p0, .int .i64 p1, .int .i64 p2, va], .agg #[.int .i64 t0, .int .i64 t1, .int .i64 t2, vb]] w fun e w' => e = .returned (.bool (eqK ([p0, p1, p2], la) ([t0, t1, t2], lb))) ∧ Below w.heap.size w w' := by
  rw [eqK_3]
  have HA := hid ha
  have HB := hid hb
  obtain ⟨ao, ac, hv, _⟩ := ha
  subst hv
  obtain ⟨bo, bc, hv, _⟩ := hb
  subst hv
  by_cases h0 : p0 = t0
  · by_cases h1 : p1 = t1
    · subst h0 h1
      simp only [decide_true, Bool.true_and]
      cases hc : (p2 == t2 && eqL la lb) with
      | true =>
        go_enter Try.func44, Try.ntmps44
        go_wp2_with (first | (go_at_call 11; refine (iVSame_k p2 t2 _ _ la lb _ (HA.out.later (by go_grown)) (HB.out.later (by go_grown)) hc).mono ?_; rintro e w2 ⟨rfl, b2⟩; have bb : Below w.heap.size w w2 := (Below.trans (by go_grown) (b2.mono (by first | omega | (simp; done) | (simp; omega))))))
        all_goals
          go_ret
          exact ⟨by simp, bb⟩
      | false =>
        go_enter Try.func44, Try.ntmps44
        go_wp2_with (first | (go_at_call 11; refine (iVSame_k p2 t2 _ _ la lb _ (HA.out.later (by go_grown)) (HB.out.later (by go_grown)) hc).mono ?_; rintro e w2 ⟨rfl, b2⟩; have bb : Below w.heap.size w w2 := (Below.trans (by go_grown) (b2.mono (by first | omega | (simp; done) | (simp; omega))))))
        all_goals
          go_ret
          exact ⟨by simp, bb⟩
    · have hne : (p1 == t1) = false := by simpa using h1
      subst h0
      go_enter Try.func44, Try.ntmps44
      go_wp2_with fail
      go_ret
      exact ⟨by simp [h1], by go_grown⟩
  · have hne : (p0 == t0) = false := by simpa using h0
    go_enter Try.func44, Try.ntmps44
    go_wp2_with fail
    go_ret
    exact ⟨by simp [h0], by go_grown⟩

set_option maxRecDepth 100000 in
set_option maxHeartbeats 2000000 in
theorem implItemSame_any (p0 p1 p2 t0 t1 t2 : Int) (la lb : List (Int × Int)) (va vb : Value) (w : World) (ha : Rd w va la) (hb : Rd w vb lb) :
    Calls Try.prog 25 #[.agg #[.int .i64 p0, .int .i64 p1, .int .i64 p2, va], .agg #[.int .i64 t0, .int .i64 t1, .int .i64 t2, vb]] w fun e w' => e = .returned (.bool (eqK ([p0, p1, p2], la) ([t0, t1, t2], lb))) ∧ Below w.heap.size w w' := by
  have HA := hid ha
  have HB := hid hb
  obtain ⟨ao, ac, hv, _⟩ := ha
  subst hv
  obtain ⟨bo, bc, hv, _⟩ := hb
  subst hv
  go_enter Try.func25, Try.ntmps25
  go_wp2_with (first | (go_at_call 44; refine (implCommitSame_any p0 p1 p2 t0 t1 t2 la lb _ _ _ (HA.out.later (by go_grown)) (HB.out.later (by go_grown))).mono ?_; rintro e w2 ⟨rfl, b2⟩; have bb : Below w.heap.size w w2 := (Below.trans (by go_grown) (b2.mono (by first | omega | (simp; done) | (simp; omega))))))
  go_ret
  exact ⟨by simp, bb⟩

end Go.Proofs.Ytilbaiohcfhcaaa

/- Part: Both CacheSame: contracts. Written by a program (gcb.py). -/
namespace Go.Proofs.Ytilbaiohcfhcaaa
open Go.RowKit
attribute [local go_sem ↓] Go.wp_at_zero Go.wp_at_succ

set_option maxRecDepth 100000 in
set_option maxHeartbeats 2000000 in
theorem equalItems_any (va vb : Value) (la lb : List KD) (w : World) (ha : RdM 4 3 true w va la) (hb : RdM 4 3 true w vb lb) :
    Calls Try.prog 24 #[va, vb, .func (.func 25) #[] #[]] w fun e w' => e = .returned (.bool (eqM la lb)) ∧ Below w.heap.size w w' := by
  obtain ⟨aa, ca, rfl, hla, hca⟩ := ha
  obtain ⟨ab, cb, rfl, hlb, hcb⟩ := hb
  unfold maxLen at hla hlb
  by_cases hne : ((la.length : Int) != (lb.length : Int)) = true
  · have : la ≠ lb := fun h => by simp [h] at hne
    go_enter Try.func24, Try.ntmps24
    go_wp2
    go_ret
    exact ⟨by simp [eqM_no this], by go_grown⟩
  · have hlen : la.length = lb.length := by simp at hne; omega
    have HL : Hid (la.length = lb.length) := hlen
    clear hlen
    go_enter Try.func24, Try.ntmps24
    go_wp2
    go_loopw [17] (fun i wr => ∃ k : Nat, k ≤ la.length ∧ i = .int .i64 k ∧ Hid (la.take k = lb.take k) ∧ Below w.heap.size w wr) (fun i _ => la.length - (intOf i).toNat)
    case atStart => exact ⟨0, Nat.zero_le _, rfl, rfl, Below.refl _ _⟩
    case round =>
      obtain ⟨k, hk, rfl, hpre, hbel⟩ := hrel
      by_cases hlt : k < la.length
      · obtain ⟨ba, oa, rfl, hba, hcca⟩ := hca (by omega)
        obtain ⟨bb, ob, rfl, hbb, hccb⟩ := hcb (by have := HL.out; omega)
        have hkb : (k : Int) < (lb.length : Int) := by have := HL.out; omega
        obtain ⟨p0, p1, p2, lx, ux, hx, c0, c1, c2, c3, hux⟩ := atK_3k ((hcca k hlt).later hba hbel)
        obtain ⟨t0, t1, t2, ly, uy, hy, d0, d1, d2, d3, huy⟩ := atK_3k ((hccb k (by have := HL.out; omega)).later hbb hbel)
        have hnext : Hid (la.getD k kd0 = lb.getD k kd0 → la.take (k + 1) = lb.take (k + 1)) := hid (fun h => take_more la lb kd0 k hlt (by have := HL.out; omega) hpre h)
        have hdiff : Hid (¬ la.getD k kd0 = lb.getD k kd0 → eqM la lb = false) := hid (fun h => eqM_no (fun e => h (by rw [e])))
        rw [hx, hy] at hnext hdiff
        have hsz := (hbel).size
        have HUA := hid hux
        have HUB := hid huy
        clear hux huy
        clear hcca hccb hx hy
        have hba' : ba < wr.heap.size := by omega
        have hbb' : bb < wr.heap.size := by omega
        clear hca hcb
        obtain ⟨uao, uac, huav, _⟩ := HUA.out
        obtain ⟨ubo, ubc, hubv, _⟩ := HUB.out
        subst huav
        subst hubv
        go_wp2_with fail
        refine (implItemSame_any p0 p1 p2 t0 t1 t2 lx ly _ _ _ (HUA.out.later (by go_grown)) (HUB.out.later (by go_grown))).mono ?_
        rintro e w2 ⟨rfl, b2⟩
        have d2' : Below wr.heap.size wr w2 := (Below.trans (by go_grown) (b2.mono (by first | omega | (simp; done) | (simp; omega))))
        have c2' := hbel.trans (d2'.mono hsz)
        clear b2 d2'
        cases hxy : eqK ([p0, p1, p2], lx) ([t0, t1, t2], ly) with
        | true =>
          have hN := hid (hnext.out (eqK_iff.1 hxy))
          clear hnext hdiff
          go_wp2
          go_roundw
          case rel => exact ⟨k + 1, by omega, by go_num, hN, c2'⟩
          case measure => simp [intOf]; omega
        | false =>
          have hN := hid (hdiff.out (fun e => by rw [eqK_iff.2 e] at hxy; cases hxy))
          clear hnext hdiff
          go_wp2
          go_ret
          exact ⟨by simp [hN.out], c2'⟩
      · have hall : eqM la lb = true := eqM_yes (by have h1 := HL.out; have h2 := hpre.out; rwa [List.take_of_length_le (by omega), List.take_of_length_le (by omega)] at h2)
        go_wp2
        go_ret
        exact ⟨by simp [hall], hbel⟩

set_option maxRecDepth 100000 in
set_option maxHeartbeats 2000000 in
theorem equalInts_any (va vb : Value) (la lb : List KD) (w : World) (ha : RdM 1 1 false w va la) (hb : RdM 1 1 false w vb lb) :
    Calls Try.prog 26 #[va, vb] w fun e w' => e = .returned (.bool (eqM la lb)) ∧ Below w.heap.size w w' := by
  obtain ⟨aa, ca, rfl, hla, hca⟩ := ha
  obtain ⟨ab, cb, rfl, hlb, hcb⟩ := hb
  unfold maxLen at hla hlb
  by_cases hne : ((la.length : Int) != (lb.length : Int)) = true
  · have : la ≠ lb := fun h => by simp [h] at hne
    go_enter Try.func26, Try.ntmps26
    go_wp2
    go_ret
    exact ⟨by simp [eqM_no this], by go_grown⟩
  · have hlen : la.length = lb.length := by simp at hne; omega
    have HL : Hid (la.length = lb.length) := hlen
    clear hlen
    go_enter Try.func26, Try.ntmps26
    go_wp2
    go_loopw [13] (fun i wr => ∃ k : Nat, k ≤ la.length ∧ i = .int .i64 k ∧ Hid (la.take k = lb.take k) ∧ Below w.heap.size w wr) (fun i _ => la.length - (intOf i).toNat)
    case atStart => exact ⟨0, Nat.zero_le _, rfl, rfl, Below.refl _ _⟩
    case round =>
      obtain ⟨k, hk, rfl, hpre, hbel⟩ := hrel
      by_cases hlt : k < la.length
      · have hthis := hlt
        obtain ⟨ba, oa, rfl, hba, hcca⟩ := hca (by omega)
        obtain ⟨bb, ob, rfl, hbb, hccb⟩ := hcb (by have := HL.out; omega)
        have hkb : (k : Int) < (lb.length : Int) := by have := HL.out; omega
        obtain ⟨p0, hx, c0⟩ := atK_1n ((hcca k hlt).later hba hbel)
        obtain ⟨t0, hy, d0⟩ := atK_1n ((hccb k (by have := HL.out; omega)).later hbb hbel)
        rw [Nat.mul_one] at c0 d0
        have hnext : Hid (la.getD k kd0 = lb.getD k kd0 → la.take (k + 1) = lb.take (k + 1)) := hid (fun h => take_more la lb kd0 k hlt (by have := HL.out; omega) hpre h)
        have hdiff : Hid (¬ la.getD k kd0 = lb.getD k kd0 → eqM la lb = false) := hid (fun h => eqM_no (fun e => h (by rw [e])))
        rw [hx, hy] at hnext hdiff
        have hsz := (hbel).size
        clear hcca hccb hx hy
        clear hca hcb hthis
        have r0 := cell_regrown c0
        have s0 := cell_regrown d0
        by_cases hxy : p0 = t0
        · have hN := hid (hnext.out (by rw [hxy]))
          clear hnext hdiff
          subst hxy
          go_wp2_with fail
          refine wp_region_quiet_below (by kernel_rfl) (by kernel_rfl) ?_
          repeat (first | go_big_quiet_skip | (go_big_quiet_want; go_big_quiet_op; first | go_big_quiet_on | go_big_quiet_call (first | (fail))))
          refine wpQuiet_nil ?_
          rintro wq ⟨pq, hwq⟩
          have hq : Below wr.heap.size wr wq := by rw [hwq]; exact below_regrown _ _ _
          clear hwq pq
          go_wp2
          go_roundw
          case rel => exact ⟨k + 1, by omega, by go_num, hN, hbel.trans (hq.mono hsz)⟩
          case measure => simp [intOf]; omega
        · have hN := hid (hdiff.out (fun e => hxy (by simpa using e)))
          have hbx : (p0 != t0) = true := by simpa using hxy
          clear hnext hdiff
          go_wp2_with fail
          refine wp_region_quiet_below (by kernel_rfl) (by kernel_rfl) ?_
          repeat (first | go_big_quiet_skip | (go_big_quiet_want; go_big_quiet_op; first | go_big_quiet_on | go_big_quiet_call (first | (fail))))
          refine wpQuiet_nil ?_
          rintro wq ⟨pq, hwq⟩
          have hq : Below wr.heap.size wr wq := by rw [hwq]; exact below_regrown _ _ _
          clear hwq pq
          go_wp2
          go_ret
          exact ⟨by simp [hN.out], hbel.trans (hq.mono hsz)⟩
      · have hall : eqM la lb = true := eqM_yes (by have h1 := HL.out; have h2 := hpre.out; rwa [List.take_of_length_le (by omega), List.take_of_length_le (by omega)] at h2)
        go_wp2
        go_ret
        exact ⟨by simp [hall], hbel⟩

set_option maxRecDepth 100000 in
set_option maxHeartbeats 1000000 in
theorem implCSame_any (a0 a1 b0 b1 : Value) (A0 A1 B0 B1 : List KD) (w : World) (ha0 : RdM 4 3 true w a0 A0) (ha1 : RdM 1 1 false w a1 A1) (hb0 : RdM 4 3 true w b0 B0) (hb1 : RdM 1 1 false w b1 B1) :
    Calls Try.prog 7 #[.agg #[a0, a1], .agg #[b0, b1]] w fun e w' => e = .returned (.bool (eqM A0 B0 && eqM A1 B1)) ∧ Below w.heap.size w w' := by
  have HA0 := hid ha0
  have HA1 := hid ha1
  have HB0 := hid hb0
  have HB1 := hid hb1
  obtain ⟨ao0, ac0, hv, _⟩ := ha0
  subst hv
  obtain ⟨ao1, ac1, hv, _⟩ := ha1
  subst hv
  obtain ⟨bo0, bc0, hv, _⟩ := hb0
  subst hv
  obtain ⟨bo1, bc1, hv, _⟩ := hb1
  subst hv
  go_enter Try.func7, Try.ntmps7
  go_wp2_with fail
  generalize hW1 : ((w.alloc (.cells #[.slice ao0 A0.length ac0, .slice ao1 A1.length ac1] 26)).alloc (.cells #[.slice bo0 B0.length bc0, .slice bo1 B1.length bc1] 26)) = w1
  have a0_1 : w1.cell? ⟨w.heap.size, 0, none⟩ = some (.slice ao0 A0.length ac0) := by subst hW1; go_cell
  have a1_1 : w1.cell? ⟨w.heap.size, 1, none⟩ = some (.slice ao1 A1.length ac1) := by subst hW1; go_cell
  have al_1 : w.heap.size < w1.heap.size := by subst hW1; first | (simp; done) | (simp; omega)
  have b0_1 : w1.cell? ⟨w.heap.size + 1, 0, none⟩ = some (.slice bo0 B0.length bc0) := by subst hW1; go_cell
  have b1_1 : w1.cell? ⟨w.heap.size + 1, 1, none⟩ = some (.slice bo1 B1.length bc1) := by subst hW1; go_cell
  have bl_1 : w.heap.size + 1 < w1.heap.size := by subst hW1; first | (simp; done) | (simp; omega)
  have c1 : Below w.heap.size w w1 := by subst hW1; go_grown
  have s1 : w1.heap.size = w.heap.size + 2 := by subst hW1; simp
  clear hW1
  have qa0_1 := cell_regrown a0_1
  have qa1_1 := cell_regrown a1_1
  have qb0_1 := cell_regrown b0_1
  have qb1_1 := cell_regrown b1_1
  refine (equalItems_any _ _ A0 B0 _ (HA0.out.later c1) (HB0.out.later c1)).mono ?_
  rintro e w2 ⟨rfl, b2⟩
  have d2 : Below w1.heap.size w1 w2 := (Below.trans (by go_grown) (b2.mono (by first | omega | (simp; done) | (simp; omega))))
  have c2 : Below w.heap.size w w2 := c1.trans (d2.mono c1.size)
  have a0_2 : w2.cell? ⟨w.heap.size, 0, none⟩ = some (.slice ao0 A0.length ac0) := (by rw [b2.cell (by first | omega | (simp; done) | (simp; omega))]; go_cell)
  have a1_2 : w2.cell? ⟨w.heap.size, 1, none⟩ = some (.slice ao1 A1.length ac1) := (by rw [b2.cell (by first | omega | (simp; done) | (simp; omega))]; go_cell)
  have al_2 : w.heap.size < w2.heap.size := (by have := b2.size; first | omega | (revert this; simp; done) | (revert this; simp; omega))
  have b0_2 : w2.cell? ⟨w.heap.size + 1, 0, none⟩ = some (.slice bo0 B0.length bc0) := (by rw [b2.cell (by first | omega | (simp; done) | (simp; omega))]; go_cell)
  have b1_2 : w2.cell? ⟨w.heap.size + 1, 1, none⟩ = some (.slice bo1 B1.length bc1) := (by rw [b2.cell (by first | omega | (simp; done) | (simp; omega))]; go_cell)
  have bl_2 : w.heap.size + 1 < w2.heap.size := (by have := b2.size; first | omega | (revert this; simp; done) | (revert this; simp; omega))
  clear a0_1 a1_1 al_1 b0_1 b1_1 bl_1
  clear b2 d2
  cases h0 : eqM A0 B0 with
  | true =>
    go_wp2_with fail
    refine (equalInts_any _ _ A1 B1 _ (HA1.out.later c2) (HB1.out.later c2)).mono ?_
    rintro e w3 ⟨rfl, b3⟩
    have d3 : Below w2.heap.size w2 w3 := (Below.trans (by go_grown) (b3.mono (by first | omega | (simp; done) | (simp; omega))))
    have c3 : Below w.heap.size w w3 := c2.trans (d3.mono c2.size)
    clear b3 d3
    go_wp2
    go_ret
    exact ⟨by simp [h0], c3⟩
  | false =>
    go_wp2
    go_ret
    exact ⟨by simp [h0], c2⟩

end Go.Proofs.Ytilbaiohcfhcaaa
