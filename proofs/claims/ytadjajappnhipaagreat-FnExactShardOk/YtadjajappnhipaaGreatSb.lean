/- Comparisons of a shard's lists: contracts. Written by a program (gsb.py). -/
import Derived.Test.YtadjajappnhipaaGreatSShard
import Derived.Test.YtadjajappnhipaaGreatGrB
namespace Go.Proofs.YtadjajappnhipaaGreat
open Go.RowKit
attribute [local go_sem ↓] Go.wp_at_zero Go.wp_at_succ

theorem sVSame_k (n m : Int) (va vb : Value) (la lb : List (Int × Int)) (w : World) (ha : Rd w va la) (hb : Rd w vb lb) {c : Bool} (hc : (n == m && eqL la lb) = c) :
    Calls Tryz.prog 37 #[.agg #[.int .i64 n, va], .agg #[.int .i64 m, vb]] w fun e w' => e = .returned (.bool c) ∧ Below w.heap.size w w' := hc ▸ specVSame_any n m va vb la lb w ha hb
theorem iVSame_k (n m : Int) (va vb : Value) (la lb : List (Int × Int)) (w : World) (ha : Rd w va la) (hb : Rd w vb lb) {c : Bool} (hc : (n == m && eqL la lb) = c) :
    Calls Tryz.prog 82 #[.agg #[.int .i64 n, va], .agg #[.int .i64 m, vb]] w fun e w' => e = .returned (.bool c) ∧ Below w.heap.size w w' := hc ▸ implVSame_any n m va vb la lb w ha hb
theorem eqK_3 (p0 p1 p2 t0 t1 t2 : Int) (la lb : List (Int × Int)) : eqK ([p0, p1, p2], la) ([t0, t1, t2], lb) = (decide (p0 = t0) && (decide (p1 = t1) && (p2 == t2 && eqL la lb))) := by
  by_cases h0 : p0 = t0 <;> by_cases h1 : p1 = t1 <;> by_cases h2 : p2 = t2 <;> simp [eqK, eqL, h0, h1, h2]
theorem eqK_2 (p0 p1 t0 t1 : Int) (la lb : List (Int × Int)) : eqK ([p0, p1], la) ([t0, t1], lb) = (decide (p0 = t0) && (p1 == t1 && eqL la lb)) := by
  by_cases h0 : p0 = t0 <;> by_cases h1 : p1 = t1 <;> simp [eqK, eqL, h0, h1]

set_option maxRecDepth 100000 in
set_option maxHeartbeats 2000000 in
theorem implCommitSame_any (p0 p1 p2 t0 t1 t2 : Int) (la lb : List (Int × Int)) (va vb : Value) (w : World) (ha : Rd w va la) (hb : Rd w vb lb) :
    Calls Tryz.prog 50 #[.agg #[.int .i64 p0, .int .i64 p1, .int .i64 p2, va], .agg #[.int .i64 t0, .int .i64 t1, .int .i64 t2, vb]] w fun e w' => e = .returned (.bool (eqK ([p0, p1, p2], la) ([t0, t1, t2], lb))) ∧ Below w.heap.size w w' := by
  rw [eqK_3]
  have HA := hid ha
  have HB := hid hb
  obtain ⟨ao, ac, hv, _⟩ := ha
  subst hv
  obtain ⟨bo, bc, hv, _⟩ := hb
  subst hv
  by_cases h0 : p0 = t0
  · subst h0
    by_cases h1 : p1 = t1
    · subst h1
      simp only [decide_true, Bool.true_and]
      cases hc : (p2 == t2 && eqL la lb) with
      | true =>
        go_enter Tryz.func50, Tryz.ntmps50
        go_wp2_with (first | (go_at_call 82; refine (iVSame_k p2 t2 _ _ la lb _ (HA.out.later (by go_grown)) (HB.out.later (by go_grown)) hc).mono ?_; rintro e w2 ⟨rfl, b2⟩; have bb : Below w.heap.size w w2 := (Below.trans (by go_grown) (b2.mono (by first | omega | (simp; done) | (simp; omega))))))
        all_goals
          go_ret
          exact ⟨by simp, bb⟩
      | false =>
        go_enter Tryz.func50, Tryz.ntmps50
        go_wp2_with (first | (go_at_call 82; refine (iVSame_k p2 t2 _ _ la lb _ (HA.out.later (by go_grown)) (HB.out.later (by go_grown)) hc).mono ?_; rintro e w2 ⟨rfl, b2⟩; have bb : Below w.heap.size w w2 := (Below.trans (by go_grown) (b2.mono (by first | omega | (simp; done) | (simp; omega))))))
        all_goals
          go_ret
          exact ⟨by simp, bb⟩
    · have hne : (p1 == t1) = false := by simpa using h1
      go_enter Tryz.func50, Tryz.ntmps50
      go_wp2_with fail
      go_ret
      exact ⟨by simp [h1], by go_grown⟩
  · have hne : (p0 == t0) = false := by simpa using h0
    go_enter Tryz.func50, Tryz.ntmps50
    go_wp2_with fail
    go_ret
    exact ⟨by simp [h0], by go_grown⟩

set_option maxRecDepth 100000 in
set_option maxHeartbeats 2000000 in
theorem implRowSame_any (p0 p1 t0 t1 : Int) (la lb : List (Int × Int)) (va vb : Value) (w : World) (ha : Rd w va la) (hb : Rd w vb lb) :
    Calls Tryz.prog 53 #[.agg #[.int .i64 p0, .int .i64 p1, va], .agg #[.int .i64 t0, .int .i64 t1, vb]] w fun e w' => e = .returned (.bool (eqK ([p0, p1], la) ([t0, t1], lb))) ∧ Below w.heap.size w w' := by
  rw [eqK_2]
  have HA := hid ha
  have HB := hid hb
  obtain ⟨ao, ac, hv, _⟩ := ha
  subst hv
  obtain ⟨bo, bc, hv, _⟩ := hb
  subst hv
  by_cases h0 : p0 = t0
  · subst h0
    simp only [decide_true, Bool.true_and]
    cases hc : (p1 == t1 && eqL la lb) with
    | true =>
      go_enter Tryz.func53, Tryz.ntmps53
      go_wp2_with (first | (go_at_call 82; refine (iVSame_k p1 t1 _ _ la lb _ (HA.out.later (by go_grown)) (HB.out.later (by go_grown)) hc).mono ?_; rintro e w2 ⟨rfl, b2⟩; have bb : Below w.heap.size w w2 := (Below.trans (by go_grown) (b2.mono (by first | omega | (simp; done) | (simp; omega))))))
      all_goals
        go_ret
        exact ⟨by simp, bb⟩
    | false =>
      go_enter Tryz.func53, Tryz.ntmps53
      go_wp2_with (first | (go_at_call 82; refine (iVSame_k p1 t1 _ _ la lb _ (HA.out.later (by go_grown)) (HB.out.later (by go_grown)) hc).mono ?_; rintro e w2 ⟨rfl, b2⟩; have bb : Below w.heap.size w w2 := (Below.trans (by go_grown) (b2.mono (by first | omega | (simp; done) | (simp; omega))))))
      all_goals
        go_ret
        exact ⟨by simp, bb⟩
  · have hne : (p0 == t0) = false := by simpa using h0
    go_enter Tryz.func53, Tryz.ntmps53
    go_wp2_with fail
    go_ret
    exact ⟨by simp [h0], by go_grown⟩

set_option maxRecDepth 100000 in
set_option maxHeartbeats 2000000 in
theorem equalRows_any (va vb : Value) (la lb : List KD) (w : World) (ha : RdM 3 2 true w va la) (hb : RdM 3 2 true w vb lb) :
    Calls Tryz.prog 51 #[va, vb, .func (.func 53) #[] #[]] w fun e w' => e = .returned (.bool (eqM la lb)) ∧ Below w.heap.size w w' := by
  obtain ⟨aa, ca, rfl, hla, hca⟩ := ha
  obtain ⟨ab, cb, rfl, hlb, hcb⟩ := hb
  unfold maxLen at hla hlb
  by_cases hne : ((la.length : Int) != (lb.length : Int)) = true
  · have : la ≠ lb := fun h => by simp [h] at hne
    go_enter Tryz.func51, Tryz.ntmps51
    go_wp2
    go_ret
    exact ⟨by simp [eqM_no this], by go_grown⟩
  · have hlen : la.length = lb.length := by simp at hne; omega
    have HL : Hid (la.length = lb.length) := hlen
    clear hlen
    go_enter Tryz.func51, Tryz.ntmps51
    go_wp2
    go_loopw [17] (fun i wr => ∃ k : Nat, k ≤ la.length ∧ i = .int .i64 k ∧ Hid (la.take k = lb.take k) ∧ Below w.heap.size w wr) (fun i _ => la.length - (intOf i).toNat)
    case atStart => exact ⟨0, Nat.zero_le _, rfl, rfl, Below.refl _ _⟩
    case round =>
      obtain ⟨k, hk, rfl, hpre, hbel⟩ := hrel
      by_cases hlt : k < la.length
      · obtain ⟨ba, oa, rfl, hba, hcca⟩ := hca (by omega)
        obtain ⟨bb, ob, rfl, hbb, hccb⟩ := hcb (by have := HL.out; omega)
        have hkb : (k : Int) < (lb.length : Int) := by have := HL.out; omega
        obtain ⟨p0, p1, lx, ux, hx, c0, c1, c2, hux⟩ := atK_2k ((hcca k hlt).later hba hbel)
        obtain ⟨t0, t1, ly, uy, hy, d0, d1, d2, huy⟩ := atK_2k ((hccb k (by have := HL.out; omega)).later hbb hbel)
        have hnext : Hid (la.getD k kd0 = lb.getD k kd0 → la.take (k + 1) = lb.take (k + 1)) := hid (fun h => take_more la lb kd0 k hlt (by have := HL.out; omega) hpre h)
        have hdiff : Hid (¬ la.getD k kd0 = lb.getD k kd0 → eqM la lb = false) := hid (fun h => eqM_no (fun e => h (by rw [e])))
        rw [hx, hy] at hnext hdiff
        have hsz := (hbel).size
        have HUA := hid hux
        have HUB := hid huy
        clear hux huy
        clear hcca hccb hx hy
        have hba' : ba < wr.heap.size := by omega
        have hbb' : bb < wr.heap.size := by omega
        clear hca hcb
        obtain ⟨uao, uac, huav, _⟩ := HUA.out
        obtain ⟨ubo, ubc, hubv, _⟩ := HUB.out
        subst huav
        subst hubv
        go_wp2_with fail
        refine (implRowSame_any p0 p1 t0 t1 lx ly _ _ _ (HUA.out.later (by go_grown)) (HUB.out.later (by go_grown))).mono ?_
        rintro e w2 ⟨rfl, b2⟩
        have d2' : Below wr.heap.size wr w2 := (Below.trans (by go_grown) (b2.mono (by first | omega | (simp; done) | (simp; omega))))
        have c2' := hbel.trans (d2'.mono hsz)
        clear b2 d2'
        cases hxy : eqK ([p0, p1], lx) ([t0, t1], ly) with
        | true =>
          have hN := hid (hnext.out (eqK_iff.1 hxy))
          clear hnext hdiff
          go_wp2
          go_roundw
          case rel => exact ⟨k + 1, by omega, by go_num, hN, c2'⟩
          case measure => simp [intOf]; omega
        | false =>
          have hN := hid (hdiff.out (fun e => by rw [eqK_iff.2 e] at hxy; cases hxy))
          clear hnext hdiff
          go_wp2
          go_ret
          exact ⟨by simp [hN.out], c2'⟩
      · have hall : eqM la lb = true := eqM_yes (by have h1 := HL.out; have h2 := hpre.out; rwa [List.take_of_length_le (by omega), List.take_of_length_le (by omega)] at h2)
        go_wp2
        go_ret
        exact ⟨by simp [hall], hbel⟩

set_option maxRecDepth 100000 in
set_option maxHeartbeats 2000000 in
theorem equalCommits_any (va vb : Value) (la lb : List KD) (w : World) (ha : RdM 4 3 true w va la) (hb : RdM 4 3 true w vb lb) :
    Calls Tryz.prog 49 #[va, vb, .func (.func 50) #[] #[]] w fun e w' => e = .returned (.bool (eqM la lb)) ∧ Below w.heap.size w w' := by
  obtain ⟨aa, ca, rfl, hla, hca⟩ := ha
  obtain ⟨ab, cb, rfl, hlb, hcb⟩ := hb
  unfold maxLen at hla hlb
  by_cases hne : ((la.length : Int) != (lb.length : Int)) = true
  · have : la ≠ lb := fun h => by simp [h] at hne
    go_enter Tryz.func49, Tryz.ntmps49
    go_wp2
    go_ret
    exact ⟨by simp [eqM_no this], by go_grown⟩
  · have hlen : la.length = lb.length := by simp at hne; omega
    have HL : Hid (la.length = lb.length) := hlen
    clear hlen
    go_enter Tryz.func49, Tryz.ntmps49
    go_wp2
    go_loopw [17] (fun i wr => ∃ k : Nat, k ≤ la.length ∧ i = .int .i64 k ∧ Hid (la.take k = lb.take k) ∧ Below w.heap.size w wr) (fun i _ => la.length - (intOf i).toNat)
    case atStart => exact ⟨0, Nat.zero_le _, rfl, rfl, Below.refl _ _⟩
    case round =>
      obtain ⟨k, hk, rfl, hpre, hbel⟩ := hrel
      by_cases hlt : k < la.length
      · obtain ⟨ba, oa, rfl, hba, hcca⟩ := hca (by omega)
        obtain ⟨bb, ob, rfl, hbb, hccb⟩ := hcb (by have := HL.out; omega)
        have hkb : (k : Int) < (lb.length : Int) := by have := HL.out; omega
        obtain ⟨p0, p1, p2, lx, ux, hx, c0, c1, c2, c3, hux⟩ := atK_3k ((hcca k hlt).later hba hbel)
        obtain ⟨t0, t1, t2, ly, uy, hy, d0, d1, d2, d3, huy⟩ := atK_3k ((hccb k (by have := HL.out; omega)).later hbb hbel)
        have hnext : Hid (la.getD k kd0 = lb.getD k kd0 → la.take (k + 1) = lb.take (k + 1)) := hid (fun h => take_more la lb kd0 k hlt (by have := HL.out; omega) hpre h)
        have hdiff : Hid (¬ la.getD k kd0 = lb.getD k kd0 → eqM la lb = false) := hid (fun h => eqM_no (fun e => h (by rw [e])))
        rw [hx, hy] at hnext hdiff
        have hsz := (hbel).size
        have HUA := hid hux
        have HUB := hid huy
        clear hux huy
        clear hcca hccb hx hy
        have hba' : ba < wr.heap.size := by omega
        have hbb' : bb < wr.heap.size := by omega
        clear hca hcb
        obtain ⟨uao, uac, huav, _⟩ := HUA.out
        obtain ⟨ubo, ubc, hubv, _⟩ := HUB.out
        subst huav
        subst hubv
        go_wp2_with fail
        refine (implCommitSame_any p0 p1 p2 t0 t1 t2 lx ly _ _ _ (HUA.out.later (by go_grown)) (HUB.out.later (by go_grown))).mono ?_
        rintro e w2 ⟨rfl, b2⟩
        have d2' : Below wr.heap.size wr w2 := (Below.trans (by go_grown) (b2.mono (by first | omega | (simp; done) | (simp; omega))))
        have c2' := hbel.trans (d2'.mono hsz)
        clear b2 d2'
        cases hxy : eqK ([p0, p1, p2], lx) ([t0, t1, t2], ly) with
        | true =>
          have hN := hid (hnext.out (eqK_iff.1 hxy))
          clear hnext hdiff
          go_wp2
          go_roundw
          case rel => exact ⟨k + 1, by omega, by go_num, hN, c2'⟩
          case measure => simp [intOf]; omega
        | false =>
          have hN := hid (hdiff.out (fun e => by rw [eqK_iff.2 e] at hxy; cases hxy))
          clear hnext hdiff
          go_wp2
          go_ret
          exact ⟨by simp [hN.out], c2'⟩
      · have hall : eqM la lb = true := eqM_yes (by have h1 := HL.out; have h2 := hpre.out; rwa [List.take_of_length_le (by omega), List.take_of_length_le (by omega)] at h2)
        go_wp2
        go_ret
        exact ⟨by simp [hall], hbel⟩

end Go.Proofs.YtadjajappnhipaaGreat
