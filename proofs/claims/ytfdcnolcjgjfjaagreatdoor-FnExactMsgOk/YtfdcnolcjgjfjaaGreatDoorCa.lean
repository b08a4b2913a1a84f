/- Both CacheSame: contracts. Written by a program (gcs.py). -/
import Derived.Test.YtfdcnolcjgjfjaaGreatDoorSCache
import Derived.Test.YtfdcnolcjgjfjaaGreatDoorVs
namespace Go.Proofs.YtfdcnolcjgjfjaaGreatDoor
open Go.RowKit
attribute [local go_sem ↓] Go.wp_at_zero Go.wp_at_succ

theorem eqK_3 (p0 p1 p2 t0 t1 t2 : Int) (la lb : List (Int × Int)) : eqK ([p0, p1, p2], la) ([t0, t1, t2], lb) = (decide (p0 = t0) && (decide (p1 = t1) && (p2 == t2 && eqL la lb))) := by
  by_cases h0 : p0 = t0 <;> by_cases h1 : p1 = t1 <;> by_cases h2 : p2 = t2 <;> simp [eqK, eqL, h0, h1, h2]
theorem sVSame_k (n m : Int) (va vb : Value) (la lb : List (Int × Int)) (w : World) (ha : Rd w va la) (hb : Rd w vb lb) {c : Bool} (hc : (n == m && eqL la lb) = c) :
    Calls Tryz.prog 88 #[.agg #[.int .i64 n, va], .agg #[.int .i64 m, vb]] w fun e w' => e = .returned (.bool c) ∧ Below w.heap.size w w' := hc ▸ specVSame_any n m va vb la lb w ha hb
theorem iVSame_k (n m : Int) (va vb : Value) (la lb : List (Int × Int)) (w : World) (ha : Rd w va la) (hb : Rd w vb lb) {c : Bool} (hc : (n == m && eqL la lb) = c) :
    Calls Tryz.prog 107 #[.agg #[.int .i64 n, va], .agg #[.int .i64 m, vb]] w fun e w' => e = .returned (.bool c) ∧ Below w.heap.size w w' := hc ▸ implVSame_any n m va vb la lb w ha hb

set_option maxRecDepth 100000 in
set_option maxHeartbeats 2000000 in
theorem specItemSame_any (p0 p1 p2 t0 t1 t2 : Int) (la lb : List (Int × Int)) (va vb : Value) (w : World) (ha : Rd w va la) (hb : Rd w vb lb) :
    Calls Tryz.prog 44 #[.agg #[.int .i64 p0, .int .i64 p1, .int .i64 p2, va], .agg #[.int .i64 t0, .int .i64 t1, .int .i64 t2, vb]] w fun e w' => e = .returned (.bool (eqK ([p0, p1, p2], la) ([t0, t1, t2], lb))) ∧ Below w.heap.size w w' := by
  rw [eqK_3]
  have HA := hid ha
  have HB := hid hb
  obtain ⟨ao, ac, hv, _⟩ := ha
  subst hv
  obtain ⟨bo, bc, hv, _⟩ := hb
  subst hv
  by_cases h0 : p0 = t0
  · by_cases h1 : p1 = t1
    · subst h0 h1
      simp only [decide_true, Bool.true_and]
      cases hc : (p2 == t2 && eqL la lb) with
      | true =>
        go_enter Tryz.func44, Tryz.ntmps44
        go_wp2_with (first | (go_at_call 88; refine (sVSame_k p2 t2 _ _ la lb _ (HA.out.later (by go_grown)) (HB.out.later (by go_grown)) hc).mono ?_; rintro e w2 ⟨rfl, b2⟩; have bb : Below w.heap.size w w2 := (Below.trans (by go_grown) (b2.mono (by first | omega | (simp; done) | (simp; omega))))))
        all_goals
          go_ret
          exact ⟨by simp, bb⟩
      | false =>
        go_enter Tryz.func44, Tryz.ntmps44
        go_wp2_with (first | (go_at_call 88; refine (sVSame_k p2 t2 _ _ la lb _ (HA.out.later (by go_grown)) (HB.out.later (by go_grown)) hc).mono ?_; rintro e w2 ⟨rfl, b2⟩; have bb : Below w.heap.size w w2 := (Below.trans (by go_grown) (b2.mono (by first | omega | (simp; done) | (simp; omega))))))
        all_goals
          go_ret
          exact ⟨by simp, bb⟩
    · have hne : (p1 == t1) = false := by simpa using h1
      subst h0
      go_enter Tryz.func44, Tryz.ntmps44
      go_wp2_with fail
      go_ret
      exact ⟨by simp [h1], by go_grown⟩
  · have hne : (p0 == t0) = false := by simpa using h0
    go_enter Tryz.func44, Tryz.ntmps44
    go_wp2_with fail
    go_ret
    exact ⟨by simp [h0], by go_grown⟩

set_option maxRecDepth 100000 in
set_option maxHeartbeats 2000000 in
theorem implCommitSame_any (p0 p1 p2 t0 t1 t2 : Int) (la lb : List (Int × Int)) (va vb : Value) (w : World) (ha : Rd w va la) (hb : Rd w vb lb) :
    Calls Tryz.prog 84 #[.agg #[.int .i64 p0, .int .i64 p1, .int .i64 p2, va], .agg #[.int .i64 t0, .int .i64 t1, .int .i64 t2, vb]] w fun e w' => e = .returned (.bool (eqK ([p0, p1, p2], la) ([t0, t1, t2], lb))) ∧ Below w.heap.size w w' := by
  rw [eqK_3]
  have HA := hid ha
  have HB := hid hb
  obtain ⟨ao, ac, hv, _⟩ := ha
  subst hv
  obtain ⟨bo, bc, hv, _⟩ := hb
  subst hv
  by_cases h0 : p0 = t0
  · by_cases h1 : p1 = t1
    · subst h0 h1
      simp only [decide_true, Bool.true_and]
      cases hc : (p2 == t2 && eqL la lb) with
      | true =>
        go_enter Tryz.func84, Tryz.ntmps84
        go_wp2_with (first | (go_at_call 107; refine (iVSame_k p2 t2 _ _ la lb _ (HA.out.later (by go_grown)) (HB.out.later (by go_grown)) hc).mono ?_; rintro e w2 ⟨rfl, b2⟩; have bb : Below w.heap.size w w2 := (Below.trans (by go_grown) (b2.mono (by first | omega | (simp; done) | (simp; omega))))))
        all_goals
          go_ret
          exact ⟨by simp, bb⟩
      | false =>
        go_enter Tryz.func84, Tryz.ntmps84
        go_wp2_with (first | (go_at_call 107; refine (iVSame_k p2 t2 _ _ la lb _ (HA.out.later (by go_grown)) (HB.out.later (by go_grown)) hc).mono ?_; rintro e w2 ⟨rfl, b2⟩; have bb : Below w.heap.size w w2 := (Below.trans (by go_grown) (b2.mono (by first | omega | (simp; done) | (simp; omega))))))
        all_goals
          go_ret
          exact ⟨by simp, bb⟩
    · have hne : (p1 == t1) = false := by simpa using h1
      subst h0
      go_enter Tryz.func84, Tryz.ntmps84
      go_wp2_with fail
      go_ret
      exact ⟨by simp [h1], by go_grown⟩
  · have hne : (p0 == t0) = false := by simpa using h0
    go_enter Tryz.func84, Tryz.ntmps84
    go_wp2_with fail
    go_ret
    exact ⟨by simp [h0], by go_grown⟩

set_option maxRecDepth 100000 in
set_option maxHeartbeats 2000000 in
theorem implItemSame_any (p0 p1 p2 t0 t1 t2 : Int) (la lb : List (Int × Int)) (va vb : Value) (w : World) (ha : Rd w va la) (hb : Rd w vb lb) :
    Calls Tryz.prog 37 #[.agg #[.int .i64 p0, .int .i64 p1, .int .i64 p2, va], .agg #[.int .i64 t0, .int .i64 t1, .int .i64 t2, vb]] w fun e w' => e = .returned (.bool (eqK ([p0, p1, p2], la) ([t0, t1, t2], lb))) ∧ Below w.heap.size w w' := by
  have HA := hid ha
  have HB := hid hb
  obtain ⟨ao, ac, hv, _⟩ := ha
  subst hv
  obtain ⟨bo, bc, hv, _⟩ := hb
  subst hv
  go_enter Tryz.func37, Tryz.ntmps37
  go_wp2_with (first | (go_at_call 84; refine (implCommitSame_any p0 p1 p2 t0 t1 t2 la lb _ _ _ (HA.out.later (by go_grown)) (HB.out.later (by go_grown))).mono ?_; rintro e w2 ⟨rfl, b2⟩; have bb : Below w.heap.size w w2 := (Below.trans (by go_grown) (b2.mono (by first | omega | (simp; done) | (simp; omega))))))
  go_ret
  exact ⟨by simp, bb⟩

end Go.Proofs.YtfdcnolcjgjfjaaGreatDoor
