/- heldBy, heldRight, and both ValOk: contracts. -/
import Derived.Test.YtnenlnadmdlcfaaVs
import Derived.Test.YtnenlnadmdlcfaaOkS
import Derived.Test.YtnenlnadmdlcfaaOkI
import Derived.Test.YtnenlnadmdlcfaaVb
namespace Go.Proofs.Ytnenlnadmdlcfaa
open Go.RowKit
attribute [local go_sem ↓] Go.wp_at_zero Go.wp_at_succ

/-- Can a key have that? -/
def okV (k n : Int) (l : List (Int × Int)) : Bool :=
  if 0 ≤ k ∧ k < 24 then (if k / 8 = 0 then decide (0 ≤ n ∧ n ≤ 1000000 ∧ l = []) else n == 0 && okL l) else false

theorem heldRight_num (n : Int) (w : World) :
    Calls Try.prog 84 #[.iface 123 (.int .i64 n)] w fun e w' => e = .returned (.bool (decide (0 ≤ n ∧ n ≤ 1000000))) ∧ Below w.heap.size w w' := by
  have ha := assert_num n
  go_enter Try.func84, Try.ntmps84
  go_wp2
  all_goals
    go_ret
    exact ⟨by first | (simp_all; done) | (simp_all; omega), by go_grown⟩

theorem heldRight_kin (v : Value) (l : List (Int × Int)) (w : World) (h : Rd w v l) :
    Calls Try.prog 84 #[.iface 124 v] w fun e w' => e = .returned (.bool (okL l)) ∧ Below w.heap.size w w' := by
  obtain ⟨ao, cap, hv, _⟩ := id h
  subst hv
  have ha := assert_kin (.slice ao l.length cap)
  have hfd : ∀ w, (Instr.field 29 (.agg #[.int .i64 0, .slice ao l.length cap]) 1).run Try.prog w = .ok (.slice ao l.length cap) w := fun w => by kernel_rfl
  go_enter Try.func84, Try.ntmps84
  go_wp2_with fail
  refine (kinVal_any ao l.length cap _).mono ?_
  rintro e w1 ⟨rfl, b1⟩
  go_wp2_with fail
  refine (implOk_any _ l _ (h.later (by go_grown))).mono ?_
  rintro e w2 ⟨rfl, b2⟩
  have c2 : Below w.heap.size w w2 := b1.trans (b2.mono b1.size)
  go_wp2
  go_ret
  exact ⟨by simp, c2⟩

theorem heldRight_yes (n : Int) (w : World) (h0 : 0 ≤ n) (h1 : n ≤ 1000000) :
    Calls Try.prog 84 #[.iface 123 (.int .i64 n)] w fun e w' => e = .returned (.bool true) ∧ Below w.heap.size w w' :=
  (heldRight_num n w).mono fun _ _ ⟨he, hw⟩ => ⟨by rw [he, decide_eq_true ⟨h0, h1⟩], hw⟩
theorem heldRight_not (n : Int) (w : World) (h : ¬ (0 ≤ n ∧ n ≤ 1000000)) :
    Calls Try.prog 84 #[.iface 123 (.int .i64 n)] w fun e w' => e = .returned (.bool false) ∧ Below w.heap.size w w' :=
  (heldRight_num n w).mono fun _ _ ⟨he, hw⟩ => ⟨by rw [he, decide_eq_false h], hw⟩
theorem keyRight_yes (k : Int) (w : World) (h0 : 0 ≤ k) (h1 : k < 24) : Calls Try.prog 64 #[.int .i64 k] w fun e w' => e = .returned (.bool true) ∧ Below w.heap.size w w' :=
  (keyRight_any k w).mono fun _ _ ⟨he, hw⟩ => ⟨by rw [he, keyIn_yes h0 h1], by rw [hw]; exact Below.refl _ _⟩
theorem keyRight_no (k : Int) (w : World) (h : ¬ (0 ≤ k ∧ k < 24)) : Calls Try.prog 64 #[.int .i64 k] w fun e w' => e = .returned (.bool false) ∧ Below w.heap.size w w' :=
  (keyRight_any k w).mono fun _ _ ⟨he, hw⟩ => ⟨by rw [he, keyIn_no h], by rw [hw]; exact Below.refl _ _⟩

theorem okV_out {k n : Int} {l : List (Int × Int)} (h : ¬ (0 ≤ k ∧ k < 24)) : okV k n l = false := by rw [okV, if_neg h]
theorem okV_numNo {k n : Int} {l : List (Int × Int)} (h0 : 0 ≤ k) (h1 : k < 24) (hk : k / 8 = 0) (h : ¬ (0 ≤ n ∧ n ≤ 1000000)) : okV k n l = false := by
  rw [okV, if_pos ⟨h0, h1⟩, if_pos hk]; exact decide_eq_false (fun x => h ⟨x.1, x.2.1⟩)
theorem okV_num {k n : Int} {l : List (Int × Int)} (h0 : 0 ≤ k) (h1 : k < 24) (hk : k / 8 = 0) (h2 : 0 ≤ n) (h3 : n ≤ 1000000) : okV k n l = eqV n n [] l := by
  rw [okV, if_pos ⟨h0, h1⟩, if_pos hk, eqV_yes]
  simp [h2, h3, eqL, eq_comm]
theorem okV_numD {k n : Int} {l : List (Int × Int)} (h0 : 0 ≤ k) (h1 : k < 24) (hk : k / 8 = 0) (h2 : 0 ≤ n) (h3 : n ≤ 1000000) : okV k n l = ((l.length : Int) == 0) := by
  rw [okV, if_pos ⟨h0, h1⟩, if_pos hk]
  cases l <;> simp [h2, h3]; omega
theorem okV_kin {k n : Int} {l : List (Int × Int)} (h0 : 0 ≤ k) (h1 : k < 24) (hk : ¬ k / 8 = 0) : okV k n l = (n == 0 && okL l) := by
  rw [okV, if_pos ⟨h0, h1⟩, if_neg hk]

theorem heldRight_kinIs (v : Value) (l : List (Int × Int)) (b : Bool) (w : World) (h : Rd w v l) (hb : okL l = b) :
    Calls Try.prog 84 #[.iface 124 v] w fun e w' => e = .returned (.bool b) ∧ Below w.heap.size w w' := hb ▸ heldRight_kin v l w h

set_option maxHeartbeats 1000000 in
theorem implOkV_num (k n : Int) (v : Value) (l : List (Int × Int)) (w : World) (h : Rd w v l) (h0 : 0 ≤ k) (h1 : k < 24) (hk : k / 8 = 0) :
    Calls Try.prog 77 #[.int .i64 k, .agg #[.int .i64 n, v]] w fun e w' => e = .returned (.bool (okV k n l)) ∧ Below w.heap.size w w' := by
  have hkd : kindOf k = 0 := by rw [kindOf_in h0 h1, hk]
  obtain ⟨ao, cap, hv, _⟩ := id h
  subst hv
  by_cases hn : 0 ≤ n ∧ n ≤ 1000000
  · rw [okV_num h0 h1 hk hn.1 hn.2]
    obtain ⟨hn0, hn1⟩ := hn
    go_enter Try.func77, Try.ntmps77
    go_wp2_with fail
    refine (heldBy_num k n _ _ hkd).mono ?_
    rintro e w1 ⟨rfl, b1⟩
    have c1 : Below w.heap.size w w1 := (Below.trans (by go_grown) (b1.mono (by first | omega | (simp; done) | (simp; omega))))
    have a0_1 : w1.cell? ⟨w.heap.size, 0, none⟩ = some (.int .i64 n) := (by rw [b1.cell (by first | omega | (simp; done) | (simp; omega))]; go_cell)
    have a1_1 : w1.cell? ⟨w.heap.size, 1, none⟩ = some (.slice ao l.length cap) := (by rw [b1.cell (by first | omega | (simp; done) | (simp; omega))]; go_cell)
    have al_1 : w.heap.size < w1.heap.size := (by have := b1.size; first | omega | (revert this; simp; done) | (revert this; simp; omega))
    clear b1
    have hmt := method_num n
    have hR := hid (h.later c1)
    go_wp2_with fail
    have r0 := cell_regrown a0_1
    have r1 := cell_regrown a1_1
    refine wp_region_quiet_below (by kernel_rfl) (by kernel_rfl) ?_
    repeat (first | go_big_quiet_skip | (go_big_quiet_want; go_big_quiet_op; first | go_big_quiet_on | go_big_quiet_call (first | (go_at_call 64; exact Calls.regrown_of (keyRight_yes _ _ h0 h1)) | (go_at_call 84; exact Calls.regrown_of (heldRight_yes _ _ hn0 hn1)) | (go_at_call 113; exact Calls.regrown_of (numVal_any _ _)) | (go_at_call 85; exact Calls.regrown_of (implVSame_any n n _ _ [] l _ (Rd.nil _ _ _) (hR.out.later (below_regrown _ _ _)))))))
    refine wpQuiet_nil ?_
    rintro wq ⟨pq, hwq⟩
    have hq : Below w1.heap.size w1 wq := by rw [hwq]; exact below_regrown _ _ _
    clear hwq pq
    clear r0 r1
    have cq := c1.trans (hq.mono c1.size)
    go_wp2
    go_ret
    exact ⟨by simp, cq⟩
  · rw [okV_numNo h0 h1 hk hn]
    go_enter Try.func77, Try.ntmps77
    go_wp2_with fail
    refine (heldBy_num k n _ _ hkd).mono ?_
    rintro e w1 ⟨rfl, b1⟩
    have c1 : Below w.heap.size w w1 := (Below.trans (by go_grown) (b1.mono (by first | omega | (simp; done) | (simp; omega))))
    have a0_1 : w1.cell? ⟨w.heap.size, 0, none⟩ = some (.int .i64 n) := (by rw [b1.cell (by first | omega | (simp; done) | (simp; omega))]; go_cell)
    have a1_1 : w1.cell? ⟨w.heap.size, 1, none⟩ = some (.slice ao l.length cap) := (by rw [b1.cell (by first | omega | (simp; done) | (simp; omega))]; go_cell)
    have al_1 : w.heap.size < w1.heap.size := (by have := b1.size; first | omega | (revert this; simp; done) | (revert this; simp; omega))
    clear b1
    go_wp2_with fail
    have r0 := cell_regrown a0_1
    have r1 := cell_regrown a1_1
    refine wp_region_quiet_below (by kernel_rfl) (by kernel_rfl) ?_
    repeat (first | go_big_quiet_skip | (go_big_quiet_want; go_big_quiet_op; first | go_big_quiet_on | go_big_quiet_call (first | (go_at_call 64; exact Calls.regrown_of (keyRight_yes _ _ h0 h1)) | (go_at_call 84; exact Calls.regrown_of (heldRight_not _ _ hn)))))
    refine wpQuiet_nil ?_
    rintro wq ⟨pq, hwq⟩
    have hq : Below w1.heap.size w1 wq := by rw [hwq]; exact below_regrown _ _ _
    clear hwq pq
    clear r0 r1
    have cq := c1.trans (hq.mono c1.size)
    go_wp2
    go_ret
    exact ⟨by simp, cq⟩

set_option maxHeartbeats 1000000 in
theorem implOkV_kin (k n : Int) (v : Value) (l : List (Int × Int)) (w : World) (h : Rd w v l) (h0 : 0 ≤ k) (h1 : k < 24) (hk : ¬ k / 8 = 0) :
    Calls Try.prog 77 #[.int .i64 k, .agg #[.int .i64 n, v]] w fun e w' => e = .returned (.bool (okV k n l)) ∧ Below w.heap.size w w' := by
  have hkd : (kindOf k == 0) = false := by rw [kindOf_in h0 h1]; simpa using hk
  rw [okV_kin h0 h1 hk]
  obtain ⟨ao, cap, hv, _⟩ := id h
  subst hv
  cases hl : okL l with
  | true =>
    have e0 : eqV 0 n l l = (n == 0 && true) := by simp [eqV, eqL_refl, Bool.beq_comm]
    rw [← e0]
    clear e0
    go_enter Try.func77, Try.ntmps77
    go_wp2_with fail
    refine (heldBy_kin k n _ _ hkd).mono ?_
    rintro e w1 ⟨rfl, b1⟩
    have c1 : Below w.heap.size w w1 := (Below.trans (by go_grown) (b1.mono (by first | omega | (simp; done) | (simp; omega))))
    have a0_1 : w1.cell? ⟨w.heap.size, 0, none⟩ = some (.int .i64 n) := (by rw [b1.cell (by first | omega | (simp; done) | (simp; omega))]; go_cell)
    have a1_1 : w1.cell? ⟨w.heap.size, 1, none⟩ = some (.slice ao l.length cap) := (by rw [b1.cell (by first | omega | (simp; done) | (simp; omega))]; go_cell)
    have al_1 : w.heap.size < w1.heap.size := (by have := b1.size; first | omega | (revert this; simp; done) | (revert this; simp; omega))
    clear b1
    have hmt := method_kin (.slice ao l.length cap)
    have hR := hid (h.later c1)
    go_wp2_with fail
    have r0 := cell_regrown a0_1
    have r1 := cell_regrown a1_1
    refine wp_region_quiet_below (by kernel_rfl) (by kernel_rfl) ?_
    repeat (first | go_big_quiet_skip | (go_big_quiet_want; go_big_quiet_op; first | go_big_quiet_on | go_big_quiet_call (first | (go_at_call 64; exact Calls.regrown_of (keyRight_yes _ _ h0 h1)) | (go_at_call 84; exact Calls.regrown_of (heldRight_kinIs _ l true _ (hR.out.later (below_regrown _ _ _)) hl)) | (go_at_call 114; exact Calls.regrown_of (kinVal_any _ _ _ _)) | (go_at_call 85; exact Calls.regrown_of (implVSame_any 0 n _ _ l l _ (hR.out.later (below_regrown _ _ _)) (hR.out.later (below_regrown _ _ _)))))))
    refine wpQuiet_nil ?_
    rintro wq ⟨pq, hwq⟩
    have hq : Below w1.heap.size w1 wq := by rw [hwq]; exact below_regrown _ _ _
    clear hwq pq
    clear r0 r1
    have cq := c1.trans (hq.mono c1.size)
    go_wp2
    go_ret
    exact ⟨by simp, cq⟩
  | false =>
    rw [Bool.and_false]
    go_enter Try.func77, Try.ntmps77
    go_wp2_with fail
    refine (heldBy_kin k n _ _ hkd).mono ?_
    rintro e w1 ⟨rfl, b1⟩
    have c1 : Below w.heap.size w w1 := (Below.trans (by go_grown) (b1.mono (by first | omega | (simp; done) | (simp; omega))))
    have a0_1 : w1.cell? ⟨w.heap.size, 0, none⟩ = some (.int .i64 n) := (by rw [b1.cell (by first | omega | (simp; done) | (simp; omega))]; go_cell)
    have a1_1 : w1.cell? ⟨w.heap.size, 1, none⟩ = some (.slice ao l.length cap) := (by rw [b1.cell (by first | omega | (simp; done) | (simp; omega))]; go_cell)
    have al_1 : w.heap.size < w1.heap.size := (by have := b1.size; first | omega | (revert this; simp; done) | (revert this; simp; omega))
    clear b1
    have hR := hid (h.later c1)
    go_wp2_with fail
    have r0 := cell_regrown a0_1
    have r1 := cell_regrown a1_1
    refine wp_region_quiet_below (by kernel_rfl) (by kernel_rfl) ?_
    repeat (first | go_big_quiet_skip | (go_big_quiet_want; go_big_quiet_op; first | go_big_quiet_on | go_big_quiet_call (first | (go_at_call 64; exact Calls.regrown_of (keyRight_yes _ _ h0 h1)) | (go_at_call 84; exact Calls.regrown_of (heldRight_kinIs _ l false _ (hR.out.later (below_regrown _ _ _)) hl)))))
    refine wpQuiet_nil ?_
    rintro wq ⟨pq, hwq⟩
    have hq : Below w1.heap.size w1 wq := by rw [hwq]; exact below_regrown _ _ _
    clear hwq pq
    clear r0 r1
    have cq := c1.trans (hq.mono c1.size)
    go_wp2
    go_ret
    exact ⟨by simp, cq⟩

theorem implOkV_out (k n : Int) (v : Value) (l : List (Int × Int)) (w : World) (h : Rd w v l) (hk : ¬ (0 ≤ k ∧ k < 24)) :
    Calls Try.prog 77 #[.int .i64 k, .agg #[.int .i64 n, v]] w fun e w' => e = .returned (.bool (okV k n l)) ∧ Below w.heap.size w w' := by
  have hkd : (kindOf k == 0) = false := by rw [kindOf_out hk]; decide
  rw [okV_out hk]
  obtain ⟨ao, cap, hv, _⟩ := id h
  subst hv
  go_enter Try.func77, Try.ntmps77
  go_wp2_with fail
  refine (heldBy_kin k n _ _ hkd).mono ?_
  rintro e w1 ⟨rfl, b1⟩
  have c1 : Below w.heap.size w w1 := (Below.trans (by go_grown) (b1.mono (by first | omega | (simp; done) | (simp; omega))))
  have a0_1 : w1.cell? ⟨w.heap.size, 0, none⟩ = some (.int .i64 n) := (by rw [b1.cell (by first | omega | (simp; done) | (simp; omega))]; go_cell)
  have a1_1 : w1.cell? ⟨w.heap.size, 1, none⟩ = some (.slice ao l.length cap) := (by rw [b1.cell (by first | omega | (simp; done) | (simp; omega))]; go_cell)
  have al_1 : w.heap.size < w1.heap.size := (by have := b1.size; first | omega | (revert this; simp; done) | (revert this; simp; omega))
  clear b1
  go_wp2_with fail
  have r0 := cell_regrown a0_1
  have r1 := cell_regrown a1_1
  refine wp_region_quiet_below (by kernel_rfl) (by kernel_rfl) ?_
  repeat (first | go_big_quiet_skip | (go_big_quiet_want; go_big_quiet_op; first | go_big_quiet_on | go_big_quiet_call (first | (go_at_call 64; exact Calls.regrown_of (keyRight_no _ _ hk)))))
  refine wpQuiet_nil ?_
  rintro wq ⟨pq, hwq⟩
  have hq : Below w1.heap.size w1 wq := by rw [hwq]; exact below_regrown _ _ _
  clear hwq pq
  clear r0 r1
  have cq := c1.trans (hq.mono c1.size)
  go_wp2
  go_ret
  exact ⟨by simp, cq⟩

theorem implOkV_any (k n : Int) (v : Value) (l : List (Int × Int)) (w : World) (h : Rd w v l) :
    Calls Try.prog 77 #[.int .i64 k, .agg #[.int .i64 n, v]] w fun e w' => e = .returned (.bool (okV k n l)) ∧ Below w.heap.size w w' := by
  by_cases hin : 0 ≤ k ∧ k < 24
  · by_cases hk : k / 8 = 0
    · exact implOkV_num k n v l w h hin.1 hin.2 hk
    · exact implOkV_kin k n v l w h hin.1 hin.2 hk
  · exact implOkV_out k n v l w h hin

set_option maxHeartbeats 1000000 in
theorem specOkV_any (k n : Int) (v : Value) (l : List (Int × Int)) (w : World) (h : Rd w v l) :
    Calls Try.prog 68 #[.int .i64 k, .agg #[.int .i64 n, v]] w fun e w' => e = .returned (.bool (okV k n l)) ∧ Below w.heap.size w w' := by
  obtain ⟨ao, cap, hv, hml, _⟩ := id h
  subst hv
  by_cases hin : 0 ≤ k ∧ k < 24
  · by_cases hk : k / 8 = 0
    · have hkd : kindOf k = 0 := by rw [kindOf_in hin.1 hin.2, hk]
      by_cases hn : 0 ≤ n ∧ n ≤ 1000000
      · rw [okV_numD hin.1 hin.2 hk hn.1 hn.2]
        obtain ⟨hn0, hn1⟩ := hn
        go_enter Try.func68, Try.ntmps68
        go_wp2_with fail
        refine (specKind_any k _).mono ?_
        rintro e w1 ⟨rfl, rfl⟩
        rw [hkd]
        go_wp2_with fail
        all_goals
          go_ret
          exact ⟨by first | rfl | simp, by go_grown⟩
      · rw [okV_numNo hin.1 hin.2 hk hn]
        go_enter Try.func68, Try.ntmps68
        go_wp2_with fail
        refine (specKind_any k _).mono ?_
        rintro e w1 ⟨rfl, rfl⟩
        rw [hkd]
        go_wp2_with fail
        all_goals
          first
            | (go_ret; exact ⟨by first | rfl | simp, by go_grown⟩)
            | (exfalso; omega)
    · rw [okV_kin hin.1 hin.2 hk]
      obtain ⟨q, hq⟩ : ∃ q, kindOf k = q := ⟨_, rfl⟩
      have hq1 : q = 1 ∨ q = 2 := by rw [← hq, kindOf_in hin.1 hin.2]; omega
      clear hk
      by_cases hn : n = 0
      · subst hn
        rw [show ((0 : Int) == 0 && okL l) = okL l from by simp]
        go_enter Try.func68, Try.ntmps68
        go_wp2_with fail
        refine (specKind_any k _).mono ?_
        rintro e w1 ⟨rfl, rfl⟩
        rw [hq]
        clear hq
        rcases hq1 with rfl | rfl
        all_goals
          go_wp2_with fail
          refine (specOk_any _ l _ (h.later (by go_grown))).mono ?_
          rintro e w2 ⟨rfl, b2⟩
          have c2 : Below w.heap.size w w2 := (Below.trans (by go_grown) (b2.mono (by first | omega | (simp; done) | (simp; omega))))
          go_wp2
          go_ret
          exact ⟨by simp, c2⟩
      · have hn' : (n == 0) = false := by simpa using hn
        rw [show (n == 0 && okL l) = false from by rw [hn', Bool.false_and]]
        go_enter Try.func68, Try.ntmps68
        go_wp2_with fail
        refine (specKind_any k _).mono ?_
        rintro e w1 ⟨rfl, rfl⟩
        rw [hq]
        clear hq
        rcases hq1 with rfl | rfl
        all_goals
          go_wp2_with fail
          go_ret
          exact ⟨by first | rfl | simp, by go_grown⟩
  · rw [okV_out hin]
    have hq := kindOf_out hin
    clear hin
    go_enter Try.func68, Try.ntmps68
    go_wp2_with fail
    refine (specKind_any k _).mono ?_
    rintro e w1 ⟨rfl, rfl⟩
    rw [hq]
    go_wp2_with fail
    go_ret
    exact ⟨by first | rfl | simp, by go_grown⟩
end Go.Proofs.Ytnenlnadmdlcfaa
