/- heldBy, heldRight, and both ValOk: contracts. -/
import Derived.Test.YtnpfkhbnfihbdacDoorVs
import Derived.Test.YtnpfkhbnfihbdacDoorOkS
import Derived.Test.YtnpfkhbnfihbdacDoorOkI
import Derived.Test.YtnpfkhbnfihbdacDoorVb
namespace Go.Proofs.YtnpfkhbnfihbdacDoor
open Go.RowKit
attribute [local go_sem ↓] Go.wp_at_zero Go.wp_at_succ

/-- Can a key have that? -/
def okV (k n : Int) (l : List (Int × Int)) : Bool :=
  if 0 ≤ k ∧ k < 24 then (if k / 8 = 0 then decide (0 ≤ n ∧ n ≤ 1000000 ∧ l = []) else n == 0 && okL l) else false

theorem heldRight_num (n : Int) (w : World) :
    Calls Tryd.prog 28 #[.iface 72 (.int .i64 n)] w fun e w' => e = .returned (.bool (decide (0 ≤ n ∧ n ≤ 1000000))) ∧ Below w.heap.size w w' := by
  have ha := assert_num n
  go_enter Tryd.func28, Tryd.ntmps28
  go_wp2
  all_goals
    go_ret
    exact ⟨by first | (simp_all; done) | (simp_all; omega), by go_grown⟩

theorem heldRight_kin (v : Value) (l : List (Int × Int)) (w : World) (h : Rd w v l) :
    Calls Tryd.prog 28 #[.iface 73 v] w fun e w' => e = .returned (.bool (okL l)) ∧ Below w.heap.size w w' := by
  obtain ⟨ao, cap, hv, _⟩ := id h
  subst hv
  have ha := assert_kin (.slice ao l.length cap)
  have hfd : ∀ w, (Instr.field 29 (.agg #[.int .i64 0, .slice ao l.length cap]) 1).run Tryd.prog w = .ok (.slice ao l.length cap) w := fun w => by kernel_rfl
  go_enter Tryd.func28, Tryd.ntmps28
  go_wp2_with fail
  refine (kinVal_any ao l.length cap _).mono ?_
  rintro e w1 ⟨rfl, b1⟩
  go_wp2_with fail
  refine (implOk_any _ l _ (h.later (by go_grown))).mono ?_
  rintro e w2 ⟨rfl, b2⟩
  have c2 : Below w.heap.size w w2 := b1.trans (b2.mono b1.size)
  go_wp2
  go_ret
  exact ⟨by simp, c2⟩

theorem heldRight_yes (n : Int) (w : World) (h0 : 0 ≤ n) (h1 : n ≤ 1000000) :
    Calls Tryd.prog 28 #[.iface 72 (.int .i64 n)] w fun e w' => e = .returned (.bool true) ∧ Below w.heap.size w w' :=
  (heldRight_num n w).mono fun _ _ ⟨he, hw⟩ => ⟨by rw [he, decide_eq_true ⟨h0, h1⟩], hw⟩
theorem heldRight_not (n : Int) (w : World) (h : ¬ (0 ≤ n ∧ n ≤ 1000000)) :
    Calls Tryd.prog 28 #[.iface 72 (.int .i64 n)] w fun e w' => e = .returned (.bool false) ∧ Below w.heap.size w w' :=
  (heldRight_num n w).mono fun _ _ ⟨he, hw⟩ => ⟨by rw [he, decide_eq_false h], hw⟩
theorem keyRight_yes (k : Int) (w : World) (h0 : 0 ≤ k) (h1 : k < 24) : Calls Tryd.prog 27 #[.int .i64 k] w fun e w' => e = .returned (.bool true) ∧ Below w.heap.size w w' :=
  (keyRight_any k w).mono fun _ _ ⟨he, hw⟩ => ⟨by rw [he, keyIn_yes h0 h1], by rw [hw]; exact Below.refl _ _⟩
theorem keyRight_no (k : Int) (w : World) (h : ¬ (0 ≤ k ∧ k < 24)) : Calls Tryd.prog 27 #[.int .i64 k] w fun e w' => e = .returned (.bool false) ∧ Below w.heap.size w w' :=
  (keyRight_any k w).mono fun _ _ ⟨he, hw⟩ => ⟨by rw [he, keyIn_no h], by rw [hw]; exact Below.refl _ _⟩

theorem okV_out {k n : Int} {l : List (Int × Int)} (h : ¬ (0 ≤ k ∧ k < 24)) : okV k n l = false := by rw [okV, if_neg h]
theorem okV_numNo {k n : Int} {l : List (Int × Int)} (h0 : 0 ≤ k) (h1 : k < 24) (hk : k / 8 = 0) (h : ¬ (0 ≤ n ∧ n ≤ 1000000)) : okV k n l = false := by
  rw [okV, if_pos ⟨h0, h1⟩, if_pos hk]; exact decide_eq_false (fun x => h ⟨x.1, x.2.1⟩)
theorem okV_num {k n : Int} {l : List (Int × Int)} (h0 : 0 ≤ k) (h1 : k < 24) (hk : k / 8 = 0) (h2 : 0 ≤ n) (h3 : n ≤ 1000000) : okV k n l = eqV n n [] l := by
  rw [okV, if_pos ⟨h0, h1⟩, if_pos hk, eqV_yes]
  simp [h2, h3, eqL, eq_comm]
theorem okV_numD {k n : Int} {l : List (Int × Int)} (h0 : 0 ≤ k) (h1 : k < 24) (hk : k / 8 = 0) (h2 : 0 ≤ n) (h3 : n ≤ 1000000) : okV k n l = ((l.length : Int) == 0) := by
  rw [okV, if_pos ⟨h0, h1⟩, if_pos hk]
  cases l <;> simp [h2, h3]; omega
theorem okV_kin {k n : Int} {l : List (Int × Int)} (h0 : 0 ≤ k) (h1 : k < 24) (hk : ¬ k / 8 = 0) : okV k n l = (n == 0 && okL l) := by
  rw [okV, if_pos ⟨h0, h1⟩, if_neg hk]

theorem heldRight_kinIs (v : Value) (l : List (Int × Int)) (b : Bool) (w : World) (h : Rd w v l) (hb : okL l = b) :
    Calls Tryd.prog 28 #[.iface 73 v] w fun e w' => e = .returned (.bool b) ∧ Below w.heap.size w w' := hb ▸ heldRight_kin v l w h

set_option maxHeartbeats 1000000 in
theorem specOkV_any (k n : Int) (v : Value) (l : List (Int × Int)) (w : World) (h : Rd w v l) :
    Calls Tryd.prog 25 #[.int .i64 k, .agg #[.int .i64 n, v]] w fun e w' => e = .returned (.bool (okV k n l)) ∧ Below w.heap.size w w' := by
  obtain ⟨ao, cap, hv, hml, _⟩ := id h
  subst hv
  by_cases hin : 0 ≤ k ∧ k < 24
  · by_cases hk : k / 8 = 0
    · have hkd : kindOf k = 0 := by rw [kindOf_in hin.1 hin.2, hk]
      by_cases hn : 0 ≤ n ∧ n ≤ 1000000
      · rw [okV_numD hin.1 hin.2 hk hn.1 hn.2]
        obtain ⟨hn0, hn1⟩ := hn
        go_enter Tryd.func25, Tryd.ntmps25
        go_wp2_with fail
        refine (specKind_any k _).mono ?_
        rintro e w1 ⟨rfl, rfl⟩
        rw [hkd]
        go_wp2_with fail
        all_goals
          go_ret
          exact ⟨by first | rfl | simp, by go_grown⟩
      · rw [okV_numNo hin.1 hin.2 hk hn]
        go_enter Tryd.func25, Tryd.ntmps25
        go_wp2_with fail
        refine (specKind_any k _).mono ?_
        rintro e w1 ⟨rfl, rfl⟩
        rw [hkd]
        go_wp2_with fail
        all_goals
          first
            | (go_ret; exact ⟨by first | rfl | simp, by go_grown⟩)
            | (exfalso; omega)
    · rw [okV_kin hin.1 hin.2 hk]
      obtain ⟨q, hq⟩ : ∃ q, kindOf k = q := ⟨_, rfl⟩
      have hq1 : q = 1 ∨ q = 2 := by rw [← hq, kindOf_in hin.1 hin.2]; omega
      clear hk
      by_cases hn : n = 0
      · subst hn
        rw [show ((0 : Int) == 0 && okL l) = okL l from by simp]
        go_enter Tryd.func25, Tryd.ntmps25
        go_wp2_with fail
        refine (specKind_any k _).mono ?_
        rintro e w1 ⟨rfl, rfl⟩
        rw [hq]
        clear hq
        rcases hq1 with rfl | rfl
        all_goals
          go_wp2_with fail
          refine (specOk_any _ l _ (h.later (by go_grown))).mono ?_
          rintro e w2 ⟨rfl, b2⟩
          have c2 : Below w.heap.size w w2 := (Below.trans (by go_grown) (b2.mono (by first | omega | (simp; done) | (simp; omega))))
          go_wp2
          go_ret
          exact ⟨by simp, c2⟩
      · have hn' : (n == 0) = false := by simpa using hn
        rw [show (n == 0 && okL l) = false from by rw [hn', Bool.false_and]]
        go_enter Tryd.func25, Tryd.ntmps25
        go_wp2_with fail
        refine (specKind_any k _).mono ?_
        rintro e w1 ⟨rfl, rfl⟩
        rw [hq]
        clear hq
        rcases hq1 with rfl | rfl
        all_goals
          go_wp2_with fail
          go_ret
          exact ⟨by first | rfl | simp, by go_grown⟩
  · rw [okV_out hin]
    have hq := kindOf_out hin
    clear hin
    go_enter Tryd.func25, Tryd.ntmps25
    go_wp2_with fail
    refine (specKind_any k _).mono ?_
    rintro e w1 ⟨rfl, rfl⟩
    rw [hq]
    go_wp2_with fail
    go_ret
    exact ⟨by first | rfl | simp, by go_grown⟩
end Go.Proofs.YtnpfkhbnfihbdacDoor
