/- impl's writes: the methods of each kind that tell keys and whether it is right: contracts. -/
import Derived.Test.YtefhpbcdjgllnaaGreatOq
import Derived.Test.YtefhpbcdjgllnaaGreatGrC
import Derived.Lib.QuietBelow
namespace Go.Proofs.YtefhpbcdjgllnaaGreat
open Go.RowKit
attribute [local go_sem ↓] Go.wp_at_zero Go.wp_at_succ

theorem setKey_any (k a b n : Int) (w : World) : Calls Tryz.prog 146 #[.agg #[.int .i64 k, .int .i64 a, .int .i64 b, .int .i64 n]] w fun e w' => e = .returned (.int .i64 (keyOf 0 a)) ∧ Below w.heap.size w w' := by
  go_enter Tryz.func146, Tryz.ntmps146
  go_wp2_with fail
  refine (implMake_any _ _ _).mono ?_
  rintro e w1 ⟨rfl, rfl⟩
  go_wp2
  go_ret
  exact ⟨by simp, by go_grown⟩

theorem setDo_any (k a b n m : Int) (v : Value) (w : World) : Calls Tryz.prog 145 #[.agg #[.int .i64 k, .int .i64 a, .int .i64 b, .int .i64 n], .agg #[.int .i64 m, v]] w fun e w' => e = .returned (.agg #[.int .i64 n, .slice none 0 0]) ∧ Below w.heap.size w w' := by
  go_enter Tryz.func145, Tryz.ntmps145
  go_wp2
  refine bodyPost_ret (v := .agg #[.int .i64 n, .slice none 0 0]) (by simp [results, Tryz.results145, go_sem]) rfl ⟨rfl, ?_⟩
  go_grown

/-- Is a write of that kind right? -/
def setR (a b n : Int) : Bool := decide ((0 ≤ a ∧ a < 8) ∧ b = 0 ∧ 0 ≤ n ∧ n ≤ 1000000)
def endsR (a b : Int) : Bool := decide ((0 ≤ a ∧ a < 8) ∧ (0 ≤ b ∧ b < 8) ∧ b ≠ a)
def bindR (a b n : Int) : Bool := endsR a b && decide (0 ≤ n ∧ n ≤ 1000)
def partR (a b n : Int) : Bool := endsR a b && n == 0

theorem okV_set (a n : Int) : okV (keyOf 0 a) n [] = decide ((0 ≤ a ∧ a < 8) ∧ 0 ≤ n ∧ n ≤ 1000000) := by
  by_cases h : 0 ≤ a ∧ a < 8
  · have e : keyOf 0 a = a := by rw [keyOf_in (by omega) (by omega) h.1 h.2]; omega
    have e8 : a / 8 = 0 := by omega
    rw [e, okV, if_pos (by omega), if_pos e8]
    simp [h]
  · rw [keyOf_out (by omega), okV_out (by omega)]
    simp [h]

set_option maxHeartbeats 1000000 in
theorem setRight_any (k a b n : Int) (w : World) : Calls Tryz.prog 148 #[.agg #[.int .i64 k, .int .i64 a, .int .i64 b, .int .i64 n]] w fun e w' => e = .returned (.bool (setR a b n)) ∧ Below w.heap.size w w' := by
  by_cases hb : b = 0
  · subst hb
    have e : setR a 0 n = okV (keyOf 0 a) n [] := by rw [okV_set]; simp [setR]
    rw [e]; clear e
    go_enter Tryz.func148, Tryz.ntmps148
    go_wp2_with fail
    generalize hW1 : (w.alloc (.cells #[.int .i64 k, .int .i64 a, .int .i64 0, .int .i64 n] 175)) = w1
    have a0_1 : w1.cell? ⟨w.heap.size, 0, none⟩ = some (.int .i64 k) := by subst hW1; go_cell
    have a1_1 : w1.cell? ⟨w.heap.size, 1, none⟩ = some (.int .i64 a) := by subst hW1; go_cell
    have a2_1 : w1.cell? ⟨w.heap.size, 2, none⟩ = some (.int .i64 0) := by subst hW1; go_cell
    have a3_1 : w1.cell? ⟨w.heap.size, 3, none⟩ = some (.int .i64 n) := by subst hW1; go_cell
    have al_1 : w.heap.size < w1.heap.size := by subst hW1; first | (simp; done) | (simp; omega)
    have c1 : Below w.heap.size w w1 := by subst hW1; go_grown
    have s1 : w1.heap.size = w.heap.size + 1 := by subst hW1; simp
    clear hW1
    have qa0_1 := cell_regrown a0_1
    have qa1_1 := cell_regrown a1_1
    have qa2_1 := cell_regrown a2_1
    have qa3_1 := cell_regrown a3_1
    refine wp_region_quiet_below (by kernel_rfl) (by kernel_rfl) ?_
    repeat (first | go_big_quiet_skip | (go_big_quiet_want; go_big_quiet_op; first | go_big_quiet_on | go_big_quiet_call (first | (go_at_call 146; exact Calls.regrown_of (setKey_any _ _ _ _ _)) | (go_at_call 145; exact Calls.regrown_of (setDo_any _ _ _ _ _ _ _)) | (go_at_call 60; exact Calls.regrown_of (implOkV_any _ n _ [] _ (Rd.nil _ none 0))))))
    refine wpQuiet_nil ?_
    rintro wq ⟨pq, hwq⟩
    have hq : Below w1.heap.size w1 wq := by rw [hwq]; exact below_regrown _ _ _
    clear hwq pq
    have cq := c1.trans (hq.mono c1.size)
    go_wp2
    go_ret
    exact ⟨by simp, cq⟩
  · have e : setR a b n = false := by simp [setR, hb]
    have hb' : (b == 0) = false := by simpa using hb
    rw [e]; clear e
    go_enter Tryz.func148, Tryz.ntmps148
    go_wp2_with fail
    generalize hW1 : (w.alloc (.cells #[.int .i64 k, .int .i64 a, .int .i64 b, .int .i64 n] 175)) = w1
    have a0_1 : w1.cell? ⟨w.heap.size, 0, none⟩ = some (.int .i64 k) := by subst hW1; go_cell
    have a1_1 : w1.cell? ⟨w.heap.size, 1, none⟩ = some (.int .i64 a) := by subst hW1; go_cell
    have a2_1 : w1.cell? ⟨w.heap.size, 2, none⟩ = some (.int .i64 b) := by subst hW1; go_cell
    have a3_1 : w1.cell? ⟨w.heap.size, 3, none⟩ = some (.int .i64 n) := by subst hW1; go_cell
    have al_1 : w.heap.size < w1.heap.size := by subst hW1; first | (simp; done) | (simp; omega)
    have c1 : Below w.heap.size w w1 := by subst hW1; go_grown
    have s1 : w1.heap.size = w.heap.size + 1 := by subst hW1; simp
    clear hW1
    have qa0_1 := cell_regrown a0_1
    have qa1_1 := cell_regrown a1_1
    have qa2_1 := cell_regrown a2_1
    have qa3_1 := cell_regrown a3_1
    refine wp_region_quiet_below (by kernel_rfl) (by kernel_rfl) ?_
    repeat (first | go_big_quiet_skip | (go_big_quiet_want; go_big_quiet_op; first | go_big_quiet_on | go_big_quiet_call (first | (fail))))
    refine wpQuiet_nil ?_
    rintro wq ⟨pq, hwq⟩
    have hq : Below w1.heap.size w1 wq := by rw [hwq]; exact below_regrown _ _ _
    clear hwq pq
    have cq := c1.trans (hq.mono c1.size)
    go_wp2
    go_ret
    exact ⟨by simp, cq⟩

theorem bondKey_any (k a b n : Int) (w : World) : Calls Tryz.prog 150 #[.agg #[.int .i64 k, .int .i64 a, .int .i64 b, .int .i64 n]] w fun e w' => e = .returned (.int .i64 (keyOf 2 a)) ∧ Below w.heap.size w w' := by
  go_enter Tryz.func150, Tryz.ntmps150
  go_wp2_with fail
  refine (implMake_any _ _ _).mono ?_
  rintro e w1 ⟨rfl, rfl⟩
  go_wp2
  go_ret
  exact ⟨by simp, by go_grown⟩
theorem bondOther_any (k a b n : Int) (w : World) : Calls Tryz.prog 151 #[.agg #[.int .i64 k, .int .i64 a, .int .i64 b, .int .i64 n]] w fun e w' => e = .returned (.int .i64 (keyOf 1 b)) ∧ Below w.heap.size w w' := by
  go_enter Tryz.func151, Tryz.ntmps151
  go_wp2_with fail
  refine (implMake_any _ _ _).mono ?_
  rintro e w1 ⟨rfl, rfl⟩
  go_wp2
  go_ret
  exact ⟨by simp, by go_grown⟩
theorem keyIn_of {kd a : Int} (h0 : 0 ≤ kd) (h1 : kd < 3) : keyIn (keyOf kd a) = decide (0 ≤ a ∧ a < 8) := by
  by_cases h : 0 ≤ a ∧ a < 8
  · rw [keyOf_in h0 h1 h.1 h.2, keyIn_yes (by omega) (by omega)]; simp [h]
  · rw [keyOf_out (by omega), keyIn_no (by omega)]; simp [h]
end Go.Proofs.YtefhpbcdjgllnaaGreat
