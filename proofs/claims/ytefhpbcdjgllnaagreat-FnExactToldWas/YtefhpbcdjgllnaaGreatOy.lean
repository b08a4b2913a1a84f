/- impl.writeOf: contract; OpOk, OpOther. -/
import Derived.Test.YtefhpbcdjgllnaaGreatOx
namespace Go.Proofs.YtefhpbcdjgllnaaGreat
open Go.RowKit
attribute [local go_sem ↓] Go.wp_at_zero Go.wp_at_succ

theorem kindW_set (a b n : Int) (w : World) : Calls Tryz.prog 114 #[.agg #[.int .i64 1, .int .i64 a, .int .i64 b, .int .i64 n]] w fun e w' => e = .returned (setW 1 a b n) ∧ Below w.heap.size w w' := by
  go_enter Tryz.func114, Tryz.ntmps114
  go_wp2
  go_ret
  exact ⟨by simp, by go_grown⟩
theorem kindW_bind (a b n : Int) (w : World) : Calls Tryz.prog 114 #[.agg #[.int .i64 2, .int .i64 a, .int .i64 b, .int .i64 n]] w fun e w' => e = .returned (bindW 2 a b n) ∧ Below w.heap.size w w' := by
  go_enter Tryz.func114, Tryz.ntmps114
  go_wp2
  go_ret
  exact ⟨by simp, by go_grown⟩
theorem kindW_part (a b n : Int) (w : World) : Calls Tryz.prog 114 #[.agg #[.int .i64 3, .int .i64 a, .int .i64 b, .int .i64 n]] w fun e w' => e = .returned (partW 3 a b n) ∧ Below w.heap.size w w' := by
  go_enter Tryz.func114, Tryz.ntmps114
  go_wp2
  go_ret
  exact ⟨by simp, by go_grown⟩
theorem kindW_no (k a b n : Int) (w : World) (h1 : k ≠ 1) (h2 : k ≠ 2) (h3 : k ≠ 3) : Calls Tryz.prog 114 #[.agg #[.int .i64 k, .int .i64 a, .int .i64 b, .int .i64 n]] w fun e w' => e = .returned noW ∧ Below w.heap.size w w' := by
  go_enter Tryz.func114, Tryz.ntmps114
  go_wp2
  all_goals
    first
      | (go_ret; exact ⟨by simp, by go_grown⟩)
      | (exfalso; omega)

theorem setR_of {k a b n : Int} (h : setOk k a b n) : setR a b n = true := by simp [setR, h.2.1, h.2.2.1, h.2.2.2]
theorem bindR_of {k a b n : Int} (h : bindOk k a b n) : bindR a b n = true := by
  obtain ⟨_, h1, h2, h3, h4⟩ := h
  simp [bindR, endsR, h1, h2, h3, h4]
theorem partR_of {k a b n : Int} (h : partOk k a b n) : partR a b n = true := by
  obtain ⟨_, h1, h2, h3, h4⟩ := h
  simp [partR, endsR, h1, h2, h3, h4]
theorem setR_no {a b n : Int} (h : ¬ setOk 1 a b n) : setR a b n = false := by
  rw [setR, decide_eq_false]; intro x; exact h ⟨rfl, x.1, x.2.1, x.2.2⟩
theorem bindR_no {a b n : Int} (h : ¬ bindOk 2 a b n) : bindR a b n = false := by
  rw [Bool.eq_false_iff]
  intro x
  rw [bindR, endsR, Bool.and_eq_true, decide_eq_true_eq, decide_eq_true_eq] at x
  exact h ⟨rfl, x.1.1, x.1.2.1, x.1.2.2, x.2⟩
theorem partR_no {a b n : Int} (h : ¬ partOk 3 a b n) : partR a b n = false := by
  rw [Bool.eq_false_iff]
  intro x
  rw [partR, endsR, Bool.and_eq_true, decide_eq_true_eq, beq_iff_eq] at x
  exact h ⟨rfl, x.1.1, x.1.2.1, x.1.2.2, x.2⟩

set_option maxHeartbeats 1000000 in
theorem writeOf_set {k a b n : Int} (h : setOk k a b n) (w : World) : Calls Tryz.prog 107 #[.agg #[.int .i64 k, .int .i64 a, .int .i64 b, .int .i64 n]] w fun e w' => e = .returned (setW k a b n) ∧ Below w.heap.size w w' := by
  have hr := setR_of h
  obtain ⟨rfl, -⟩ := h
  have hm := method_setRight 1 a b n
  go_enter Tryz.func107, Tryz.ntmps107
  go_wp2_with fail
  refine (kindW_set a b n _).mono ?_
  rintro e w1 ⟨rfl, b1⟩
  have c1 : Below w.heap.size w w1 := (Below.trans (by go_grown) (b1.mono (by first | omega | (simp; done) | (simp; omega))))
  clear b1
  go_wp2_with fail
  refine (setRight_any 1 a b n _).mono ?_
  rintro e w2 ⟨rfl, b2⟩
  have c2 : Below w.heap.size w w2 := c1.trans (b2.mono c1.size)
  rw [hr]
  go_wp2
  go_ret
  exact ⟨by simp, c2⟩
set_option maxHeartbeats 1000000 in
theorem writeOf_bind {k a b n : Int} (h : bindOk k a b n) (w : World) : Calls Tryz.prog 107 #[.agg #[.int .i64 k, .int .i64 a, .int .i64 b, .int .i64 n]] w fun e w' => e = .returned (bindW k a b n) ∧ Below w.heap.size w w' := by
  have hr := bindR_of h
  obtain ⟨rfl, -⟩ := h
  have hm := method_bindRight 2 a b n
  go_enter Tryz.func107, Tryz.ntmps107
  go_wp2_with fail
  refine (kindW_bind a b n _).mono ?_
  rintro e w1 ⟨rfl, b1⟩
  have c1 : Below w.heap.size w w1 := (Below.trans (by go_grown) (b1.mono (by first | omega | (simp; done) | (simp; omega))))
  clear b1
  go_wp2_with fail
  refine (bindRight_any 2 a b n _).mono ?_
  rintro e w2 ⟨rfl, b2⟩
  have c2 : Below w.heap.size w w2 := c1.trans (b2.mono c1.size)
  rw [hr]
  go_wp2
  go_ret
  exact ⟨by simp, c2⟩
set_option maxHeartbeats 1000000 in
theorem writeOf_part {k a b n : Int} (h : partOk k a b n) (w : World) : Calls Tryz.prog 107 #[.agg #[.int .i64 k, .int .i64 a, .int .i64 b, .int .i64 n]] w fun e w' => e = .returned (partW k a b n) ∧ Below w.heap.size w w' := by
  have hr := partR_of h
  obtain ⟨rfl, -⟩ := h
  have hm := method_partRight 3 a b n
  go_enter Tryz.func107, Tryz.ntmps107
  go_wp2_with fail
  refine (kindW_part a b n _).mono ?_
  rintro e w1 ⟨rfl, b1⟩
  have c1 : Below w.heap.size w w1 := (Below.trans (by go_grown) (b1.mono (by first | omega | (simp; done) | (simp; omega))))
  clear b1
  go_wp2_with fail
  refine (partRight_any 3 a b n _).mono ?_
  rintro e w2 ⟨rfl, b2⟩
  have c2 : Below w.heap.size w w2 := c1.trans (b2.mono c1.size)
  rw [hr]
  go_wp2
  go_ret
  exact ⟨by simp, c2⟩
set_option maxHeartbeats 1000000 in
theorem writeOf_no {k a b n : Int} (h1 : ¬ setOk k a b n) (h2 : ¬ bindOk k a b n) (h3 : ¬ partOk k a b n) (w : World) : Calls Tryz.prog 107 #[.agg #[.int .i64 k, .int .i64 a, .int .i64 b, .int .i64 n]] w fun e w' => e = .returned noW ∧ Below w.heap.size w w' := by
  by_cases e1 : k = 1
  · subst e1
    have hr := setR_no h1
    have hm := method_setRight 1 a b n
    clear h1 h2 h3
    go_enter Tryz.func107, Tryz.ntmps107
    go_wp2_with fail
    refine (kindW_set a b n _).mono ?_
    rintro e w1 ⟨rfl, b1⟩
    have c1 : Below w.heap.size w w1 := (Below.trans (by go_grown) (b1.mono (by first | omega | (simp; done) | (simp; omega))))
    clear b1
    go_wp2_with fail
    refine (setRight_any 1 a b n _).mono ?_
    rintro e w2 ⟨rfl, b2⟩
    have c2 : Below w.heap.size w w2 := c1.trans (b2.mono c1.size)
    rw [hr]
    go_wp2
    go_ret
    exact ⟨by simp, c2⟩
  · by_cases e2 : k = 2
    · subst e2
      have hr := bindR_no h2
      have hm := method_bindRight 2 a b n
      clear h1 h2 h3 e1
      go_enter Tryz.func107, Tryz.ntmps107
      go_wp2_with fail
      refine (kindW_bind a b n _).mono ?_
      rintro e w1 ⟨rfl, b1⟩
      have c1 : Below w.heap.size w w1 := (Below.trans (by go_grown) (b1.mono (by first | omega | (simp; done) | (simp; omega))))
      clear b1
      go_wp2_with fail
      refine (bindRight_any 2 a b n _).mono ?_
      rintro e w2 ⟨rfl, b2⟩
      have c2 : Below w.heap.size w w2 := c1.trans (b2.mono c1.size)
      rw [hr]
      go_wp2
      go_ret
      exact ⟨by simp, c2⟩
    · by_cases e3 : k = 3
      · subst e3
        have hr := partR_no h3
        have hm := method_partRight 3 a b n
        clear h1 h2 h3 e1 e2
        go_enter Tryz.func107, Tryz.ntmps107
        go_wp2_with fail
        refine (kindW_part a b n _).mono ?_
        rintro e w1 ⟨rfl, b1⟩
        have c1 : Below w.heap.size w w1 := (Below.trans (by go_grown) (b1.mono (by first | omega | (simp; done) | (simp; omega))))
        clear b1
        go_wp2_with fail
        refine (partRight_any 3 a b n _).mono ?_
        rintro e w2 ⟨rfl, b2⟩
        have c2 : Below w.heap.size w w2 := c1.trans (b2.mono c1.size)
        rw [hr]
        go_wp2
        go_ret
        exact ⟨by simp, c2⟩
      · have hm := method_noRight
        have HK := kindW_no k a b n
        clear h1 h2 h3
        go_enter Tryz.func107, Tryz.ntmps107
        go_wp2_with fail
        refine (HK _ e1 e2 e3).mono ?_
        rintro e w1 ⟨rfl, b1⟩
        have c1 : Below w.heap.size w w1 := (Below.trans (by go_grown) (b1.mono (by first | omega | (simp; done) | (simp; omega))))
        clear b1 HK
        go_wp2_with fail
        refine (noRight_any _).mono ?_
        rintro e w2 ⟨rfl, b2⟩
        have c2 : Below w.heap.size w w2 := c1.trans (b2.mono c1.size)
        go_wp2
        go_ret
        exact ⟨by simp, c2⟩
end Go.Proofs.YtefhpbcdjgllnaaGreat
