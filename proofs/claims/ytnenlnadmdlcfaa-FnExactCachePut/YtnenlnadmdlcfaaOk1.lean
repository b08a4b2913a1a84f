/- The small functions beneath EdgeOk: contracts. -/
import Derived.Test.YtnenlnadmdlcfaaOkP
import Derived.Deep.RegionHeld3
import Derived.Deep.DrawnRows
namespace Go.Proofs.Ytnenlnadmdlcfaa
open Go.RowKit
attribute [local go_sem ↓] Go.wp_at_zero Go.wp_at_succ

set_option maxHeartbeats 1000000 in
theorem edgeRight_any (a b : Int) (w : World) :
    Calls Try.prog 91 #[.agg #[.int .i64 a, .int .i64 b]] w fun e w' => e = .returned (.bool (rightB (a, b))) ∧ Below w.heap.size w w' := by
  go_enter Try.func91, Try.ntmps91
  go_wp2
  all_goals
    go_ret
    exact ⟨by first | (simp_all [rightB]; done) | (simp_all [rightB]; omega), by go_grown⟩

set_option maxHeartbeats 1000000 in
theorem l1One_any (a b : Int) (w : World) :
    Calls Try.prog 86 #[.agg #[.int .i64 a, .int .i64 b]] w fun e w' => e = .returned (.bool (rightB (a, b))) ∧ Below w.heap.size w w' := by
  go_enter Try.func86, Try.ntmps86
  go_wp2
  all_goals
    go_ret
    exact ⟨by first | (simp_all [rightB]; done) | (simp_all [rightB]; omega), by go_grown⟩

set_option maxHeartbeats 1000000 in
theorem l1Ahead_any (a b c d : Int) (w : World) :
    Calls Try.prog 87 #[.agg #[.int .i64 a, .int .i64 b], .agg #[.int .i64 c, .int .i64 d]] w fun e w' => e = .returned (.bool (aheadB (a, b) (c, d))) ∧ Below w.heap.size w w' := by
  go_enter Try.func87, Try.ntmps87
  go_wp2
  all_goals
    go_ret
    exact ⟨by first | (simp_all [aheadB]; done) | (simp_all [aheadB]; omega), by go_grown⟩

set_option maxHeartbeats 1000000 in
theorem compare_any (a b : Int) (w : World) :
    Calls Try.prog 96 #[.int .i64 a, .int .i64 b] w fun e w' => e = .returned (.int .i64 (cmpI a b)) ∧ w' = w := by
  go_enter Try.func96, Try.ntmps96
  go_wp2
  all_goals
    go_ret
    exact ⟨by first | (simp_all [cmpI]; done) | (simp [cmpI]; split <;> first | omega | (split <;> omega)), rfl⟩

def orI (x y : Int) : Int := if x ≠ 0 then x else y
theorem orI_cmp (x y : Int × Int) : orI (cmpI y.2 x.2) (cmpI x.1 y.1) = cmpE x y := rfl

set_option maxHeartbeats 1000000 in
theorem or_any (b : Nat) (x y : Int) (w : World) (c0 : w.cell? ⟨b, 0, none⟩ = some (.int .i64 x)) (c1 : w.cell? ⟨b, 1, none⟩ = some (.int .i64 y)) :
    Calls Try.prog 95 #[.slice (some ⟨b, 0, none⟩) 2 2] w fun e w' => e = .returned (.int .i64 (orI x y)) ∧ w' = w := by
  by_cases hx : x = 0
  · subst hx
    by_cases hy : y = 0
    · subst hy
      go_enter Try.func95, Try.ntmps95
      go_wp2
      go_rounds 3
      go_ret
      exact ⟨by simp [orI], rfl⟩
    · have hy' : (y == 0) = false := beq_eq_false_iff_ne.2 hy
      go_enter Try.func95, Try.ntmps95
      go_wp2
      go_rounds 3
      go_ret
      exact ⟨by simp [orI], rfl⟩
  · have hx' : (x == 0) = false := beq_eq_false_iff_ne.2 hx
    go_enter Try.func95, Try.ntmps95
    go_wp2
    go_rounds 3
    go_ret
    exact ⟨by simp [orI, hx], rfl⟩

set_option maxHeartbeats 1000000 in
theorem compareEdges_any (a b c d : Int) (w : World) :
    Calls Try.prog 93 #[.agg #[.int .i64 a, .int .i64 b], .agg #[.int .i64 c, .int .i64 d]] w fun e w' => e = .returned (.int .i64 (cmpE (a, b) (c, d))) ∧ Below w.heap.size w w' := by
  go_enter Try.func93, Try.ntmps93
  go_wp2
  go_region_held3 (fun w' => w'.cell? ⟨w.heap.size, 0, none⟩ = some (.int .i64 a) ∧ w'.cell? ⟨w.heap.size, 1, none⟩ = some (.int .i64 b) ∧ w'.cell? ⟨w.heap.size + 1, 0, none⟩ = some (.int .i64 c) ∧ w'.cell? ⟨w.heap.size + 1, 1, none⟩ = some (.int .i64 d)) (simp [go_sem, World.cell?_alloc_past]) (first | (go_at_call 96; refine (compare_any _ _ _).mono ?_; rintro e w' ⟨rfl, rfl⟩) | (go_at_call 95; refine (or_any _ (cmpI d b) (cmpI a c) _ (by simp [go_sem]) (by simp [go_sem])).mono ?_; rintro e w' ⟨rfl, rfl⟩))
  go_wp2
  go_ret
  exact ⟨by simp [← orI_cmp], by go_grown⟩
end Go.Proofs.Ytnenlnadmdlcfaa
