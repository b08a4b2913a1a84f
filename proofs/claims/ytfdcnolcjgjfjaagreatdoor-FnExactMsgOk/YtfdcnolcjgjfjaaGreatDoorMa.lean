/- Both MsgSame, both MsgUp: contracts. Written by a program (gma.py). -/
import Derived.Test.YtfdcnolcjgjfjaaGreatDoorSMsg
import Derived.Test.YtfdcnolcjgjfjaaGreatDoorCa
import Derived.Test.YtfdcnolcjgjfjaaGreatDoorCb
namespace Go.Proofs.YtfdcnolcjgjfjaaGreatDoor
open Go.RowKit
attribute [local go_sem ↓] Go.wp_at_zero Go.wp_at_succ

/-- Are two messages one? (A name that the walk does not take apart.) -/
def sameM (ia ib : List Int) (la lb : List (Int × Int)) (va vb : List KD) : Bool := decide (ia = ib ∧ la = lb ∧ va = vb)
theorem sameM_no {ia ib : List Int} {la lb : List (Int × Int)} {va vb : List KD} (h : ¬ (ia = ib ∧ la = lb ∧ va = vb)) : sameM ia ib la lb va vb = false := decide_eq_false h
theorem sameM_refl (ia : List Int) (la : List (Int × Int)) (va : List KD) : sameM ia ia la la va va = true := by simp [sameM]
theorem sameM_vers {ia : List Int} {la : List (Int × Int)} {va vb : List KD} : sameM ia ia la la va vb = eqM va vb := by simp [sameM, eqM]
theorem eqK_item {p0 p1 p2 t0 t1 t2 : Int} {la lb : List (Int × Int)} (h : eqK ([p0, p1, p2], la) ([t0, t1, t2], lb) = true) : p0 = t0 ∧ p1 = t1 ∧ p2 = t2 ∧ la = lb := by
  have := eqK_iff.1 h
  simp at this
  exact ⟨this.1.1, this.1.2.1, this.1.2.2, this.2⟩
def upM (k : Int) : Bool := decide (k = 1 ∨ k = 3 ∨ k = 7 ∨ k = 9 ∨ k = 10)

set_option maxHeartbeats 4000000 in
theorem specMUp_any (p0 p1 p2 p3 p4 p5 p6 p7 p8 p9 p10 p11 p12 : Int) (v0 v1 : Value) (w : World) :
    Calls Tryz.prog 15 #[.agg #[.int .i64 p0, .int .i64 p1, .int .i64 p2, .int .i64 p3, .int .i64 p4, .int .i64 p5, .int .i64 p6, .int .i64 p7, .int .i64 p8, .int .i64 p9, .int .i64 p10, .int .i64 p11, v0, v1, .int .i64 p12]] w fun e w' => e = .returned (.bool (upM p0)) ∧ Below w.heap.size w w' := by
  by_cases h1 : p0 = 1
  · subst h1
    go_enter Tryz.func15, Tryz.ntmps15
    go_wp2_with fail
    go_ret
    exact ⟨by simp [upM], by go_grown⟩
  by_cases h3 : p0 = 3
  · subst h3
    go_enter Tryz.func15, Tryz.ntmps15
    go_wp2_with fail
    go_ret
    exact ⟨by simp [upM], by go_grown⟩
  by_cases h7 : p0 = 7
  · subst h7
    go_enter Tryz.func15, Tryz.ntmps15
    go_wp2_with fail
    go_ret
    exact ⟨by simp [upM], by go_grown⟩
  by_cases h9 : p0 = 9
  · subst h9
    go_enter Tryz.func15, Tryz.ntmps15
    go_wp2_with fail
    go_ret
    exact ⟨by simp [upM], by go_grown⟩
  by_cases h10 : p0 = 10
  · subst h10
    go_enter Tryz.func15, Tryz.ntmps15
    go_wp2_with fail
    go_ret
    exact ⟨by simp [upM], by go_grown⟩
  have hu : upM p0 = false := by simp [upM]; omega
  have g1 : (p0 == 1) = false := by simpa using h1
  have g3 : (p0 == 3) = false := by simpa using h3
  have g7 : (p0 == 7) = false := by simpa using h7
  have g9 : (p0 == 9) = false := by simpa using h9
  have g10 : (p0 == 10) = false := by simpa using h10
  rw [hu]
  go_enter Tryz.func15, Tryz.ntmps15
  go_wp2_with fail
  go_ret
  exact ⟨by simp, by go_grown⟩

set_option maxHeartbeats 4000000 in
theorem implMUp_any (p0 p1 p2 p3 p4 p5 p6 p7 p8 p9 p10 p11 p12 : Int) (v0 v1 : Value) (w : World) :
    Calls Tryz.prog 14 #[.agg #[.int .i64 p0, .int .i64 p1, .int .i64 p2, .int .i64 p3, .int .i64 p4, .int .i64 p5, .int .i64 p6, .int .i64 p7, .int .i64 p8, .int .i64 p9, .int .i64 p10, .int .i64 p11, v0, v1, .int .i64 p12]] w fun e w' => e = .returned (.bool (upM p0)) ∧ Below w.heap.size w w' := by
  by_cases h1 : p0 = 1
  · subst h1
    go_enter Tryz.func14, Tryz.ntmps14
    go_wp2_with fail
    go_ret
    exact ⟨by simp [upM], by go_grown⟩
  by_cases h3 : p0 = 3
  · subst h3
    go_enter Tryz.func14, Tryz.ntmps14
    go_wp2_with fail
    go_ret
    exact ⟨by simp [upM], by go_grown⟩
  by_cases h7 : p0 = 7
  · subst h7
    go_enter Tryz.func14, Tryz.ntmps14
    go_wp2_with fail
    go_ret
    exact ⟨by simp [upM], by go_grown⟩
  by_cases h9 : p0 = 9
  · subst h9
    go_enter Tryz.func14, Tryz.ntmps14
    go_wp2_with fail
    go_ret
    exact ⟨by simp [upM], by go_grown⟩
  by_cases h10 : p0 = 10
  · subst h10
    go_enter Tryz.func14, Tryz.ntmps14
    go_wp2_with fail
    go_ret
    exact ⟨by simp [upM], by go_grown⟩
  have hu : upM p0 = false := by simp [upM]; omega
  have g1 : (p0 == 1) = false := by simpa using h1
  have g3 : (p0 == 3) = false := by simpa using h3
  have g7 : (p0 == 7) = false := by simpa using h7
  have g9 : (p0 == 9) = false := by simpa using h9
  have g10 : (p0 == 10) = false := by simpa using h10
  rw [hu]
  go_enter Tryz.func14, Tryz.ntmps14
  go_wp2_with fail
  go_ret
  exact ⟨by simp, by go_grown⟩

set_option maxRecDepth 100000 in
set_option maxHeartbeats 4000000 in
theorem specMSame_any (p0 p1 p2 p3 p4 p5 p6 p7 p8 p9 p10 p11 p12 t0 t1 t2 t3 t4 t5 t6 t7 t8 t9 t10 t11 t12 : Int) (va0 va1 vb0 vb1 : Value) (LA LB : List (Int × Int)) (VA VB : List KD) (w : World) (ha : RSMsg w va0 va1 LA VA) (hb : RSMsg w vb0 vb1 LB VB) :
    Calls Tryz.prog 21 #[.agg #[.int .i64 p0, .int .i64 p1, .int .i64 p2, .int .i64 p3, .int .i64 p4, .int .i64 p5, .int .i64 p6, .int .i64 p7, .int .i64 p8, .int .i64 p9, .int .i64 p10, .int .i64 p11, va0, va1, .int .i64 p12], .agg #[.int .i64 t0, .int .i64 t1, .int .i64 t2, .int .i64 t3, .int .i64 t4, .int .i64 t5, .int .i64 t6, .int .i64 t7, .int .i64 t8, .int .i64 t9, .int .i64 t10, .int .i64 t11, vb0, vb1, .int .i64 t12]] w fun e w' => e = .returned (.bool (sameM [p0, p1, p2, p3, p4, p5, p6, p7, p8, p9, p10, p11, p12] [t0, t1, t2, t3, t4, t5, t6, t7, t8, t9, t10, t11, t12] LA LB VA VB)) ∧ Below w.heap.size w w' := by
  have HA := hid ha
  have HB := hid hb
  obtain ⟨ao0, ao1, ac0, ac1, rfl, rfl⟩ := ha.open
  obtain ⟨bo0, bo1, bc0, bc1, rfl, rfl⟩ := hb.open
  clear ha hb
  by_cases h0 : p0 = t0
  case neg =>
    have hno : sameM [p0, p1, p2, p3, p4, p5, p6, p7, p8, p9, p10, p11, p12] [t0, t1, t2, t3, t4, t5, t6, t7, t8, t9, t10, t11, t12] LA LB VA VB = false := sameM_no (fun h => h0 (by have := h.1; simp at this; exact this.1))
    have hne : (p0 == t0) = false := by simpa using h0
    go_enter Tryz.func21, Tryz.ntmps21
    go_wp2_with fail
    go_ret
    exact ⟨by simp [hno], by go_grown⟩
  subst h0
  by_cases h1 : p1 = t1
  case neg =>
    have hno : sameM [p0, p1, p2, p3, p4, p5, p6, p7, p8, p9, p10, p11, p12] [p0, t1, t2, t3, t4, t5, t6, t7, t8, t9, t10, t11, t12] LA LB VA VB = false := sameM_no (fun h => h1 (by have := h.1; simp at this; exact this.1))
    have hne : (p1 == t1) = false := by simpa using h1
    go_enter Tryz.func21, Tryz.ntmps21
    go_wp2_with fail
    go_ret
    exact ⟨by simp [hno], by go_grown⟩
  subst h1
  by_cases h2 : p2 = t2
  case neg =>
    have hno : sameM [p0, p1, p2, p3, p4, p5, p6, p7, p8, p9, p10, p11, p12] [p0, p1, t2, t3, t4, t5, t6, t7, t8, t9, t10, t11, t12] LA LB VA VB = false := sameM_no (fun h => h2 (by have := h.1; simp at this; exact this.1))
    have hne : (p2 == t2) = false := by simpa using h2
    go_enter Tryz.func21, Tryz.ntmps21
    go_wp2_with fail
    go_ret
    exact ⟨by simp [hno], by go_grown⟩
  subst h2
  by_cases h3 : p3 = t3
  case neg =>
    have hno : sameM [p0, p1, p2, p3, p4, p5, p6, p7, p8, p9, p10, p11, p12] [p0, p1, p2, t3, t4, t5, t6, t7, t8, t9, t10, t11, t12] LA LB VA VB = false := sameM_no (fun h => h3 (by have := h.1; simp at this; exact this.1))
    have hne : (p3 == t3) = false := by simpa using h3
    go_enter Tryz.func21, Tryz.ntmps21
    go_wp2_with fail
    go_ret
    exact ⟨by simp [hno], by go_grown⟩
  subst h3
  by_cases h4 : p4 = t4
  case neg =>
    have hno : sameM [p0, p1, p2, p3, p4, p5, p6, p7, p8, p9, p10, p11, p12] [p0, p1, p2, p3, t4, t5, t6, t7, t8, t9, t10, t11, t12] LA LB VA VB = false := sameM_no (fun h => h4 (by have := h.1; simp at this; exact this.1))
    have hne : (p4 == t4) = false := by simpa using h4
    go_enter Tryz.func21, Tryz.ntmps21
    go_wp2_with fail
    go_ret
    exact ⟨by simp [hno], by go_grown⟩
  subst h4
  by_cases h5 : p5 = t5
  case neg =>
    have hno : sameM [p0, p1, p2, p3, p4, p5, p6, p7, p8, p9, p10, p11, p12] [p0, p1, p2, p3, p4, t5, t6, t7, t8, t9, t10, t11, t12] LA LB VA VB = false := sameM_no (fun h => h5 (by have := h.1; simp at this; exact this.1))
    go_enter Tryz.func21, Tryz.ntmps21
    go_wp2_with fail
    go_ret
    exact ⟨by simp [hno], by go_grown⟩
  subst h5
  by_cases h6 : p6 = t6
  case neg =>
    have hno : sameM [p0, p1, p2, p3, p4, p5, p6, p7, p8, p9, p10, p11, p12] [p0, p1, p2, p3, p4, p5, t6, t7, t8, t9, t10, t11, t12] LA LB VA VB = false := sameM_no (fun h => h6 (by have := h.1; simp at this; exact this.1))
    go_enter Tryz.func21, Tryz.ntmps21
    go_wp2_with fail
    go_ret
    exact ⟨by simp [hno], by go_grown⟩
  subst h6
  by_cases h7 : p7 = t7
  case neg =>
    have hno : sameM [p0, p1, p2, p3, p4, p5, p6, p7, p8, p9, p10, p11, p12] [p0, p1, p2, p3, p4, p5, p6, t7, t8, t9, t10, t11, t12] LA LB VA VB = false := sameM_no (fun h => h7 (by have := h.1; simp at this; exact this.1))
    go_enter Tryz.func21, Tryz.ntmps21
    go_wp2_with fail
    go_ret
    exact ⟨by simp [hno], by go_grown⟩
  subst h7
  by_cases h8 : p8 = t8
  case neg =>
    have hno : sameM [p0, p1, p2, p3, p4, p5, p6, p7, p8, p9, p10, p11, p12] [p0, p1, p2, p3, p4, p5, p6, p7, t8, t9, t10, t11, t12] LA LB VA VB = false := sameM_no (fun h => h8 (by have := h.1; simp at this; exact this.1))
    go_enter Tryz.func21, Tryz.ntmps21
    go_wp2_with fail
    go_ret
    exact ⟨by simp [hno], by go_grown⟩
  subst h8
  go_enter Tryz.func21, Tryz.ntmps21
  go_wp2_with fail
  have a0_1 : ((w.alloc (.cells #[.int .i64 p0, .int .i64 p1, .int .i64 p2, .int .i64 p3, .int .i64 p4, .int .i64 p5, .int .i64 p6, .int .i64 p7, .int .i64 p8, .int .i64 p9, .int .i64 p10, .int .i64 p11, .slice ao0 LA.length ac0, .slice ao1 VA.length ac1, .int .i64 p12] 32)).alloc (.cells #[.int .i64 p0, .int .i64 p1, .int .i64 p2, .int .i64 p3, .int .i64 p4, .int .i64 p5, .int .i64 p6, .int .i64 p7, .int .i64 p8, .int .i64 t9, .int .i64 t10, .int .i64 t11, .slice bo0 LB.length bc0, .slice bo1 VB.length bc1, .int .i64 t12] 32)).cell? ⟨w.heap.size, 0, none⟩ = some (.int .i64 p0) := by go_cell
  have a1_1 : ((w.alloc (.cells #[.int .i64 p0, .int .i64 p1, .int .i64 p2, .int .i64 p3, .int .i64 p4, .int .i64 p5, .int .i64 p6, .int .i64 p7, .int .i64 p8, .int .i64 p9, .int .i64 p10, .int .i64 p11, .slice ao0 LA.length ac0, .slice ao1 VA.length ac1, .int .i64 p12] 32)).alloc (.cells #[.int .i64 p0, .int .i64 p1, .int .i64 p2, .int .i64 p3, .int .i64 p4, .int .i64 p5, .int .i64 p6, .int .i64 p7, .int .i64 p8, .int .i64 t9, .int .i64 t10, .int .i64 t11, .slice bo0 LB.length bc0, .slice bo1 VB.length bc1, .int .i64 t12] 32)).cell? ⟨w.heap.size, 1, none⟩ = some (.int .i64 p1) := by go_cell
  have a2_1 : ((w.alloc (.cells #[.int .i64 p0, .int .i64 p1, .int .i64 p2, .int .i64 p3, .int .i64 p4, .int .i64 p5, .int .i64 p6, .int .i64 p7, .int .i64 p8, .int .i64 p9, .int .i64 p10, .int .i64 p11, .slice ao0 LA.length ac0, .slice ao1 VA.length ac1, .int .i64 p12] 32)).alloc (.cells #[.int .i64 p0, .int .i64 p1, .int .i64 p2, .int .i64 p3, .int .i64 p4, .int .i64 p5, .int .i64 p6, .int .i64 p7, .int .i64 p8, .int .i64 t9, .int .i64 t10, .int .i64 t11, .slice bo0 LB.length bc0, .slice bo1 VB.length bc1, .int .i64 t12] 32)).cell? ⟨w.heap.size, 2, none⟩ = some (.int .i64 p2) := by go_cell
  have a3_1 : ((w.alloc (.cells #[.int .i64 p0, .int .i64 p1, .int .i64 p2, .int .i64 p3, .int .i64 p4, .int .i64 p5, .int .i64 p6, .int .i64 p7, .int .i64 p8, .int .i64 p9, .int .i64 p10, .int .i64 p11, .slice ao0 LA.length ac0, .slice ao1 VA.length ac1, .int .i64 p12] 32)).alloc (.cells #[.int .i64 p0, .int .i64 p1, .int .i64 p2, .int .i64 p3, .int .i64 p4, .int .i64 p5, .int .i64 p6, .int .i64 p7, .int .i64 p8, .int .i64 t9, .int .i64 t10, .int .i64 t11, .slice bo0 LB.length bc0, .slice bo1 VB.length bc1, .int .i64 t12] 32)).cell? ⟨w.heap.size, 3, none⟩ = some (.int .i64 p3) := by go_cell
  have a4_1 : ((w.alloc (.cells #[.int .i64 p0, .int .i64 p1, .int .i64 p2, .int .i64 p3, .int .i64 p4, .int .i64 p5, .int .i64 p6, .int .i64 p7, .int .i64 p8, .int .i64 p9, .int .i64 p10, .int .i64 p11, .slice ao0 LA.length ac0, .slice ao1 VA.length ac1, .int .i64 p12] 32)).alloc (.cells #[.int .i64 p0, .int .i64 p1, .int .i64 p2, .int .i64 p3, .int .i64 p4, .int .i64 p5, .int .i64 p6, .int .i64 p7, .int .i64 p8, .int .i64 t9, .int .i64 t10, .int .i64 t11, .slice bo0 LB.length bc0, .slice bo1 VB.length bc1, .int .i64 t12] 32)).cell? ⟨w.heap.size, 4, none⟩ = some (.int .i64 p4) := by go_cell
  have a5_1 : ((w.alloc (.cells #[.int .i64 p0, .int .i64 p1, .int .i64 p2, .int .i64 p3, .int .i64 p4, .int .i64 p5, .int .i64 p6, .int .i64 p7, .int .i64 p8, .int .i64 p9, .int .i64 p10, .int .i64 p11, .slice ao0 LA.length ac0, .slice ao1 VA.length ac1, .int .i64 p12] 32)).alloc (.cells #[.int .i64 p0, .int .i64 p1, .int .i64 p2, .int .i64 p3, .int .i64 p4, .int .i64 p5, .int .i64 p6, .int .i64 p7, .int .i64 p8, .int .i64 t9, .int .i64 t10, .int .i64 t11, .slice bo0 LB.length bc0, .slice bo1 VB.length bc1, .int .i64 t12] 32)).cell? ⟨w.heap.size, 5, none⟩ = some (.int .i64 p5) := by go_cell
  have a6_1 : ((w.alloc (.cells #[.int .i64 p0, .int .i64 p1, .int .i64 p2, .int .i64 p3, .int .i64 p4, .int .i64 p5, .int .i64 p6, .int .i64 p7, .int .i64 p8, .int .i64 p9, .int .i64 p10, .int .i64 p11, .slice ao0 LA.length ac0, .slice ao1 VA.length ac1, .int .i64 p12] 32)).alloc (.cells #[.int .i64 p0, .int .i64 p1, .int .i64 p2, .int .i64 p3, .int .i64 p4, .int .i64 p5, .int .i64 p6, .int .i64 p7, .int .i64 p8, .int .i64 t9, .int .i64 t10, .int .i64 t11, .slice bo0 LB.length bc0, .slice bo1 VB.length bc1, .int .i64 t12] 32)).cell? ⟨w.heap.size, 6, none⟩ = some (.int .i64 p6) := by go_cell
  have a7_1 : ((w.alloc (.cells #[.int .i64 p0, .int .i64 p1, .int .i64 p2, .int .i64 p3, .int .i64 p4, .int .i64 p5, .int .i64 p6, .int .i64 p7, .int .i64 p8, .int .i64 p9, .int .i64 p10, .int .i64 p11, .slice ao0 LA.length ac0, .slice ao1 VA.length ac1, .int .i64 p12] 32)).alloc (.cells #[.int .i64 p0, .int .i64 p1, .int .i64 p2, .int .i64 p3, .int .i64 p4, .int .i64 p5, .int .i64 p6, .int .i64 p7, .int .i64 p8, .int .i64 t9, .int .i64 t10, .int .i64 t11, .slice bo0 LB.length bc0, .slice bo1 VB.length bc1, .int .i64 t12] 32)).cell? ⟨w.heap.size, 7, none⟩ = some (.int .i64 p7) := by go_cell
  have a8_1 : ((w.alloc (.cells #[.int .i64 p0, .int .i64 p1, .int .i64 p2, .int .i64 p3, .int .i64 p4, .int .i64 p5, .int .i64 p6, .int .i64 p7, .int .i64 p8, .int .i64 p9, .int .i64 p10, .int .i64 p11, .slice ao0 LA.length ac0, .slice ao1 VA.length ac1, .int .i64 p12] 32)).alloc (.cells #[.int .i64 p0, .int .i64 p1, .int .i64 p2, .int .i64 p3, .int .i64 p4, .int .i64 p5, .int .i64 p6, .int .i64 p7, .int .i64 p8, .int .i64 t9, .int .i64 t10, .int .i64 t11, .slice bo0 LB.length bc0, .slice bo1 VB.length bc1, .int .i64 t12] 32)).cell? ⟨w.heap.size, 8, none⟩ = some (.int .i64 p8) := by go_cell
  have a9_1 : ((w.alloc (.cells #[.int .i64 p0, .int .i64 p1, .int .i64 p2, .int .i64 p3, .int .i64 p4, .int .i64 p5, .int .i64 p6, .int .i64 p7, .int .i64 p8, .int .i64 p9, .int .i64 p10, .int .i64 p11, .slice ao0 LA.length ac0, .slice ao1 VA.length ac1, .int .i64 p12] 32)).alloc (.cells #[.int .i64 p0, .int .i64 p1, .int .i64 p2, .int .i64 p3, .int .i64 p4, .int .i64 p5, .int .i64 p6, .int .i64 p7, .int .i64 p8, .int .i64 t9, .int .i64 t10, .int .i64 t11, .slice bo0 LB.length bc0, .slice bo1 VB.length bc1, .int .i64 t12] 32)).cell? ⟨w.heap.size, 9, none⟩ = some (.int .i64 p9) := by go_cell
  have a10_1 : ((w.alloc (.cells #[.int .i64 p0, .int .i64 p1, .int .i64 p2, .int .i64 p3, .int .i64 p4, .int .i64 p5, .int .i64 p6, .int .i64 p7, .int .i64 p8, .int .i64 p9, .int .i64 p10, .int .i64 p11, .slice ao0 LA.length ac0, .slice ao1 VA.length ac1, .int .i64 p12] 32)).alloc (.cells #[.int .i64 p0, .int .i64 p1, .int .i64 p2, .int .i64 p3, .int .i64 p4, .int .i64 p5, .int .i64 p6, .int .i64 p7, .int .i64 p8, .int .i64 t9, .int .i64 t10, .int .i64 t11, .slice bo0 LB.length bc0, .slice bo1 VB.length bc1, .int .i64 t12] 32)).cell? ⟨w.heap.size, 10, none⟩ = some (.int .i64 p10) := by go_cell
  have a11_1 : ((w.alloc (.cells #[.int .i64 p0, .int .i64 p1, .int .i64 p2, .int .i64 p3, .int .i64 p4, .int .i64 p5, .int .i64 p6, .int .i64 p7, .int .i64 p8, .int .i64 p9, .int .i64 p10, .int .i64 p11, .slice ao0 LA.length ac0, .slice ao1 VA.length ac1, .int .i64 p12] 32)).alloc (.cells #[.int .i64 p0, .int .i64 p1, .int .i64 p2, .int .i64 p3, .int .i64 p4, .int .i64 p5, .int .i64 p6, .int .i64 p7, .int .i64 p8, .int .i64 t9, .int .i64 t10, .int .i64 t11, .slice bo0 LB.length bc0, .slice bo1 VB.length bc1, .int .i64 t12] 32)).cell? ⟨w.heap.size, 11, none⟩ = some (.int .i64 p11) := by go_cell
  have a12_1 : ((w.alloc (.cells #[.int .i64 p0, .int .i64 p1, .int .i64 p2, .int .i64 p3, .int .i64 p4, .int .i64 p5, .int .i64 p6, .int .i64 p7, .int .i64 p8, .int .i64 p9, .int .i64 p10, .int .i64 p11, .slice ao0 LA.length ac0, .slice ao1 VA.length ac1, .int .i64 p12] 32)).alloc (.cells #[.int .i64 p0, .int .i64 p1, .int .i64 p2, .int .i64 p3, .int .i64 p4, .int .i64 p5, .int .i64 p6, .int .i64 p7, .int .i64 p8, .int .i64 t9, .int .i64 t10, .int .i64 t11, .slice bo0 LB.length bc0, .slice bo1 VB.length bc1, .int .i64 t12] 32)).cell? ⟨w.heap.size, 12, none⟩ = some (.slice ao0 LA.length ac0) := by go_cell
  have a13_1 : ((w.alloc (.cells #[.int .i64 p0, .int .i64 p1, .int .i64 p2, .int .i64 p3, .int .i64 p4, .int .i64 p5, .int .i64 p6, .int .i64 p7, .int .i64 p8, .int .i64 p9, .int .i64 p10, .int .i64 p11, .slice ao0 LA.length ac0, .slice ao1 VA.length ac1, .int .i64 p12] 32)).alloc (.cells #[.int .i64 p0, .int .i64 p1, .int .i64 p2, .int .i64 p3, .int .i64 p4, .int .i64 p5, .int .i64 p6, .int .i64 p7, .int .i64 p8, .int .i64 t9, .int .i64 t10, .int .i64 t11, .slice bo0 LB.length bc0, .slice bo1 VB.length bc1, .int .i64 t12] 32)).cell? ⟨w.heap.size, 13, none⟩ = some (.slice ao1 VA.length ac1) := by go_cell
  have a14_1 : ((w.alloc (.cells #[.int .i64 p0, .int .i64 p1, .int .i64 p2, .int .i64 p3, .int .i64 p4, .int .i64 p5, .int .i64 p6, .int .i64 p7, .int .i64 p8, .int .i64 p9, .int .i64 p10, .int .i64 p11, .slice ao0 LA.length ac0, .slice ao1 VA.length ac1, .int .i64 p12] 32)).alloc (.cells #[.int .i64 p0, .int .i64 p1, .int .i64 p2, .int .i64 p3, .int .i64 p4, .int .i64 p5, .int .i64 p6, .int .i64 p7, .int .i64 p8, .int .i64 t9, .int .i64 t10, .int .i64 t11, .slice bo0 LB.length bc0, .slice bo1 VB.length bc1, .int .i64 t12] 32)).cell? ⟨w.heap.size, 14, none⟩ = some (.int .i64 p12) := by go_cell
  have al_1 : w.heap.size < ((w.alloc (.cells #[.int .i64 p0, .int .i64 p1, .int .i64 p2, .int .i64 p3, .int .i64 p4, .int .i64 p5, .int .i64 p6, .int .i64 p7, .int .i64 p8, .int .i64 p9, .int .i64 p10, .int .i64 p11, .slice ao0 LA.length ac0, .slice ao1 VA.length ac1, .int .i64 p12] 32)).alloc (.cells #[.int .i64 p0, .int .i64 p1, .int .i64 p2, .int .i64 p3, .int .i64 p4, .int .i64 p5, .int .i64 p6, .int .i64 p7, .int .i64 p8, .int .i64 t9, .int .i64 t10, .int .i64 t11, .slice bo0 LB.length bc0, .slice bo1 VB.length bc1, .int .i64 t12] 32)).heap.size := by first | (simp; done) | (simp; omega)
  have b0_1 : ((w.alloc (.cells #[.int .i64 p0, .int .i64 p1, .int .i64 p2, .int .i64 p3, .int .i64 p4, .int .i64 p5, .int .i64 p6, .int .i64 p7, .int .i64 p8, .int .i64 p9, .int .i64 p10, .int .i64 p11, .slice ao0 LA.length ac0, .slice ao1 VA.length ac1, .int .i64 p12] 32)).alloc (.cells #[.int .i64 p0, .int .i64 p1, .int .i64 p2, .int .i64 p3, .int .i64 p4, .int .i64 p5, .int .i64 p6, .int .i64 p7, .int .i64 p8, .int .i64 t9, .int .i64 t10, .int .i64 t11, .slice bo0 LB.length bc0, .slice bo1 VB.length bc1, .int .i64 t12] 32)).cell? ⟨w.heap.size + 1, 0, none⟩ = some (.int .i64 p0) := by go_cell
  have b1_1 : ((w.alloc (.cells #[.int .i64 p0, .int .i64 p1, .int .i64 p2, .int .i64 p3, .int .i64 p4, .int .i64 p5, .int .i64 p6, .int .i64 p7, .int .i64 p8, .int .i64 p9, .int .i64 p10, .int .i64 p11, .slice ao0 LA.length ac0, .slice ao1 VA.length ac1, .int .i64 p12] 32)).alloc (.cells #[.int .i64 p0, .int .i64 p1, .int .i64 p2, .int .i64 p3, .int .i64 p4, .int .i64 p5, .int .i64 p6, .int .i64 p7, .int .i64 p8, .int .i64 t9, .int .i64 t10, .int .i64 t11, .slice bo0 LB.length bc0, .slice bo1 VB.length bc1, .int .i64 t12] 32)).cell? ⟨w.heap.size + 1, 1, none⟩ = some (.int .i64 p1) := by go_cell
  have b2_1 : ((w.alloc (.cells #[.int .i64 p0, .int .i64 p1, .int .i64 p2, .int .i64 p3, .int .i64 p4, .int .i64 p5, .int .i64 p6, .int .i64 p7, .int .i64 p8, .int .i64 p9, .int .i64 p10, .int .i64 p11, .slice ao0 LA.length ac0, .slice ao1 VA.length ac1, .int .i64 p12] 32)).alloc (.cells #[.int .i64 p0, .int .i64 p1, .int .i64 p2, .int .i64 p3, .int .i64 p4, .int .i64 p5, .int .i64 p6, .int .i64 p7, .int .i64 p8, .int .i64 t9, .int .i64 t10, .int .i64 t11, .slice bo0 LB.length bc0, .slice bo1 VB.length bc1, .int .i64 t12] 32)).cell? ⟨w.heap.size + 1, 2, none⟩ = some (.int .i64 p2) := by go_cell
  have b3_1 : ((w.alloc (.cells #[.int .i64 p0, .int .i64 p1, .int .i64 p2, .int .i64 p3, .int .i64 p4, .int .i64 p5, .int .i64 p6, .int .i64 p7, .int .i64 p8, .int .i64 p9, .int .i64 p10, .int .i64 p11, .slice ao0 LA.length ac0, .slice ao1 VA.length ac1, .int .i64 p12] 32)).alloc (.cells #[.int .i64 p0, .int .i64 p1, .int .i64 p2, .int .i64 p3, .int .i64 p4, .int .i64 p5, .int .i64 p6, .int .i64 p7, .int .i64 p8, .int .i64 t9, .int .i64 t10, .int .i64 t11, .slice bo0 LB.length bc0, .slice bo1 VB.length bc1, .int .i64 t12] 32)).cell? ⟨w.heap.size + 1, 3, none⟩ = some (.int .i64 p3) := by go_cell
  have b4_1 : ((w.alloc (.cells #[.int .i64 p0, .int .i64 p1, .int .i64 p2, .int .i64 p3, .int .i64 p4, .int .i64 p5, .int .i64 p6, .int .i64 p7, .int .i64 p8, .int .i64 p9, .int .i64 p10, .int .i64 p11, .slice ao0 LA.length ac0, .slice ao1 VA.length ac1, .int .i64 p12] 32)).alloc (.cells #[.int .i64 p0, .int .i64 p1, .int .i64 p2, .int .i64 p3, .int .i64 p4, .int .i64 p5, .int .i64 p6, .int .i64 p7, .int .i64 p8, .int .i64 t9, .int .i64 t10, .int .i64 t11, .slice bo0 LB.length bc0, .slice bo1 VB.length bc1, .int .i64 t12] 32)).cell? ⟨w.heap.size + 1, 4, none⟩ = some (.int .i64 p4) := by go_cell
  have b5_1 : ((w.alloc (.cells #[.int .i64 p0, .int .i64 p1, .int .i64 p2, .int .i64 p3, .int .i64 p4, .int .i64 p5, .int .i64 p6, .int .i64 p7, .int .i64 p8, .int .i64 p9, .int .i64 p10, .int .i64 p11, .slice ao0 LA.length ac0, .slice ao1 VA.length ac1, .int .i64 p12] 32)).alloc (.cells #[.int .i64 p0, .int .i64 p1, .int .i64 p2, .int .i64 p3, .int .i64 p4, .int .i64 p5, .int .i64 p6, .int .i64 p7, .int .i64 p8, .int .i64 t9, .int .i64 t10, .int .i64 t11, .slice bo0 LB.length bc0, .slice bo1 VB.length bc1, .int .i64 t12] 32)).cell? ⟨w.heap.size + 1, 5, none⟩ = some (.int .i64 p5) := by go_cell
  have b6_1 : ((w.alloc (.cells #[.int .i64 p0, .int .i64 p1, .int .i64 p2, .int .i64 p3, .int .i64 p4, .int .i64 p5, .int .i64 p6, .int .i64 p7, .int .i64 p8, .int .i64 p9, .int .i64 p10, .int .i64 p11, .slice ao0 LA.length ac0, .slice ao1 VA.length ac1, .int .i64 p12] 32)).alloc (.cells #[.int .i64 p0, .int .i64 p1, .int .i64 p2, .int .i64 p3, .int .i64 p4, .int .i64 p5, .int .i64 p6, .int .i64 p7, .int .i64 p8, .int .i64 t9, .int .i64 t10, .int .i64 t11, .slice bo0 LB.length bc0, .slice bo1 VB.length bc1, .int .i64 t12] 32)).cell? ⟨w.heap.size + 1, 6, none⟩ = some (.int .i64 p6) := by go_cell
  have b7_1 : ((w.alloc (.cells #[.int .i64 p0, .int .i64 p1, .int .i64 p2, .int .i64 p3, .int .i64 p4, .int .i64 p5, .int .i64 p6, .int .i64 p7, .int .i64 p8, .int .i64 p9, .int .i64 p10, .int .i64 p11, .slice ao0 LA.length ac0, .slice ao1 VA.length ac1, .int .i64 p12] 32)).alloc (.cells #[.int .i64 p0, .int .i64 p1, .int .i64 p2, .int .i64 p3, .int .i64 p4, .int .i64 p5, .int .i64 p6, .int .i64 p7, .int .i64 p8, .int .i64 t9, .int .i64 t10, .int .i64 t11, .slice bo0 LB.length bc0, .slice bo1 VB.length bc1, .int .i64 t12] 32)).cell? ⟨w.heap.size + 1, 7, none⟩ = some (.int .i64 p7) := by go_cell
  have b8_1 : ((w.alloc (.cells #[.int .i64 p0, .int .i64 p1, .int .i64 p2, .int .i64 p3, .int .i64 p4, .int .i64 p5, .int .i64 p6, .int .i64 p7, .int .i64 p8, .int .i64 p9, .int .i64 p10, .int .i64 p11, .slice ao0 LA.length ac0, .slice ao1 VA.length ac1, .int .i64 p12] 32)).alloc (.cells #[.int .i64 p0, .int .i64 p1, .int .i64 p2, .int .i64 p3, .int .i64 p4, .int .i64 p5, .int .i64 p6, .int .i64 p7, .int .i64 p8, .int .i64 t9, .int .i64 t10, .int .i64 t11, .slice bo0 LB.length bc0, .slice bo1 VB.length bc1, .int .i64 t12] 32)).cell? ⟨w.heap.size + 1, 8, none⟩ = some (.int .i64 p8) := by go_cell
  have b9_1 : ((w.alloc (.cells #[.int .i64 p0, .int .i64 p1, .int .i64 p2, .int .i64 p3, .int .i64 p4, .int .i64 p5, .int .i64 p6, .int .i64 p7, .int .i64 p8, .int .i64 p9, .int .i64 p10, .int .i64 p11, .slice ao0 LA.length ac0, .slice ao1 VA.length ac1, .int .i64 p12] 32)).alloc (.cells #[.int .i64 p0, .int .i64 p1, .int .i64 p2, .int .i64 p3, .int .i64 p4, .int .i64 p5, .int .i64 p6, .int .i64 p7, .int .i64 p8, .int .i64 t9, .int .i64 t10, .int .i64 t11, .slice bo0 LB.length bc0, .slice bo1 VB.length bc1, .int .i64 t12] 32)).cell? ⟨w.heap.size + 1, 9, none⟩ = some (.int .i64 t9) := by go_cell
  have b10_1 : ((w.alloc (.cells #[.int .i64 p0, .int .i64 p1, .int .i64 p2, .int .i64 p3, .int .i64 p4, .int .i64 p5, .int .i64 p6, .int .i64 p7, .int .i64 p8, .int .i64 p9, .int .i64 p10, .int .i64 p11, .slice ao0 LA.length ac0, .slice ao1 VA.length ac1, .int .i64 p12] 32)).alloc (.cells #[.int .i64 p0, .int .i64 p1, .int .i64 p2, .int .i64 p3, .int .i64 p4, .int .i64 p5, .int .i64 p6, .int .i64 p7, .int .i64 p8, .int .i64 t9, .int .i64 t10, .int .i64 t11, .slice bo0 LB.length bc0, .slice bo1 VB.length bc1, .int .i64 t12] 32)).cell? ⟨w.heap.size + 1, 10, none⟩ = some (.int .i64 t10) := by go_cell
  have b11_1 : ((w.alloc (.cells #[.int .i64 p0, .int .i64 p1, .int .i64 p2, .int .i64 p3, .int .i64 p4, .int .i64 p5, .int .i64 p6, .int .i64 p7, .int .i64 p8, .int .i64 p9, .int .i64 p10, .int .i64 p11, .slice ao0 LA.length ac0, .slice ao1 VA.length ac1, .int .i64 p12] 32)).alloc (.cells #[.int .i64 p0, .int .i64 p1, .int .i64 p2, .int .i64 p3, .int .i64 p4, .int .i64 p5, .int .i64 p6, .int .i64 p7, .int .i64 p8, .int .i64 t9, .int .i64 t10, .int .i64 t11, .slice bo0 LB.length bc0, .slice bo1 VB.length bc1, .int .i64 t12] 32)).cell? ⟨w.heap.size + 1, 11, none⟩ = some (.int .i64 t11) := by go_cell
  have b12_1 : ((w.alloc (.cells #[.int .i64 p0, .int .i64 p1, .int .i64 p2, .int .i64 p3, .int .i64 p4, .int .i64 p5, .int .i64 p6, .int .i64 p7, .int .i64 p8, .int .i64 p9, .int .i64 p10, .int .i64 p11, .slice ao0 LA.length ac0, .slice ao1 VA.length ac1, .int .i64 p12] 32)).alloc (.cells #[.int .i64 p0, .int .i64 p1, .int .i64 p2, .int .i64 p3, .int .i64 p4, .int .i64 p5, .int .i64 p6, .int .i64 p7, .int .i64 p8, .int .i64 t9, .int .i64 t10, .int .i64 t11, .slice bo0 LB.length bc0, .slice bo1 VB.length bc1, .int .i64 t12] 32)).cell? ⟨w.heap.size + 1, 12, none⟩ = some (.slice bo0 LB.length bc0) := by go_cell
  have b13_1 : ((w.alloc (.cells #[.int .i64 p0, .int .i64 p1, .int .i64 p2, .int .i64 p3, .int .i64 p4, .int .i64 p5, .int .i64 p6, .int .i64 p7, .int .i64 p8, .int .i64 p9, .int .i64 p10, .int .i64 p11, .slice ao0 LA.length ac0, .slice ao1 VA.length ac1, .int .i64 p12] 32)).alloc (.cells #[.int .i64 p0, .int .i64 p1, .int .i64 p2, .int .i64 p3, .int .i64 p4, .int .i64 p5, .int .i64 p6, .int .i64 p7, .int .i64 p8, .int .i64 t9, .int .i64 t10, .int .i64 t11, .slice bo0 LB.length bc0, .slice bo1 VB.length bc1, .int .i64 t12] 32)).cell? ⟨w.heap.size + 1, 13, none⟩ = some (.slice bo1 VB.length bc1) := by go_cell
  have b14_1 : ((w.alloc (.cells #[.int .i64 p0, .int .i64 p1, .int .i64 p2, .int .i64 p3, .int .i64 p4, .int .i64 p5, .int .i64 p6, .int .i64 p7, .int .i64 p8, .int .i64 p9, .int .i64 p10, .int .i64 p11, .slice ao0 LA.length ac0, .slice ao1 VA.length ac1, .int .i64 p12] 32)).alloc (.cells #[.int .i64 p0, .int .i64 p1, .int .i64 p2, .int .i64 p3, .int .i64 p4, .int .i64 p5, .int .i64 p6, .int .i64 p7, .int .i64 p8, .int .i64 t9, .int .i64 t10, .int .i64 t11, .slice bo0 LB.length bc0, .slice bo1 VB.length bc1, .int .i64 t12] 32)).cell? ⟨w.heap.size + 1, 14, none⟩ = some (.int .i64 t12) := by go_cell
  have bl_1 : w.heap.size + 1 < ((w.alloc (.cells #[.int .i64 p0, .int .i64 p1, .int .i64 p2, .int .i64 p3, .int .i64 p4, .int .i64 p5, .int .i64 p6, .int .i64 p7, .int .i64 p8, .int .i64 p9, .int .i64 p10, .int .i64 p11, .slice ao0 LA.length ac0, .slice ao1 VA.length ac1, .int .i64 p12] 32)).alloc (.cells #[.int .i64 p0, .int .i64 p1, .int .i64 p2, .int .i64 p3, .int .i64 p4, .int .i64 p5, .int .i64 p6, .int .i64 p7, .int .i64 p8, .int .i64 t9, .int .i64 t10, .int .i64 t11, .slice bo0 LB.length bc0, .slice bo1 VB.length bc1, .int .i64 t12] 32)).heap.size := by first | (simp; done) | (simp; omega)
  have c1 : Below w.heap.size w ((w.alloc (.cells #[.int .i64 p0, .int .i64 p1, .int .i64 p2, .int .i64 p3, .int .i64 p4, .int .i64 p5, .int .i64 p6, .int .i64 p7, .int .i64 p8, .int .i64 p9, .int .i64 p10, .int .i64 p11, .slice ao0 LA.length ac0, .slice ao1 VA.length ac1, .int .i64 p12] 32)).alloc (.cells #[.int .i64 p0, .int .i64 p1, .int .i64 p2, .int .i64 p3, .int .i64 p4, .int .i64 p5, .int .i64 p6, .int .i64 p7, .int .i64 p8, .int .i64 t9, .int .i64 t10, .int .i64 t11, .slice bo0 LB.length bc0, .slice bo1 VB.length bc1, .int .i64 t12] 32)) := by go_grown
  have s1 : ((w.alloc (.cells #[.int .i64 p0, .int .i64 p1, .int .i64 p2, .int .i64 p3, .int .i64 p4, .int .i64 p5, .int .i64 p6, .int .i64 p7, .int .i64 p8, .int .i64 p9, .int .i64 p10, .int .i64 p11, .slice ao0 LA.length ac0, .slice ao1 VA.length ac1, .int .i64 p12] 32)).alloc (.cells #[.int .i64 p0, .int .i64 p1, .int .i64 p2, .int .i64 p3, .int .i64 p4, .int .i64 p5, .int .i64 p6, .int .i64 p7, .int .i64 p8, .int .i64 t9, .int .i64 t10, .int .i64 t11, .slice bo0 LB.length bc0, .slice bo1 VB.length bc1, .int .i64 t12] 32)).heap.size = w.heap.size + 2 := by simp
  generalize ((w.alloc (.cells #[.int .i64 p0, .int .i64 p1, .int .i64 p2, .int .i64 p3, .int .i64 p4, .int .i64 p5, .int .i64 p6, .int .i64 p7, .int .i64 p8, .int .i64 p9, .int .i64 p10, .int .i64 p11, .slice ao0 LA.length ac0, .slice ao1 VA.length ac1, .int .i64 p12] 32)).alloc (.cells #[.int .i64 p0, .int .i64 p1, .int .i64 p2, .int .i64 p3, .int .i64 p4, .int .i64 p5, .int .i64 p6, .int .i64 p7, .int .i64 p8, .int .i64 t9, .int .i64 t10, .int .i64 t11, .slice bo0 LB.length bc0, .slice bo1 VB.length bc1, .int .i64 t12] 32)) = w1 at a0_1 a1_1 a2_1 a3_1 a4_1 a5_1 a6_1 a7_1 a8_1 a9_1 a10_1 a11_1 a12_1 a13_1 a14_1 al_1 b0_1 b1_1 b2_1 b3_1 b4_1 b5_1 b6_1 b7_1 b8_1 b9_1 b10_1 b11_1 b12_1 b13_1 b14_1 bl_1 c1 s1 ⊢
  have qa0_1 := cell_regrown a0_1
  have qa1_1 := cell_regrown a1_1
  have qa2_1 := cell_regrown a2_1
  have qa3_1 := cell_regrown a3_1
  have qa4_1 := cell_regrown a4_1
  have qa5_1 := cell_regrown a5_1
  have qa6_1 := cell_regrown a6_1
  have qa7_1 := cell_regrown a7_1
  have qa8_1 := cell_regrown a8_1
  have qa9_1 := cell_regrown a9_1
  have qa10_1 := cell_regrown a10_1
  have qa11_1 := cell_regrown a11_1
  have qa12_1 := cell_regrown a12_1
  have qa13_1 := cell_regrown a13_1
  have qa14_1 := cell_regrown a14_1
  have qb0_1 := cell_regrown b0_1
  have qb1_1 := cell_regrown b1_1
  have qb2_1 := cell_regrown b2_1
  have qb3_1 := cell_regrown b3_1
  have qb4_1 := cell_regrown b4_1
  have qb5_1 := cell_regrown b5_1
  have qb6_1 := cell_regrown b6_1
  have qb7_1 := cell_regrown b7_1
  have qb8_1 := cell_regrown b8_1
  have qb9_1 := cell_regrown b9_1
  have qb10_1 := cell_regrown b10_1
  have qb11_1 := cell_regrown b11_1
  have qb12_1 := cell_regrown b12_1
  have qb13_1 := cell_regrown b13_1
  have qb14_1 := cell_regrown b14_1
  refine (specItemSame_any p9 p10 p11 t9 t10 t11 LA LB _ _ _ (HA.out.h0.later c1) (HB.out.h0.later c1)).mono ?_
  rintro e w2 ⟨rfl, b2⟩
  have d2 : Below w1.heap.size w1 w2 := (Below.trans (by go_grown) (b2.mono (by first | omega | (simp; done) | (simp; omega))))
  have c2 : Below w.heap.size w w2 := c1.trans (d2.mono c1.size)
  have a0_2 : w2.cell? ⟨w.heap.size, 0, none⟩ = some (.int .i64 p0) := (by rw [b2.cell (by first | omega | (simp; done) | (simp; omega))]; go_cell)
  have a1_2 : w2.cell? ⟨w.heap.size, 1, none⟩ = some (.int .i64 p1) := (by rw [b2.cell (by first | omega | (simp; done) | (simp; omega))]; go_cell)
  have a2_2 : w2.cell? ⟨w.heap.size, 2, none⟩ = some (.int .i64 p2) := (by rw [b2.cell (by first | omega | (simp; done) | (simp; omega))]; go_cell)
  have a3_2 : w2.cell? ⟨w.heap.size, 3, none⟩ = some (.int .i64 p3) := (by rw [b2.cell (by first | omega | (simp; done) | (simp; omega))]; go_cell)
  have a4_2 : w2.cell? ⟨w.heap.size, 4, none⟩ = some (.int .i64 p4) := (by rw [b2.cell (by first | omega | (simp; done) | (simp; omega))]; go_cell)
  have a5_2 : w2.cell? ⟨w.heap.size, 5, none⟩ = some (.int .i64 p5) := (by rw [b2.cell (by first | omega | (simp; done) | (simp; omega))]; go_cell)
  have a6_2 : w2.cell? ⟨w.heap.size, 6, none⟩ = some (.int .i64 p6) := (by rw [b2.cell (by first | omega | (simp; done) | (simp; omega))]; go_cell)
  have a7_2 : w2.cell? ⟨w.heap.size, 7, none⟩ = some (.int .i64 p7) := (by rw [b2.cell (by first | omega | (simp; done) | (simp; omega))]; go_cell)
  have a8_2 : w2.cell? ⟨w.heap.size, 8, none⟩ = some (.int .i64 p8) := (by rw [b2.cell (by first | omega | (simp; done) | (simp; omega))]; go_cell)
  have a9_2 : w2.cell? ⟨w.heap.size, 9, none⟩ = some (.int .i64 p9) := (by rw [b2.cell (by first | omega | (simp; done) | (simp; omega))]; go_cell)
  have a10_2 : w2.cell? ⟨w.heap.size, 10, none⟩ = some (.int .i64 p10) := (by rw [b2.cell (by first | omega | (simp; done) | (simp; omega))]; go_cell)
  have a11_2 : w2.cell? ⟨w.heap.size, 11, none⟩ = some (.int .i64 p11) := (by rw [b2.cell (by first | omega | (simp; done) | (simp; omega))]; go_cell)
  have a12_2 : w2.cell? ⟨w.heap.size, 12, none⟩ = some (.slice ao0 LA.length ac0) := (by rw [b2.cell (by first | omega | (simp; done) | (simp; omega))]; go_cell)
  have a13_2 : w2.cell? ⟨w.heap.size, 13, none⟩ = some (.slice ao1 VA.length ac1) := (by rw [b2.cell (by first | omega | (simp; done) | (simp; omega))]; go_cell)
  have a14_2 : w2.cell? ⟨w.heap.size, 14, none⟩ = some (.int .i64 p12) := (by rw [b2.cell (by first | omega | (simp; done) | (simp; omega))]; go_cell)
  have al_2 : w.heap.size < w2.heap.size := (by have := b2.size; first | omega | (revert this; simp; done) | (revert this; simp; omega))
  have b0_2 : w2.cell? ⟨w.heap.size + 1, 0, none⟩ = some (.int .i64 p0) := (by rw [b2.cell (by first | omega | (simp; done) | (simp; omega))]; go_cell)
  have b1_2 : w2.cell? ⟨w.heap.size + 1, 1, none⟩ = some (.int .i64 p1) := (by rw [b2.cell (by first | omega | (simp; done) | (simp; omega))]; go_cell)
  have b2_2 : w2.cell? ⟨w.heap.size + 1, 2, none⟩ = some (.int .i64 p2) := (by rw [b2.cell (by first | omega | (simp; done) | (simp; omega))]; go_cell)
  have b3_2 : w2.cell? ⟨w.heap.size + 1, 3, none⟩ = some (.int .i64 p3) := (by rw [b2.cell (by first | omega | (simp; done) | (simp; omega))]; go_cell)
  have b4_2 : w2.cell? ⟨w.heap.size + 1, 4, none⟩ = some (.int .i64 p4) := (by rw [b2.cell (by first | omega | (simp; done) | (simp; omega))]; go_cell)
  have b5_2 : w2.cell? ⟨w.heap.size + 1, 5, none⟩ = some (.int .i64 p5) := (by rw [b2.cell (by first | omega | (simp; done) | (simp; omega))]; go_cell)
  have b6_2 : w2.cell? ⟨w.heap.size + 1, 6, none⟩ = some (.int .i64 p6) := (by rw [b2.cell (by first | omega | (simp; done) | (simp; omega))]; go_cell)
  have b7_2 : w2.cell? ⟨w.heap.size + 1, 7, none⟩ = some (.int .i64 p7) := (by rw [b2.cell (by first | omega | (simp; done) | (simp; omega))]; go_cell)
  have b8_2 : w2.cell? ⟨w.heap.size + 1, 8, none⟩ = some (.int .i64 p8) := (by rw [b2.cell (by first | omega | (simp; done) | (simp; omega))]; go_cell)
  have b9_2 : w2.cell? ⟨w.heap.size + 1, 9, none⟩ = some (.int .i64 t9) := (by rw [b2.cell (by first | omega | (simp; done) | (simp; omega))]; go_cell)
  have b10_2 : w2.cell? ⟨w.heap.size + 1, 10, none⟩ = some (.int .i64 t10) := (by rw [b2.cell (by first | omega | (simp; done) | (simp; omega))]; go_cell)
  have b11_2 : w2.cell? ⟨w.heap.size + 1, 11, none⟩ = some (.int .i64 t11) := (by rw [b2.cell (by first | omega | (simp; done) | (simp; omega))]; go_cell)
  have b12_2 : w2.cell? ⟨w.heap.size + 1, 12, none⟩ = some (.slice bo0 LB.length bc0) := (by rw [b2.cell (by first | omega | (simp; done) | (simp; omega))]; go_cell)
  have b13_2 : w2.cell? ⟨w.heap.size + 1, 13, none⟩ = some (.slice bo1 VB.length bc1) := (by rw [b2.cell (by first | omega | (simp; done) | (simp; omega))]; go_cell)
  have b14_2 : w2.cell? ⟨w.heap.size + 1, 14, none⟩ = some (.int .i64 t12) := (by rw [b2.cell (by first | omega | (simp; done) | (simp; omega))]; go_cell)
  have bl_2 : w.heap.size + 1 < w2.heap.size := (by have := b2.size; first | omega | (revert this; simp; done) | (revert this; simp; omega))
  clear a0_1 a1_1 a2_1 a3_1 a4_1 a5_1 a6_1 a7_1 a8_1 a9_1 a10_1 a11_1 a12_1 a13_1 a14_1 al_1 b0_1 b1_1 b2_1 b3_1 b4_1 b5_1 b6_1 b7_1 b8_1 b9_1 b10_1 b11_1 b12_1 b13_1 b14_1 bl_1
  clear b2 d2
  cases hI : eqK ([p9, p10, p11], LA) ([t9, t10, t11], LB) with
  | false =>
    have hno : sameM [p0, p1, p2, p3, p4, p5, p6, p7, p8, p9, p10, p11, p12] [p0, p1, p2, p3, p4, p5, p6, p7, p8, t9, t10, t11, t12] LA LB VA VB = false := sameM_no (fun h => by
      obtain ⟨h1, h2, h3⟩ := h
      simp at h1
      obtain ⟨rfl, rfl, rfl, rfl⟩ := h1
      subst h2
      simp [eqK] at hI)
    go_wp2_with fail
    go_ret
    exact ⟨by simp [hno], c2⟩
  | true =>
    obtain ⟨h9, h10, h11, hl⟩ := eqK_item hI
    subst h9 h10 h11 hl
    clear hI
    by_cases h12 : p12 = t12
    case neg =>
      have hno : sameM [p0, p1, p2, p3, p4, p5, p6, p7, p8, p9, p10, p11, p12] [p0, p1, p2, p3, p4, p5, p6, p7, p8, p9, p10, p11, t12] LA LA VA VB = false := sameM_no (fun h => h12 (by have := h.1; simp at this; exact this))
      have hne : (p12 == t12) = false := by simpa using h12
      go_wp2_with fail
      go_ret
      exact ⟨by simp [hno], c2⟩
    subst h12
    have HSV : Hid (sameM [p0, p1, p2, p3, p4, p5, p6, p7, p8, p9, p10, p11, p12] [p0, p1, p2, p3, p4, p5, p6, p7, p8, p9, p10, p11, p12] LA LA VA VB = eqM VA VB) := hid sameM_vers
    obtain ⟨_, _, hv1, hla, hca⟩ := HA.out.h1
    obtain ⟨_, _, hv2, hlb, hcb⟩ := HB.out.h1
    cases hv1
    cases hv2
    unfold maxLen at hla hlb
    by_cases hne : ((VA.length : Int) != (VB.length : Int)) = true
    · have : VA ≠ VB := fun h => by simp [h] at hne
      go_wp2_with fail
      go_ret
      exact ⟨by simp [HSV.out, eqM_no this], c2⟩
    have hlen : VA.length = VB.length := by simp at hne; omega
    have HL : Hid (VA.length = VB.length) := hlen
    clear hlen
    go_wp2_with fail
    go_loopw [5] (fun i wr => ∃ k : Nat, k ≤ VA.length ∧ i = .int .i64 k ∧ Hid (VA.take k = VB.take k) ∧ Below w2.heap.size w2 wr) (fun i _ => VA.length - (intOf i).toNat)
    case atStart => exact ⟨0, Nat.zero_le _, rfl, rfl, Below.refl _ _⟩
    case round =>
      obtain ⟨k, hk, rfl, hpre, hbel2⟩ := hrel
      have x1 := (hbel2.cell (p := ⟨w.heap.size, 13, none⟩) (by show w.heap.size < _; omega)).trans a13_2
      have y1 := (hbel2.cell (p := ⟨w.heap.size + 1, 13, none⟩) (by show w.heap.size + 1 < _; omega)).trans b13_2
      have hbel := c2.trans (hbel2.mono c2.size)
      have hsz2 := hbel2.size
      by_cases hlt : k < VA.length
      · obtain ⟨ba, oa, rfl, hba, hcca⟩ := hca (by omega)
        obtain ⟨bb, ob, rfl, hbb, hccb⟩ := hcb (by have := HL.out; omega)
        have hkb : (k : Int) < (VB.length : Int) := by have := HL.out; omega
        obtain ⟨m0, hx, c0⟩ := atK_1n ((hcca k hlt).later hba hbel)
        obtain ⟨n0, hy, d0⟩ := atK_1n ((hccb k (by have := HL.out; omega)).later hbb hbel)
        rw [Nat.mul_one] at c0 d0
        have hnext : Hid (VA.getD k kd0 = VB.getD k kd0 → VA.take (k + 1) = VB.take (k + 1)) := hid (fun h => take_more VA VB kd0 k hlt (by have := HL.out; omega) hpre h)
        have hdiff : Hid (¬ VA.getD k kd0 = VB.getD k kd0 → eqM VA VB = false) := hid (fun h => eqM_no (fun e => h (by rw [e])))
        rw [hx, hy] at hnext hdiff
        have hsz := hbel.size
        clear hcca hccb hx hy hca hcb a13_2 b13_2
        have r0 := cell_regrown c0
        have s0 := cell_regrown d0
        have v0 := cell_regrown x1
        have z0 := cell_regrown y1
        by_cases hxy : m0 = n0
        · have hN := hid (hnext.out (by rw [hxy]))
          clear hnext hdiff
          subst hxy
          go_wp2_with fail
          refine wp_region_quiet_below (by kernel_rfl) (by kernel_rfl) ?_
          repeat (first | go_big_quiet_skip | (go_big_quiet_want; go_big_quiet_op; first | go_big_quiet_on | go_big_quiet_call (first | (fail))))
          refine wpQuiet_nil ?_
          rintro wq ⟨pq, hwq⟩
          have hq : Below wr.heap.size wr wq := by rw [hwq]; exact below_regrown _ _ _
          clear hwq pq
          go_wp2
          go_roundw
          case rel => exact ⟨k + 1, by omega, by go_num, hN, hbel2.trans (hq.mono hsz2)⟩
          case measure => simp [intOf]; omega
        · have hN := hid (hdiff.out (fun e => hxy (by simpa using e)))
          have hbx : (m0 != n0) = true := by simpa using hxy
          clear hnext hdiff
          go_wp2_with fail
          refine wp_region_quiet_below (by kernel_rfl) (by kernel_rfl) ?_
          repeat (first | go_big_quiet_skip | (go_big_quiet_want; go_big_quiet_op; first | go_big_quiet_on | go_big_quiet_call (first | (fail))))
          refine wpQuiet_nil ?_
          rintro wq ⟨pq, hwq⟩
          have hq : Below wr.heap.size wr wq := by rw [hwq]; exact below_regrown _ _ _
          clear hwq pq
          go_wp2
          go_ret
          exact ⟨by simp [HSV.out, hN.out], hbel.trans (hq.mono hsz)⟩
      · have hall : eqM VA VB = true := eqM_yes (by have h1 := HL.out; have h2 := hpre.out; rwa [List.take_of_length_le (by omega), List.take_of_length_le (by omega)] at h2)
        go_wp2
        go_ret
        exact ⟨by simp [HSV.out, hall], hbel⟩

set_option maxRecDepth 100000 in
set_option maxHeartbeats 4000000 in
theorem implMSame_any (p0 p1 p2 p3 p4 p5 p6 p7 p8 p9 p10 p11 p12 t0 t1 t2 t3 t4 t5 t6 t7 t8 t9 t10 t11 t12 : Int) (va0 va1 vb0 vb1 : Value) (LA LB : List (Int × Int)) (VA VB : List KD) (w : World) (ha : RSMsg w va0 va1 LA VA) (hb : RSMsg w vb0 vb1 LB VB) :
    Calls Tryz.prog 13 #[.agg #[.int .i64 p0, .int .i64 p1, .int .i64 p2, .int .i64 p3, .int .i64 p4, .int .i64 p5, .int .i64 p6, .int .i64 p7, .int .i64 p8, .int .i64 p9, .int .i64 p10, .int .i64 p11, va0, va1, .int .i64 p12], .agg #[.int .i64 t0, .int .i64 t1, .int .i64 t2, .int .i64 t3, .int .i64 t4, .int .i64 t5, .int .i64 t6, .int .i64 t7, .int .i64 t8, .int .i64 t9, .int .i64 t10, .int .i64 t11, vb0, vb1, .int .i64 t12]] w fun e w' => e = .returned (.bool (sameM [p0, p1, p2, p3, p4, p5, p6, p7, p8, p9, p10, p11, p12] [t0, t1, t2, t3, t4, t5, t6, t7, t8, t9, t10, t11, t12] LA LB VA VB)) ∧ Below w.heap.size w w' := by
  have HA := hid ha
  have HB := hid hb
  obtain ⟨ao0, ao1, ac0, ac1, rfl, rfl⟩ := ha.open
  obtain ⟨bo0, bo1, bc0, bc1, rfl, rfl⟩ := hb.open
  clear ha hb
  by_cases h0 : p0 = t0
  case neg =>
    have hno : sameM [p0, p1, p2, p3, p4, p5, p6, p7, p8, p9, p10, p11, p12] [t0, t1, t2, t3, t4, t5, t6, t7, t8, t9, t10, t11, t12] LA LB VA VB = false := sameM_no (fun h => h0 (by have := h.1; simp at this; exact this.1))
    have hne : (p0 == t0) = false := by simpa using h0
    go_enter Tryz.func13, Tryz.ntmps13
    go_wp2_with fail
    go_ret
    exact ⟨by simp [hno], by go_grown⟩
  subst h0
  by_cases h1 : p1 = t1
  case neg =>
    have hno : sameM [p0, p1, p2, p3, p4, p5, p6, p7, p8, p9, p10, p11, p12] [p0, t1, t2, t3, t4, t5, t6, t7, t8, t9, t10, t11, t12] LA LB VA VB = false := sameM_no (fun h => h1 (by have := h.1; simp at this; exact this.1))
    have hne : (p1 == t1) = false := by simpa using h1
    go_enter Tryz.func13, Tryz.ntmps13
    go_wp2_with fail
    go_ret
    exact ⟨by simp [hno], by go_grown⟩
  subst h1
  by_cases h2 : p2 = t2
  case neg =>
    have hno : sameM [p0, p1, p2, p3, p4, p5, p6, p7, p8, p9, p10, p11, p12] [p0, p1, t2, t3, t4, t5, t6, t7, t8, t9, t10, t11, t12] LA LB VA VB = false := sameM_no (fun h => h2 (by have := h.1; simp at this; exact this.1))
    have hne : (p2 == t2) = false := by simpa using h2
    go_enter Tryz.func13, Tryz.ntmps13
    go_wp2_with fail
    go_ret
    exact ⟨by simp [hno], by go_grown⟩
  subst h2
  by_cases h3 : p3 = t3
  case neg =>
    have hno : sameM [p0, p1, p2, p3, p4, p5, p6, p7, p8, p9, p10, p11, p12] [p0, p1, p2, t3, t4, t5, t6, t7, t8, t9, t10, t11, t12] LA LB VA VB = false := sameM_no (fun h => h3 (by have := h.1; simp at this; exact this.1))
    have hne : (p3 == t3) = false := by simpa using h3
    go_enter Tryz.func13, Tryz.ntmps13
    go_wp2_with fail
    go_ret
    exact ⟨by simp [hno], by go_grown⟩
  subst h3
  by_cases h4 : p4 = t4
  case neg =>
    have hno : sameM [p0, p1, p2, p3, p4, p5, p6, p7, p8, p9, p10, p11, p12] [p0, p1, p2, p3, t4, t5, t6, t7, t8, t9, t10, t11, t12] LA LB VA VB = false := sameM_no (fun h => h4 (by have := h.1; simp at this; exact this.1))
    have hne : (p4 == t4) = false := by simpa using h4
    go_enter Tryz.func13, Tryz.ntmps13
    go_wp2_with fail
    go_ret
    exact ⟨by simp [hno], by go_grown⟩
  subst h4
  by_cases h5 : p5 = t5
  case neg =>
    have hno : sameM [p0, p1, p2, p3, p4, p5, p6, p7, p8, p9, p10, p11, p12] [p0, p1, p2, p3, p4, t5, t6, t7, t8, t9, t10, t11, t12] LA LB VA VB = false := sameM_no (fun h => h5 (by have := h.1; simp at this; exact this.1))
    go_enter Tryz.func13, Tryz.ntmps13
    go_wp2_with fail
    go_ret
    exact ⟨by simp [hno], by go_grown⟩
  subst h5
  by_cases h6 : p6 = t6
  case neg =>
    have hno : sameM [p0, p1, p2, p3, p4, p5, p6, p7, p8, p9, p10, p11, p12] [p0, p1, p2, p3, p4, p5, t6, t7, t8, t9, t10, t11, t12] LA LB VA VB = false := sameM_no (fun h => h6 (by have := h.1; simp at this; exact this.1))
    go_enter Tryz.func13, Tryz.ntmps13
    go_wp2_with fail
    go_ret
    exact ⟨by simp [hno], by go_grown⟩
  subst h6
  by_cases h7 : p7 = t7
  case neg =>
    have hno : sameM [p0, p1, p2, p3, p4, p5, p6, p7, p8, p9, p10, p11, p12] [p0, p1, p2, p3, p4, p5, p6, t7, t8, t9, t10, t11, t12] LA LB VA VB = false := sameM_no (fun h => h7 (by have := h.1; simp at this; exact this.1))
    go_enter Tryz.func13, Tryz.ntmps13
    go_wp2_with fail
    go_ret
    exact ⟨by simp [hno], by go_grown⟩
  subst h7
  by_cases h8 : p8 = t8
  case neg =>
    have hno : sameM [p0, p1, p2, p3, p4, p5, p6, p7, p8, p9, p10, p11, p12] [p0, p1, p2, p3, p4, p5, p6, p7, t8, t9, t10, t11, t12] LA LB VA VB = false := sameM_no (fun h => h8 (by have := h.1; simp at this; exact this.1))
    go_enter Tryz.func13, Tryz.ntmps13
    go_wp2_with fail
    go_ret
    exact ⟨by simp [hno], by go_grown⟩
  subst h8
  go_enter Tryz.func13, Tryz.ntmps13
  go_wp2_with fail
  have a0_1 : ((w.alloc (.cells #[.int .i64 p0, .int .i64 p1, .int .i64 p2, .int .i64 p3, .int .i64 p4, .int .i64 p5, .int .i64 p6, .int .i64 p7, .int .i64 p8, .int .i64 p9, .int .i64 p10, .int .i64 p11, .slice ao0 LA.length ac0, .slice ao1 VA.length ac1, .int .i64 p12] 32)).alloc (.cells #[.int .i64 p0, .int .i64 p1, .int .i64 p2, .int .i64 p3, .int .i64 p4, .int .i64 p5, .int .i64 p6, .int .i64 p7, .int .i64 p8, .int .i64 t9, .int .i64 t10, .int .i64 t11, .slice bo0 LB.length bc0, .slice bo1 VB.length bc1, .int .i64 t12] 32)).cell? ⟨w.heap.size, 0, none⟩ = some (.int .i64 p0) := by go_cell
  have a1_1 : ((w.alloc (.cells #[.int .i64 p0, .int .i64 p1, .int .i64 p2, .int .i64 p3, .int .i64 p4, .int .i64 p5, .int .i64 p6, .int .i64 p7, .int .i64 p8, .int .i64 p9, .int .i64 p10, .int .i64 p11, .slice ao0 LA.length ac0, .slice ao1 VA.length ac1, .int .i64 p12] 32)).alloc (.cells #[.int .i64 p0, .int .i64 p1, .int .i64 p2, .int .i64 p3, .int .i64 p4, .int .i64 p5, .int .i64 p6, .int .i64 p7, .int .i64 p8, .int .i64 t9, .int .i64 t10, .int .i64 t11, .slice bo0 LB.length bc0, .slice bo1 VB.length bc1, .int .i64 t12] 32)).cell? ⟨w.heap.size, 1, none⟩ = some (.int .i64 p1) := by go_cell
  have a2_1 : ((w.alloc (.cells #[.int .i64 p0, .int .i64 p1, .int .i64 p2, .int .i64 p3, .int .i64 p4, .int .i64 p5, .int .i64 p6, .int .i64 p7, .int .i64 p8, .int .i64 p9, .int .i64 p10, .int .i64 p11, .slice ao0 LA.length ac0, .slice ao1 VA.length ac1, .int .i64 p12] 32)).alloc (.cells #[.int .i64 p0, .int .i64 p1, .int .i64 p2, .int .i64 p3, .int .i64 p4, .int .i64 p5, .int .i64 p6, .int .i64 p7, .int .i64 p8, .int .i64 t9, .int .i64 t10, .int .i64 t11, .slice bo0 LB.length bc0, .slice bo1 VB.length bc1, .int .i64 t12] 32)).cell? ⟨w.heap.size, 2, none⟩ = some (.int .i64 p2) := by go_cell
  have a3_1 : ((w.alloc (.cells #[.int .i64 p0, .int .i64 p1, .int .i64 p2, .int .i64 p3, .int .i64 p4, .int .i64 p5, .int .i64 p6, .int .i64 p7, .int .i64 p8, .int .i64 p9, .int .i64 p10, .int .i64 p11, .slice ao0 LA.length ac0, .slice ao1 VA.length ac1, .int .i64 p12] 32)).alloc (.cells #[.int .i64 p0, .int .i64 p1, .int .i64 p2, .int .i64 p3, .int .i64 p4, .int .i64 p5, .int .i64 p6, .int .i64 p7, .int .i64 p8, .int .i64 t9, .int .i64 t10, .int .i64 t11, .slice bo0 LB.length bc0, .slice bo1 VB.length bc1, .int .i64 t12] 32)).cell? ⟨w.heap.size, 3, none⟩ = some (.int .i64 p3) := by go_cell
  have a4_1 : ((w.alloc (.cells #[.int .i64 p0, .int .i64 p1, .int .i64 p2, .int .i64 p3, .int .i64 p4, .int .i64 p5, .int .i64 p6, .int .i64 p7, .int .i64 p8, .int .i64 p9, .int .i64 p10, .int .i64 p11, .slice ao0 LA.length ac0, .slice ao1 VA.length ac1, .int .i64 p12] 32)).alloc (.cells #[.int .i64 p0, .int .i64 p1, .int .i64 p2, .int .i64 p3, .int .i64 p4, .int .i64 p5, .int .i64 p6, .int .i64 p7, .int .i64 p8, .int .i64 t9, .int .i64 t10, .int .i64 t11, .slice bo0 LB.length bc0, .slice bo1 VB.length bc1, .int .i64 t12] 32)).cell? ⟨w.heap.size, 4, none⟩ = some (.int .i64 p4) := by go_cell
  have a5_1 : ((w.alloc (.cells #[.int .i64 p0, .int .i64 p1, .int .i64 p2, .int .i64 p3, .int .i64 p4, .int .i64 p5, .int .i64 p6, .int .i64 p7, .int .i64 p8, .int .i64 p9, .int .i64 p10, .int .i64 p11, .slice ao0 LA.length ac0, .slice ao1 VA.length ac1, .int .i64 p12] 32)).alloc (.cells #[.int .i64 p0, .int .i64 p1, .int .i64 p2, .int .i64 p3, .int .i64 p4, .int .i64 p5, .int .i64 p6, .int .i64 p7, .int .i64 p8, .int .i64 t9, .int .i64 t10, .int .i64 t11, .slice bo0 LB.length bc0, .slice bo1 VB.length bc1, .int .i64 t12] 32)).cell? ⟨w.heap.size, 5, none⟩ = some (.int .i64 p5) := by go_cell
  have a6_1 : ((w.alloc (.cells #[.int .i64 p0, .int .i64 p1, .int .i64 p2, .int .i64 p3, .int .i64 p4, .int .i64 p5, .int .i64 p6, .int .i64 p7, .int .i64 p8, .int .i64 p9, .int .i64 p10, .int .i64 p11, .slice ao0 LA.length ac0, .slice ao1 VA.length ac1, .int .i64 p12] 32)).alloc (.cells #[.int .i64 p0, .int .i64 p1, .int .i64 p2, .int .i64 p3, .int .i64 p4, .int .i64 p5, .int .i64 p6, .int .i64 p7, .int .i64 p8, .int .i64 t9, .int .i64 t10, .int .i64 t11, .slice bo0 LB.length bc0, .slice bo1 VB.length bc1, .int .i64 t12] 32)).cell? ⟨w.heap.size, 6, none⟩ = some (.int .i64 p6) := by go_cell
  have a7_1 : ((w.alloc (.cells #[.int .i64 p0, .int .i64 p1, .int .i64 p2, .int .i64 p3, .int .i64 p4, .int .i64 p5, .int .i64 p6, .int .i64 p7, .int .i64 p8, .int .i64 p9, .int .i64 p10, .int .i64 p11, .slice ao0 LA.length ac0, .slice ao1 VA.length ac1, .int .i64 p12] 32)).alloc (.cells #[.int .i64 p0, .int .i64 p1, .int .i64 p2, .int .i64 p3, .int .i64 p4, .int .i64 p5, .int .i64 p6, .int .i64 p7, .int .i64 p8, .int .i64 t9, .int .i64 t10, .int .i64 t11, .slice bo0 LB.length bc0, .slice bo1 VB.length bc1, .int .i64 t12] 32)).cell? ⟨w.heap.size, 7, none⟩ = some (.int .i64 p7) := by go_cell
  have a8_1 : ((w.alloc (.cells #[.int .i64 p0, .int .i64 p1, .int .i64 p2, .int .i64 p3, .int .i64 p4, .int .i64 p5, .int .i64 p6, .int .i64 p7, .int .i64 p8, .int .i64 p9, .int .i64 p10, .int .i64 p11, .slice ao0 LA.length ac0, .slice ao1 VA.length ac1, .int .i64 p12] 32)).alloc (.cells #[.int .i64 p0, .int .i64 p1, .int .i64 p2, .int .i64 p3, .int .i64 p4, .int .i64 p5, .int .i64 p6, .int .i64 p7, .int .i64 p8, .int .i64 t9, .int .i64 t10, .int .i64 t11, .slice bo0 LB.length bc0, .slice bo1 VB.length bc1, .int .i64 t12] 32)).cell? ⟨w.heap.size, 8, none⟩ = some (.int .i64 p8) := by go_cell
  have a9_1 : ((w.alloc (.cells #[.int .i64 p0, .int .i64 p1, .int .i64 p2, .int .i64 p3, .int .i64 p4, .int .i64 p5, .int .i64 p6, .int .i64 p7, .int .i64 p8, .int .i64 p9, .int .i64 p10, .int .i64 p11, .slice ao0 LA.length ac0, .slice ao1 VA.length ac1, .int .i64 p12] 32)).alloc (.cells #[.int .i64 p0, .int .i64 p1, .int .i64 p2, .int .i64 p3, .int .i64 p4, .int .i64 p5, .int .i64 p6, .int .i64 p7, .int .i64 p8, .int .i64 t9, .int .i64 t10, .int .i64 t11, .slice bo0 LB.length bc0, .slice bo1 VB.length bc1, .int .i64 t12] 32)).cell? ⟨w.heap.size, 9, none⟩ = some (.int .i64 p9) := by go_cell
  have a10_1 : ((w.alloc (.cells #[.int .i64 p0, .int .i64 p1, .int .i64 p2, .int .i64 p3, .int .i64 p4, .int .i64 p5, .int .i64 p6, .int .i64 p7, .int .i64 p8, .int .i64 p9, .int .i64 p10, .int .i64 p11, .slice ao0 LA.length ac0, .slice ao1 VA.length ac1, .int .i64 p12] 32)).alloc (.cells #[.int .i64 p0, .int .i64 p1, .int .i64 p2, .int .i64 p3, .int .i64 p4, .int .i64 p5, .int .i64 p6, .int .i64 p7, .int .i64 p8, .int .i64 t9, .int .i64 t10, .int .i64 t11, .slice bo0 LB.length bc0, .slice bo1 VB.length bc1, .int .i64 t12] 32)).cell? ⟨w.heap.size, 10, none⟩ = some (.int .i64 p10) := by go_cell
  have a11_1 : ((w.alloc (.cells #[.int .i64 p0, .int .i64 p1, .int .i64 p2, .int .i64 p3, .int .i64 p4, .int .i64 p5, .int .i64 p6, .int .i64 p7, .int .i64 p8, .int .i64 p9, .int .i64 p10, .int .i64 p11, .slice ao0 LA.length ac0, .slice ao1 VA.length ac1, .int .i64 p12] 32)).alloc (.cells #[.int .i64 p0, .int .i64 p1, .int .i64 p2, .int .i64 p3, .int .i64 p4, .int .i64 p5, .int .i64 p6, .int .i64 p7, .int .i64 p8, .int .i64 t9, .int .i64 t10, .int .i64 t11, .slice bo0 LB.length bc0, .slice bo1 VB.length bc1, .int .i64 t12] 32)).cell? ⟨w.heap.size, 11, none⟩ = some (.int .i64 p11) := by go_cell
  have a12_1 : ((w.alloc (.cells #[.int .i64 p0, .int .i64 p1, .int .i64 p2, .int .i64 p3, .int .i64 p4, .int .i64 p5, .int .i64 p6, .int .i64 p7, .int .i64 p8, .int .i64 p9, .int .i64 p10, .int .i64 p11, .slice ao0 LA.length ac0, .slice ao1 VA.length ac1, .int .i64 p12] 32)).alloc (.cells #[.int .i64 p0, .int .i64 p1, .int .i64 p2, .int .i64 p3, .int .i64 p4, .int .i64 p5, .int .i64 p6, .int .i64 p7, .int .i64 p8, .int .i64 t9, .int .i64 t10, .int .i64 t11, .slice bo0 LB.length bc0, .slice bo1 VB.length bc1, .int .i64 t12] 32)).cell? ⟨w.heap.size, 12, none⟩ = some (.slice ao0 LA.length ac0) := by go_cell
  have a13_1 : ((w.alloc (.cells #[.int .i64 p0, .int .i64 p1, .int .i64 p2, .int .i64 p3, .int .i64 p4, .int .i64 p5, .int .i64 p6, .int .i64 p7, .int .i64 p8, .int .i64 p9, .int .i64 p10, .int .i64 p11, .slice ao0 LA.length ac0, .slice ao1 VA.length ac1, .int .i64 p12] 32)).alloc (.cells #[.int .i64 p0, .int .i64 p1, .int .i64 p2, .int .i64 p3, .int .i64 p4, .int .i64 p5, .int .i64 p6, .int .i64 p7, .int .i64 p8, .int .i64 t9, .int .i64 t10, .int .i64 t11, .slice bo0 LB.length bc0, .slice bo1 VB.length bc1, .int .i64 t12] 32)).cell? ⟨w.heap.size, 13, none⟩ = some (.slice ao1 VA.length ac1) := by go_cell
  have a14_1 : ((w.alloc (.cells #[.int .i64 p0, .int .i64 p1, .int .i64 p2, .int .i64 p3, .int .i64 p4, .int .i64 p5, .int .i64 p6, .int .i64 p7, .int .i64 p8, .int .i64 p9, .int .i64 p10, .int .i64 p11, .slice ao0 LA.length ac0, .slice ao1 VA.length ac1, .int .i64 p12] 32)).alloc (.cells #[.int .i64 p0, .int .i64 p1, .int .i64 p2, .int .i64 p3, .int .i64 p4, .int .i64 p5, .int .i64 p6, .int .i64 p7, .int .i64 p8, .int .i64 t9, .int .i64 t10, .int .i64 t11, .slice bo0 LB.length bc0, .slice bo1 VB.length bc1, .int .i64 t12] 32)).cell? ⟨w.heap.size, 14, none⟩ = some (.int .i64 p12) := by go_cell
  have al_1 : w.heap.size < ((w.alloc (.cells #[.int .i64 p0, .int .i64 p1, .int .i64 p2, .int .i64 p3, .int .i64 p4, .int .i64 p5, .int .i64 p6, .int .i64 p7, .int .i64 p8, .int .i64 p9, .int .i64 p10, .int .i64 p11, .slice ao0 LA.length ac0, .slice ao1 VA.length ac1, .int .i64 p12] 32)).alloc (.cells #[.int .i64 p0, .int .i64 p1, .int .i64 p2, .int .i64 p3, .int .i64 p4, .int .i64 p5, .int .i64 p6, .int .i64 p7, .int .i64 p8, .int .i64 t9, .int .i64 t10, .int .i64 t11, .slice bo0 LB.length bc0, .slice bo1 VB.length bc1, .int .i64 t12] 32)).heap.size := by first | (simp; done) | (simp; omega)
  have b0_1 : ((w.alloc (.cells #[.int .i64 p0, .int .i64 p1, .int .i64 p2, .int .i64 p3, .int .i64 p4, .int .i64 p5, .int .i64 p6, .int .i64 p7, .int .i64 p8, .int .i64 p9, .int .i64 p10, .int .i64 p11, .slice ao0 LA.length ac0, .slice ao1 VA.length ac1, .int .i64 p12] 32)).alloc (.cells #[.int .i64 p0, .int .i64 p1, .int .i64 p2, .int .i64 p3, .int .i64 p4, .int .i64 p5, .int .i64 p6, .int .i64 p7, .int .i64 p8, .int .i64 t9, .int .i64 t10, .int .i64 t11, .slice bo0 LB.length bc0, .slice bo1 VB.length bc1, .int .i64 t12] 32)).cell? ⟨w.heap.size + 1, 0, none⟩ = some (.int .i64 p0) := by go_cell
  have b1_1 : ((w.alloc (.cells #[.int .i64 p0, .int .i64 p1, .int .i64 p2, .int .i64 p3, .int .i64 p4, .int .i64 p5, .int .i64 p6, .int .i64 p7, .int .i64 p8, .int .i64 p9, .int .i64 p10, .int .i64 p11, .slice ao0 LA.length ac0, .slice ao1 VA.length ac1, .int .i64 p12] 32)).alloc (.cells #[.int .i64 p0, .int .i64 p1, .int .i64 p2, .int .i64 p3, .int .i64 p4, .int .i64 p5, .int .i64 p6, .int .i64 p7, .int .i64 p8, .int .i64 t9, .int .i64 t10, .int .i64 t11, .slice bo0 LB.length bc0, .slice bo1 VB.length bc1, .int .i64 t12] 32)).cell? ⟨w.heap.size + 1, 1, none⟩ = some (.int .i64 p1) := by go_cell
  have b2_1 : ((w.alloc (.cells #[.int .i64 p0, .int .i64 p1, .int .i64 p2, .int .i64 p3, .int .i64 p4, .int .i64 p5, .int .i64 p6, .int .i64 p7, .int .i64 p8, .int .i64 p9, .int .i64 p10, .int .i64 p11, .slice ao0 LA.length ac0, .slice ao1 VA.length ac1, .int .i64 p12] 32)).alloc (.cells #[.int .i64 p0, .int .i64 p1, .int .i64 p2, .int .i64 p3, .int .i64 p4, .int .i64 p5, .int .i64 p6, .int .i64 p7, .int .i64 p8, .int .i64 t9, .int .i64 t10, .int .i64 t11, .slice bo0 LB.length bc0, .slice bo1 VB.length bc1, .int .i64 t12] 32)).cell? ⟨w.heap.size + 1, 2, none⟩ = some (.int .i64 p2) := by go_cell
  have b3_1 : ((w.alloc (.cells #[.int .i64 p0, .int .i64 p1, .int .i64 p2, .int .i64 p3, .int .i64 p4, .int .i64 p5, .int .i64 p6, .int .i64 p7, .int .i64 p8, .int .i64 p9, .int .i64 p10, .int .i64 p11, .slice ao0 LA.length ac0, .slice ao1 VA.length ac1, .int .i64 p12] 32)).alloc (.cells #[.int .i64 p0, .int .i64 p1, .int .i64 p2, .int .i64 p3, .int .i64 p4, .int .i64 p5, .int .i64 p6, .int .i64 p7, .int .i64 p8, .int .i64 t9, .int .i64 t10, .int .i64 t11, .slice bo0 LB.length bc0, .slice bo1 VB.length bc1, .int .i64 t12] 32)).cell? ⟨w.heap.size + 1, 3, none⟩ = some (.int .i64 p3) := by go_cell
  have b4_1 : ((w.alloc (.cells #[.int .i64 p0, .int .i64 p1, .int .i64 p2, .int .i64 p3, .int .i64 p4, .int .i64 p5, .int .i64 p6, .int .i64 p7, .int .i64 p8, .int .i64 p9, .int .i64 p10, .int .i64 p11, .slice ao0 LA.length ac0, .slice ao1 VA.length ac1, .int .i64 p12] 32)).alloc (.cells #[.int .i64 p0, .int .i64 p1, .int .i64 p2, .int .i64 p3, .int .i64 p4, .int .i64 p5, .int .i64 p6, .int .i64 p7, .int .i64 p8, .int .i64 t9, .int .i64 t10, .int .i64 t11, .slice bo0 LB.length bc0, .slice bo1 VB.length bc1, .int .i64 t12] 32)).cell? ⟨w.heap.size + 1, 4, none⟩ = some (.int .i64 p4) := by go_cell
  have b5_1 : ((w.alloc (.cells #[.int .i64 p0, .int .i64 p1, .int .i64 p2, .int .i64 p3, .int .i64 p4, .int .i64 p5, .int .i64 p6, .int .i64 p7, .int .i64 p8, .int .i64 p9, .int .i64 p10, .int .i64 p11, .slice ao0 LA.length ac0, .slice ao1 VA.length ac1, .int .i64 p12] 32)).alloc (.cells #[.int .i64 p0, .int .i64 p1, .int .i64 p2, .int .i64 p3, .int .i64 p4, .int .i64 p5, .int .i64 p6, .int .i64 p7, .int .i64 p8, .int .i64 t9, .int .i64 t10, .int .i64 t11, .slice bo0 LB.length bc0, .slice bo1 VB.length bc1, .int .i64 t12] 32)).cell? ⟨w.heap.size + 1, 5, none⟩ = some (.int .i64 p5) := by go_cell
  have b6_1 : ((w.alloc (.cells #[.int .i64 p0, .int .i64 p1, .int .i64 p2, .int .i64 p3, .int .i64 p4, .int .i64 p5, .int .i64 p6, .int .i64 p7, .int .i64 p8, .int .i64 p9, .int .i64 p10, .int .i64 p11, .slice ao0 LA.length ac0, .slice ao1 VA.length ac1, .int .i64 p12] 32)).alloc (.cells #[.int .i64 p0, .int .i64 p1, .int .i64 p2, .int .i64 p3, .int .i64 p4, .int .i64 p5, .int .i64 p6, .int .i64 p7, .int .i64 p8, .int .i64 t9, .int .i64 t10, .int .i64 t11, .slice bo0 LB.length bc0, .slice bo1 VB.length bc1, .int .i64 t12] 32)).cell? ⟨w.heap.size + 1, 6, none⟩ = some (.int .i64 p6) := by go_cell
  have b7_1 : ((w.alloc (.cells #[.int .i64 p0, .int .i64 p1, .int .i64 p2, .int .i64 p3, .int .i64 p4, .int .i64 p5, .int .i64 p6, .int .i64 p7, .int .i64 p8, .int .i64 p9, .int .i64 p10, .int .i64 p11, .slice ao0 LA.length ac0, .slice ao1 VA.length ac1, .int .i64 p12] 32)).alloc (.cells #[.int .i64 p0, .int .i64 p1, .int .i64 p2, .int .i64 p3, .int .i64 p4, .int .i64 p5, .int .i64 p6, .int .i64 p7, .int .i64 p8, .int .i64 t9, .int .i64 t10, .int .i64 t11, .slice bo0 LB.length bc0, .slice bo1 VB.length bc1, .int .i64 t12] 32)).cell? ⟨w.heap.size + 1, 7, none⟩ = some (.int .i64 p7) := by go_cell
  have b8_1 : ((w.alloc (.cells #[.int .i64 p0, .int .i64 p1, .int .i64 p2, .int .i64 p3, .int .i64 p4, .int .i64 p5, .int .i64 p6, .int .i64 p7, .int .i64 p8, .int .i64 p9, .int .i64 p10, .int .i64 p11, .slice ao0 LA.length ac0, .slice ao1 VA.length ac1, .int .i64 p12] 32)).alloc (.cells #[.int .i64 p0, .int .i64 p1, .int .i64 p2, .int .i64 p3, .int .i64 p4, .int .i64 p5, .int .i64 p6, .int .i64 p7, .int .i64 p8, .int .i64 t9, .int .i64 t10, .int .i64 t11, .slice bo0 LB.length bc0, .slice bo1 VB.length bc1, .int .i64 t12] 32)).cell? ⟨w.heap.size + 1, 8, none⟩ = some (.int .i64 p8) := by go_cell
  have b9_1 : ((w.alloc (.cells #[.int .i64 p0, .int .i64 p1, .int .i64 p2, .int .i64 p3, .int .i64 p4, .int .i64 p5, .int .i64 p6, .int .i64 p7, .int .i64 p8, .int .i64 p9, .int .i64 p10, .int .i64 p11, .slice ao0 LA.length ac0, .slice ao1 VA.length ac1, .int .i64 p12] 32)).alloc (.cells #[.int .i64 p0, .int .i64 p1, .int .i64 p2, .int .i64 p3, .int .i64 p4, .int .i64 p5, .int .i64 p6, .int .i64 p7, .int .i64 p8, .int .i64 t9, .int .i64 t10, .int .i64 t11, .slice bo0 LB.length bc0, .slice bo1 VB.length bc1, .int .i64 t12] 32)).cell? ⟨w.heap.size + 1, 9, none⟩ = some (.int .i64 t9) := by go_cell
  have b10_1 : ((w.alloc (.cells #[.int .i64 p0, .int .i64 p1, .int .i64 p2, .int .i64 p3, .int .i64 p4, .int .i64 p5, .int .i64 p6, .int .i64 p7, .int .i64 p8, .int .i64 p9, .int .i64 p10, .int .i64 p11, .slice ao0 LA.length ac0, .slice ao1 VA.length ac1, .int .i64 p12] 32)).alloc (.cells #[.int .i64 p0, .int .i64 p1, .int .i64 p2, .int .i64 p3, .int .i64 p4, .int .i64 p5, .int .i64 p6, .int .i64 p7, .int .i64 p8, .int .i64 t9, .int .i64 t10, .int .i64 t11, .slice bo0 LB.length bc0, .slice bo1 VB.length bc1, .int .i64 t12] 32)).cell? ⟨w.heap.size + 1, 10, none⟩ = some (.int .i64 t10) := by go_cell
  have b11_1 : ((w.alloc (.cells #[.int .i64 p0, .int .i64 p1, .int .i64 p2, .int .i64 p3, .int .i64 p4, .int .i64 p5, .int .i64 p6, .int .i64 p7, .int .i64 p8, .int .i64 p9, .int .i64 p10, .int .i64 p11, .slice ao0 LA.length ac0, .slice ao1 VA.length ac1, .int .i64 p12] 32)).alloc (.cells #[.int .i64 p0, .int .i64 p1, .int .i64 p2, .int .i64 p3, .int .i64 p4, .int .i64 p5, .int .i64 p6, .int .i64 p7, .int .i64 p8, .int .i64 t9, .int .i64 t10, .int .i64 t11, .slice bo0 LB.length bc0, .slice bo1 VB.length bc1, .int .i64 t12] 32)).cell? ⟨w.heap.size + 1, 11, none⟩ = some (.int .i64 t11) := by go_cell
  have b12_1 : ((w.alloc (.cells #[.int .i64 p0, .int .i64 p1, .int .i64 p2, .int .i64 p3, .int .i64 p4, .int .i64 p5, .int .i64 p6, .int .i64 p7, .int .i64 p8, .int .i64 p9, .int .i64 p10, .int .i64 p11, .slice ao0 LA.length ac0, .slice ao1 VA.length ac1, .int .i64 p12] 32)).alloc (.cells #[.int .i64 p0, .int .i64 p1, .int .i64 p2, .int .i64 p3, .int .i64 p4, .int .i64 p5, .int .i64 p6, .int .i64 p7, .int .i64 p8, .int .i64 t9, .int .i64 t10, .int .i64 t11, .slice bo0 LB.length bc0, .slice bo1 VB.length bc1, .int .i64 t12] 32)).cell? ⟨w.heap.size + 1, 12, none⟩ = some (.slice bo0 LB.length bc0) := by go_cell
  have b13_1 : ((w.alloc (.cells #[.int .i64 p0, .int .i64 p1, .int .i64 p2, .int .i64 p3, .int .i64 p4, .int .i64 p5, .int .i64 p6, .int .i64 p7, .int .i64 p8, .int .i64 p9, .int .i64 p10, .int .i64 p11, .slice ao0 LA.length ac0, .slice ao1 VA.length ac1, .int .i64 p12] 32)).alloc (.cells #[.int .i64 p0, .int .i64 p1, .int .i64 p2, .int .i64 p3, .int .i64 p4, .int .i64 p5, .int .i64 p6, .int .i64 p7, .int .i64 p8, .int .i64 t9, .int .i64 t10, .int .i64 t11, .slice bo0 LB.length bc0, .slice bo1 VB.length bc1, .int .i64 t12] 32)).cell? ⟨w.heap.size + 1, 13, none⟩ = some (.slice bo1 VB.length bc1) := by go_cell
  have b14_1 : ((w.alloc (.cells #[.int .i64 p0, .int .i64 p1, .int .i64 p2, .int .i64 p3, .int .i64 p4, .int .i64 p5, .int .i64 p6, .int .i64 p7, .int .i64 p8, .int .i64 p9, .int .i64 p10, .int .i64 p11, .slice ao0 LA.length ac0, .slice ao1 VA.length ac1, .int .i64 p12] 32)).alloc (.cells #[.int .i64 p0, .int .i64 p1, .int .i64 p2, .int .i64 p3, .int .i64 p4, .int .i64 p5, .int .i64 p6, .int .i64 p7, .int .i64 p8, .int .i64 t9, .int .i64 t10, .int .i64 t11, .slice bo0 LB.length bc0, .slice bo1 VB.length bc1, .int .i64 t12] 32)).cell? ⟨w.heap.size + 1, 14, none⟩ = some (.int .i64 t12) := by go_cell
  have bl_1 : w.heap.size + 1 < ((w.alloc (.cells #[.int .i64 p0, .int .i64 p1, .int .i64 p2, .int .i64 p3, .int .i64 p4, .int .i64 p5, .int .i64 p6, .int .i64 p7, .int .i64 p8, .int .i64 p9, .int .i64 p10, .int .i64 p11, .slice ao0 LA.length ac0, .slice ao1 VA.length ac1, .int .i64 p12] 32)).alloc (.cells #[.int .i64 p0, .int .i64 p1, .int .i64 p2, .int .i64 p3, .int .i64 p4, .int .i64 p5, .int .i64 p6, .int .i64 p7, .int .i64 p8, .int .i64 t9, .int .i64 t10, .int .i64 t11, .slice bo0 LB.length bc0, .slice bo1 VB.length bc1, .int .i64 t12] 32)).heap.size := by first | (simp; done) | (simp; omega)
  have c1 : Below w.heap.size w ((w.alloc (.cells #[.int .i64 p0, .int .i64 p1, .int .i64 p2, .int .i64 p3, .int .i64 p4, .int .i64 p5, .int .i64 p6, .int .i64 p7, .int .i64 p8, .int .i64 p9, .int .i64 p10, .int .i64 p11, .slice ao0 LA.length ac0, .slice ao1 VA.length ac1, .int .i64 p12] 32)).alloc (.cells #[.int .i64 p0, .int .i64 p1, .int .i64 p2, .int .i64 p3, .int .i64 p4, .int .i64 p5, .int .i64 p6, .int .i64 p7, .int .i64 p8, .int .i64 t9, .int .i64 t10, .int .i64 t11, .slice bo0 LB.length bc0, .slice bo1 VB.length bc1, .int .i64 t12] 32)) := by go_grown
  have s1 : ((w.alloc (.cells #[.int .i64 p0, .int .i64 p1, .int .i64 p2, .int .i64 p3, .int .i64 p4, .int .i64 p5, .int .i64 p6, .int .i64 p7, .int .i64 p8, .int .i64 p9, .int .i64 p10, .int .i64 p11, .slice ao0 LA.length ac0, .slice ao1 VA.length ac1, .int .i64 p12] 32)).alloc (.cells #[.int .i64 p0, .int .i64 p1, .int .i64 p2, .int .i64 p3, .int .i64 p4, .int .i64 p5, .int .i64 p6, .int .i64 p7, .int .i64 p8, .int .i64 t9, .int .i64 t10, .int .i64 t11, .slice bo0 LB.length bc0, .slice bo1 VB.length bc1, .int .i64 t12] 32)).heap.size = w.heap.size + 2 := by simp
  generalize ((w.alloc (.cells #[.int .i64 p0, .int .i64 p1, .int .i64 p2, .int .i64 p3, .int .i64 p4, .int .i64 p5, .int .i64 p6, .int .i64 p7, .int .i64 p8, .int .i64 p9, .int .i64 p10, .int .i64 p11, .slice ao0 LA.length ac0, .slice ao1 VA.length ac1, .int .i64 p12] 32)).alloc (.cells #[.int .i64 p0, .int .i64 p1, .int .i64 p2, .int .i64 p3, .int .i64 p4, .int .i64 p5, .int .i64 p6, .int .i64 p7, .int .i64 p8, .int .i64 t9, .int .i64 t10, .int .i64 t11, .slice bo0 LB.length bc0, .slice bo1 VB.length bc1, .int .i64 t12] 32)) = w1 at a0_1 a1_1 a2_1 a3_1 a4_1 a5_1 a6_1 a7_1 a8_1 a9_1 a10_1 a11_1 a12_1 a13_1 a14_1 al_1 b0_1 b1_1 b2_1 b3_1 b4_1 b5_1 b6_1 b7_1 b8_1 b9_1 b10_1 b11_1 b12_1 b13_1 b14_1 bl_1 c1 s1 ⊢
  have qa0_1 := cell_regrown a0_1
  have qa1_1 := cell_regrown a1_1
  have qa2_1 := cell_regrown a2_1
  have qa3_1 := cell_regrown a3_1
  have qa4_1 := cell_regrown a4_1
  have qa5_1 := cell_regrown a5_1
  have qa6_1 := cell_regrown a6_1
  have qa7_1 := cell_regrown a7_1
  have qa8_1 := cell_regrown a8_1
  have qa9_1 := cell_regrown a9_1
  have qa10_1 := cell_regrown a10_1
  have qa11_1 := cell_regrown a11_1
  have qa12_1 := cell_regrown a12_1
  have qa13_1 := cell_regrown a13_1
  have qa14_1 := cell_regrown a14_1
  have qb0_1 := cell_regrown b0_1
  have qb1_1 := cell_regrown b1_1
  have qb2_1 := cell_regrown b2_1
  have qb3_1 := cell_regrown b3_1
  have qb4_1 := cell_regrown b4_1
  have qb5_1 := cell_regrown b5_1
  have qb6_1 := cell_regrown b6_1
  have qb7_1 := cell_regrown b7_1
  have qb8_1 := cell_regrown b8_1
  have qb9_1 := cell_regrown b9_1
  have qb10_1 := cell_regrown b10_1
  have qb11_1 := cell_regrown b11_1
  have qb12_1 := cell_regrown b12_1
  have qb13_1 := cell_regrown b13_1
  have qb14_1 := cell_regrown b14_1
  refine (implItemSame_any p9 p10 p11 t9 t10 t11 LA LB _ _ _ (HA.out.h0.later c1) (HB.out.h0.later c1)).mono ?_
  rintro e w2 ⟨rfl, b2⟩
  have d2 : Below w1.heap.size w1 w2 := (Below.trans (by go_grown) (b2.mono (by first | omega | (simp; done) | (simp; omega))))
  have c2 : Below w.heap.size w w2 := c1.trans (d2.mono c1.size)
  have a0_2 : w2.cell? ⟨w.heap.size, 0, none⟩ = some (.int .i64 p0) := (by rw [b2.cell (by first | omega | (simp; done) | (simp; omega))]; go_cell)
  have a1_2 : w2.cell? ⟨w.heap.size, 1, none⟩ = some (.int .i64 p1) := (by rw [b2.cell (by first | omega | (simp; done) | (simp; omega))]; go_cell)
  have a2_2 : w2.cell? ⟨w.heap.size, 2, none⟩ = some (.int .i64 p2) := (by rw [b2.cell (by first | omega | (simp; done) | (simp; omega))]; go_cell)
  have a3_2 : w2.cell? ⟨w.heap.size, 3, none⟩ = some (.int .i64 p3) := (by rw [b2.cell (by first | omega | (simp; done) | (simp; omega))]; go_cell)
  have a4_2 : w2.cell? ⟨w.heap.size, 4, none⟩ = some (.int .i64 p4) := (by rw [b2.cell (by first | omega | (simp; done) | (simp; omega))]; go_cell)
  have a5_2 : w2.cell? ⟨w.heap.size, 5, none⟩ = some (.int .i64 p5) := (by rw [b2.cell (by first | omega | (simp; done) | (simp; omega))]; go_cell)
  have a6_2 : w2.cell? ⟨w.heap.size, 6, none⟩ = some (.int .i64 p6) := (by rw [b2.cell (by first | omega | (simp; done) | (simp; omega))]; go_cell)
  have a7_2 : w2.cell? ⟨w.heap.size, 7, none⟩ = some (.int .i64 p7) := (by rw [b2.cell (by first | omega | (simp; done) | (simp; omega))]; go_cell)
  have a8_2 : w2.cell? ⟨w.heap.size, 8, none⟩ = some (.int .i64 p8) := (by rw [b2.cell (by first | omega | (simp; done) | (simp; omega))]; go_cell)
  have a9_2 : w2.cell? ⟨w.heap.size, 9, none⟩ = some (.int .i64 p9) := (by rw [b2.cell (by first | omega | (simp; done) | (simp; omega))]; go_cell)
  have a10_2 : w2.cell? ⟨w.heap.size, 10, none⟩ = some (.int .i64 p10) := (by rw [b2.cell (by first | omega | (simp; done) | (simp; omega))]; go_cell)
  have a11_2 : w2.cell? ⟨w.heap.size, 11, none⟩ = some (.int .i64 p11) := (by rw [b2.cell (by first | omega | (simp; done) | (simp; omega))]; go_cell)
  have a12_2 : w2.cell? ⟨w.heap.size, 12, none⟩ = some (.slice ao0 LA.length ac0) := (by rw [b2.cell (by first | omega | (simp; done) | (simp; omega))]; go_cell)
  have a13_2 : w2.cell? ⟨w.heap.size, 13, none⟩ = some (.slice ao1 VA.length ac1) := (by rw [b2.cell (by first | omega | (simp; done) | (simp; omega))]; go_cell)
  have a14_2 : w2.cell? ⟨w.heap.size, 14, none⟩ = some (.int .i64 p12) := (by rw [b2.cell (by first | omega | (simp; done) | (simp; omega))]; go_cell)
  have al_2 : w.heap.size < w2.heap.size := (by have := b2.size; first | omega | (revert this; simp; done) | (revert this; simp; omega))
  have b0_2 : w2.cell? ⟨w.heap.size + 1, 0, none⟩ = some (.int .i64 p0) := (by rw [b2.cell (by first | omega | (simp; done) | (simp; omega))]; go_cell)
  have b1_2 : w2.cell? ⟨w.heap.size + 1, 1, none⟩ = some (.int .i64 p1) := (by rw [b2.cell (by first | omega | (simp; done) | (simp; omega))]; go_cell)
  have b2_2 : w2.cell? ⟨w.heap.size + 1, 2, none⟩ = some (.int .i64 p2) := (by rw [b2.cell (by first | omega | (simp; done) | (simp; omega))]; go_cell)
  have b3_2 : w2.cell? ⟨w.heap.size + 1, 3, none⟩ = some (.int .i64 p3) := (by rw [b2.cell (by first | omega | (simp; done) | (simp; omega))]; go_cell)
  have b4_2 : w2.cell? ⟨w.heap.size + 1, 4, none⟩ = some (.int .i64 p4) := (by rw [b2.cell (by first | omega | (simp; done) | (simp; omega))]; go_cell)
  have b5_2 : w2.cell? ⟨w.heap.size + 1, 5, none⟩ = some (.int .i64 p5) := (by rw [b2.cell (by first | omega | (simp; done) | (simp; omega))]; go_cell)
  have b6_2 : w2.cell? ⟨w.heap.size + 1, 6, none⟩ = some (.int .i64 p6) := (by rw [b2.cell (by first | omega | (simp; done) | (simp; omega))]; go_cell)
  have b7_2 : w2.cell? ⟨w.heap.size + 1, 7, none⟩ = some (.int .i64 p7) := (by rw [b2.cell (by first | omega | (simp; done) | (simp; omega))]; go_cell)
  have b8_2 : w2.cell? ⟨w.heap.size + 1, 8, none⟩ = some (.int .i64 p8) := (by rw [b2.cell (by first | omega | (simp; done) | (simp; omega))]; go_cell)
  have b9_2 : w2.cell? ⟨w.heap.size + 1, 9, none⟩ = some (.int .i64 t9) := (by rw [b2.cell (by first | omega | (simp; done) | (simp; omega))]; go_cell)
  have b10_2 : w2.cell? ⟨w.heap.size + 1, 10, none⟩ = some (.int .i64 t10) := (by rw [b2.cell (by first | omega | (simp; done) | (simp; omega))]; go_cell)
  have b11_2 : w2.cell? ⟨w.heap.size + 1, 11, none⟩ = some (.int .i64 t11) := (by rw [b2.cell (by first | omega | (simp; done) | (simp; omega))]; go_cell)
  have b12_2 : w2.cell? ⟨w.heap.size + 1, 12, none⟩ = some (.slice bo0 LB.length bc0) := (by rw [b2.cell (by first | omega | (simp; done) | (simp; omega))]; go_cell)
  have b13_2 : w2.cell? ⟨w.heap.size + 1, 13, none⟩ = some (.slice bo1 VB.length bc1) := (by rw [b2.cell (by first | omega | (simp; done) | (simp; omega))]; go_cell)
  have b14_2 : w2.cell? ⟨w.heap.size + 1, 14, none⟩ = some (.int .i64 t12) := (by rw [b2.cell (by first | omega | (simp; done) | (simp; omega))]; go_cell)
  have bl_2 : w.heap.size + 1 < w2.heap.size := (by have := b2.size; first | omega | (revert this; simp; done) | (revert this; simp; omega))
  clear a0_1 a1_1 a2_1 a3_1 a4_1 a5_1 a6_1 a7_1 a8_1 a9_1 a10_1 a11_1 a12_1 a13_1 a14_1 al_1 b0_1 b1_1 b2_1 b3_1 b4_1 b5_1 b6_1 b7_1 b8_1 b9_1 b10_1 b11_1 b12_1 b13_1 b14_1 bl_1
  clear b2 d2
  cases hI : eqK ([p9, p10, p11], LA) ([t9, t10, t11], LB) with
  | false =>
    have hno : sameM [p0, p1, p2, p3, p4, p5, p6, p7, p8, p9, p10, p11, p12] [p0, p1, p2, p3, p4, p5, p6, p7, p8, t9, t10, t11, t12] LA LB VA VB = false := sameM_no (fun h => by
      obtain ⟨h1, h2, h3⟩ := h
      simp at h1
      obtain ⟨rfl, rfl, rfl, rfl⟩ := h1
      subst h2
      simp [eqK] at hI)
    go_wp2_with fail
    go_ret
    exact ⟨by simp [hno], c2⟩
  | true =>
    obtain ⟨h9, h10, h11, hl⟩ := eqK_item hI
    subst h9 h10 h11 hl
    clear hI
    go_wp2_with fail
    refine (equalInts_any _ _ VA VB _ (HA.out.h1.later c2) (HB.out.h1.later c2)).mono ?_
    rintro e w3 ⟨rfl, b3⟩
    have d3 : Below w2.heap.size w2 w3 := (Below.trans (by go_grown) (b3.mono (by first | omega | (simp; done) | (simp; omega))))
    have c3 : Below w.heap.size w w3 := c2.trans (d3.mono c2.size)
    have a0_3 : w3.cell? ⟨w.heap.size, 0, none⟩ = some (.int .i64 p0) := (by rw [b3.cell (by first | omega | (simp; done) | (simp; omega))]; go_cell)
    have a1_3 : w3.cell? ⟨w.heap.size, 1, none⟩ = some (.int .i64 p1) := (by rw [b3.cell (by first | omega | (simp; done) | (simp; omega))]; go_cell)
    have a2_3 : w3.cell? ⟨w.heap.size, 2, none⟩ = some (.int .i64 p2) := (by rw [b3.cell (by first | omega | (simp; done) | (simp; omega))]; go_cell)
    have a3_3 : w3.cell? ⟨w.heap.size, 3, none⟩ = some (.int .i64 p3) := (by rw [b3.cell (by first | omega | (simp; done) | (simp; omega))]; go_cell)
    have a4_3 : w3.cell? ⟨w.heap.size, 4, none⟩ = some (.int .i64 p4) := (by rw [b3.cell (by first | omega | (simp; done) | (simp; omega))]; go_cell)
    have a5_3 : w3.cell? ⟨w.heap.size, 5, none⟩ = some (.int .i64 p5) := (by rw [b3.cell (by first | omega | (simp; done) | (simp; omega))]; go_cell)
    have a6_3 : w3.cell? ⟨w.heap.size, 6, none⟩ = some (.int .i64 p6) := (by rw [b3.cell (by first | omega | (simp; done) | (simp; omega))]; go_cell)
    have a7_3 : w3.cell? ⟨w.heap.size, 7, none⟩ = some (.int .i64 p7) := (by rw [b3.cell (by first | omega | (simp; done) | (simp; omega))]; go_cell)
    have a8_3 : w3.cell? ⟨w.heap.size, 8, none⟩ = some (.int .i64 p8) := (by rw [b3.cell (by first | omega | (simp; done) | (simp; omega))]; go_cell)
    have a9_3 : w3.cell? ⟨w.heap.size, 9, none⟩ = some (.int .i64 p9) := (by rw [b3.cell (by first | omega | (simp; done) | (simp; omega))]; go_cell)
    have a10_3 : w3.cell? ⟨w.heap.size, 10, none⟩ = some (.int .i64 p10) := (by rw [b3.cell (by first | omega | (simp; done) | (simp; omega))]; go_cell)
    have a11_3 : w3.cell? ⟨w.heap.size, 11, none⟩ = some (.int .i64 p11) := (by rw [b3.cell (by first | omega | (simp; done) | (simp; omega))]; go_cell)
    have a12_3 : w3.cell? ⟨w.heap.size, 12, none⟩ = some (.slice ao0 LA.length ac0) := (by rw [b3.cell (by first | omega | (simp; done) | (simp; omega))]; go_cell)
    have a13_3 : w3.cell? ⟨w.heap.size, 13, none⟩ = some (.slice ao1 VA.length ac1) := (by rw [b3.cell (by first | omega | (simp; done) | (simp; omega))]; go_cell)
    have a14_3 : w3.cell? ⟨w.heap.size, 14, none⟩ = some (.int .i64 p12) := (by rw [b3.cell (by first | omega | (simp; done) | (simp; omega))]; go_cell)
    have al_3 : w.heap.size < w3.heap.size := (by have := b3.size; first | omega | (revert this; simp; done) | (revert this; simp; omega))
    have b0_3 : w3.cell? ⟨w.heap.size + 1, 0, none⟩ = some (.int .i64 p0) := (by rw [b3.cell (by first | omega | (simp; done) | (simp; omega))]; go_cell)
    have b1_3 : w3.cell? ⟨w.heap.size + 1, 1, none⟩ = some (.int .i64 p1) := (by rw [b3.cell (by first | omega | (simp; done) | (simp; omega))]; go_cell)
    have b2_3 : w3.cell? ⟨w.heap.size + 1, 2, none⟩ = some (.int .i64 p2) := (by rw [b3.cell (by first | omega | (simp; done) | (simp; omega))]; go_cell)
    have b3_3 : w3.cell? ⟨w.heap.size + 1, 3, none⟩ = some (.int .i64 p3) := (by rw [b3.cell (by first | omega | (simp; done) | (simp; omega))]; go_cell)
    have b4_3 : w3.cell? ⟨w.heap.size + 1, 4, none⟩ = some (.int .i64 p4) := (by rw [b3.cell (by first | omega | (simp; done) | (simp; omega))]; go_cell)
    have b5_3 : w3.cell? ⟨w.heap.size + 1, 5, none⟩ = some (.int .i64 p5) := (by rw [b3.cell (by first | omega | (simp; done) | (simp; omega))]; go_cell)
    have b6_3 : w3.cell? ⟨w.heap.size + 1, 6, none⟩ = some (.int .i64 p6) := (by rw [b3.cell (by first | omega | (simp; done) | (simp; omega))]; go_cell)
    have b7_3 : w3.cell? ⟨w.heap.size + 1, 7, none⟩ = some (.int .i64 p7) := (by rw [b3.cell (by first | omega | (simp; done) | (simp; omega))]; go_cell)
    have b8_3 : w3.cell? ⟨w.heap.size + 1, 8, none⟩ = some (.int .i64 p8) := (by rw [b3.cell (by first | omega | (simp; done) | (simp; omega))]; go_cell)
    have b9_3 : w3.cell? ⟨w.heap.size + 1, 9, none⟩ = some (.int .i64 p9) := (by rw [b3.cell (by first | omega | (simp; done) | (simp; omega))]; go_cell)
    have b10_3 : w3.cell? ⟨w.heap.size + 1, 10, none⟩ = some (.int .i64 p10) := (by rw [b3.cell (by first | omega | (simp; done) | (simp; omega))]; go_cell)
    have b11_3 : w3.cell? ⟨w.heap.size + 1, 11, none⟩ = some (.int .i64 p11) := (by rw [b3.cell (by first | omega | (simp; done) | (simp; omega))]; go_cell)
    have b12_3 : w3.cell? ⟨w.heap.size + 1, 12, none⟩ = some (.slice bo0 LA.length bc0) := (by rw [b3.cell (by first | omega | (simp; done) | (simp; omega))]; go_cell)
    have b13_3 : w3.cell? ⟨w.heap.size + 1, 13, none⟩ = some (.slice bo1 VB.length bc1) := (by rw [b3.cell (by first | omega | (simp; done) | (simp; omega))]; go_cell)
    have b14_3 : w3.cell? ⟨w.heap.size + 1, 14, none⟩ = some (.int .i64 t12) := (by rw [b3.cell (by first | omega | (simp; done) | (simp; omega))]; go_cell)
    have bl_3 : w.heap.size + 1 < w3.heap.size := (by have := b3.size; first | omega | (revert this; simp; done) | (revert this; simp; omega))
    clear a0_2 a1_2 a2_2 a3_2 a4_2 a5_2 a6_2 a7_2 a8_2 a9_2 a10_2 a11_2 a12_2 a13_2 a14_2 al_2 b0_2 b1_2 b2_2 b3_2 b4_2 b5_2 b6_2 b7_2 b8_2 b9_2 b10_2 b11_2 b12_2 b13_2 b14_2 bl_2
    clear b3 d3
    cases hV : eqM VA VB with
    | false =>
      have hno : sameM [p0, p1, p2, p3, p4, p5, p6, p7, p8, p9, p10, p11, p12] [p0, p1, p2, p3, p4, p5, p6, p7, p8, p9, p10, p11, t12] LA LA VA VB = false := sameM_no (fun h => by
        obtain ⟨_, _, h3⟩ := h
        subst h3
        simp [eqM] at hV)
      go_wp2_with fail
      go_ret
      exact ⟨by simp [hno], c3⟩
    | true =>
      have hVV : VA = VB := by simpa [eqM] using hV
      by_cases h12 : p12 = t12
      · have hyes : sameM [p0, p1, p2, p3, p4, p5, p6, p7, p8, p9, p10, p11, p12] [p0, p1, p2, p3, p4, p5, p6, p7, p8, p9, p10, p11, t12] LA LA VA VB = true := by rw [hVV, h12]; exact sameM_refl _ _ _
        clear hVV hV
        subst h12
        go_wp2_with fail
        go_ret
        exact ⟨by simp [hyes], c3⟩
      · have hno : sameM [p0, p1, p2, p3, p4, p5, p6, p7, p8, p9, p10, p11, p12] [p0, p1, p2, p3, p4, p5, p6, p7, p8, p9, p10, p11, t12] LA LA VA VB = false := sameM_no (fun h => h12 (by have := h.1; simp at this; exact this))
        have hne : (p12 == t12) = false := by simpa using h12
        clear hVV hV
        go_wp2_with fail
        go_ret
        exact ⟨by simp [hno], c3⟩

end Go.Proofs.YtfdcnolcjgjfjaaGreatDoor
