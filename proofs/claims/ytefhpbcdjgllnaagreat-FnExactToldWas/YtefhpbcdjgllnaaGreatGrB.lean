/- Contracts and plain facts, several texts in one. -/
import Derived.Test.YtefhpbcdjgllnaaGreatGrA
import Derived.Laws.StructEq
import Derived.Deep.RegionHeld3
import Derived.Deep.DrawnRows
/- Part: spec.EdgeSame, slices.Equal at edges, impl.EdgeSame: contracts. -/
namespace Go.Proofs.YtefhpbcdjgllnaaGreat
open Go.RowKit
attribute [local go_sem ↓] Go.wp_at_zero Go.wp_at_succ

theorem equalIn_edge (a b c d : Int) (w : World) : (Op.equalIn 10000 124 (.agg #[.int .i64 a, .int .i64 b]) (.agg #[.int .i64 c, .int .i64 d])).run Tryz.prog w = .ok (eqB (a, b) (c, d)) w := by
  have u3 := Tryz.underlying3
  have a3 := Tryz.isAgg3
  have z3 := Tryz.sizeOf3
  have hS : Tryz.prog.underlying 124 = some (.struct (Tryz.prog.fieldsOf 124)) := by kernel_rfl
  have hp : Tryz.prog.stoodInHeld 124 = false := by kernel_rfl
  rw [show (10000 : Nat) = 9999 + 1 from rfl, run_equalIn_agg w 9999 124 _ _ hS hp]
  simp only [Program.fieldsOf, Tryz.underlying124]
  go_simp
  by_cases h1 : a = c <;> by_cases h2 : b = d <;> simp [eqB, h1, h2]
theorem neq_edge (a b c d : Int) (w : World) : (binOp .neq 124 (.agg #[.int .i64 a, .int .i64 b]) (.agg #[.int .i64 c, .int .i64 d])).run Tryz.prog w = .ok (.bool (!eqB (a, b) (c, d))) w := by
  rw [run_neq_struct, equalIn_edge]; rfl
theorem guard_edge : Tryz.prog.eqGuardType Tryz.prog.depth 124 = false := by kernel_rfl

set_option maxHeartbeats 1000000 in
theorem specSame_any (va vb : Value) (la lb : List (Int × Int)) (w : World) (ha : Rd w va la) (hb : Rd w vb lb) :
    Calls Tryz.prog 47 #[va, vb] w fun e w' => e = .returned (.bool (eqL la lb)) ∧ Below w.heap.size w w' := by
  obtain ⟨aa, ca, rfl, hla, hca⟩ := ha
  obtain ⟨ab, cb, rfl, hlb, hcb⟩ := hb
  unfold maxLen at hla hlb
  by_cases hne : ((la.length : Int) != (lb.length : Int)) = true
  · have : la ≠ lb := fun h => by simp [h] at hne
    go_enter Tryz.func47, Tryz.ntmps47
    go_wp2
    go_ret
    exact ⟨by simp [eqL_no this], Below.refl _ _⟩
  · have hlen : la.length = lb.length := by simp at hne; omega
    have HL : Hid (la.length = lb.length) := hlen
    clear hlen
    go_enter Tryz.func47, Tryz.ntmps47
    go_wp2
    go_loopw [5] (fun i wr => ∃ k : Nat, k ≤ la.length ∧ i = .int .i64 k ∧ Hid (la.take k = lb.take k) ∧ Below w.heap.size w wr) (fun i _ => la.length - (intOf i).toNat)
    case atStart => exact ⟨0, Nat.zero_le _, rfl, rfl, Below.refl _ _⟩
    case round =>
      obtain ⟨k, hk, rfl, hpre, hbel⟩ := hrel
      by_cases hlt : k < la.length
      · obtain ⟨ba, oa, rfl, hba, hcca⟩ := hca (by omega)
        obtain ⟨bb, ob, rfl, hbb, hccb⟩ := hcb (by have := HL.out; omega)
        obtain ⟨c0, c1⟩ := hcca k hlt
        obtain ⟨d0, d1⟩ := hccb k (by have := HL.out; omega)
        rw [← hbel.cell (p := ⟨ba, oa + k * 2, none⟩) hba] at c0
        rw [← hbel.cell (p := ⟨ba, oa + k * 2 + 1, none⟩) hba] at c1
        rw [← hbel.cell (p := ⟨bb, ob + k * 2, none⟩) hbb] at d0
        rw [← hbel.cell (p := ⟨bb, ob + k * 2 + 1, none⟩) hbb] at d1
        have hkb : (k : Int) < (lb.length : Int) := by have := HL.out; omega
        have hsz := hbel.size
        clear hcca hccb hca hcb
        by_cases hxy : la.getD k (0, 0) = lb.getD k (0, 0)
        · have hnext : Hid (la.take (k + 1) = lb.take (k + 1)) := take_more la lb (0, 0) k hlt (by omega) hpre hxy
          rw [← hxy] at d0 d1
          generalize la.getD k (0, 0) = x at *
          clear hxy
          have hq : ∀ w, (binOp .neq 124 (.agg #[.int .i64 x.1, .int .i64 x.2]) (.agg #[.int .i64 x.1, .int .i64 x.2])).run Tryz.prog w = .ok (.bool false) w := fun w => by rw [neq_edge, eqB_yes rfl]; rfl
          have hg := guard_edge
          go_wp2
          go_region_held3 (fun w' => w'.cell? ⟨ba, oa + k * 2, none⟩ = some (.int .i64 x.1) ∧ w'.cell? ⟨ba, oa + k * 2 + 1, none⟩ = some (.int .i64 x.2) ∧ w'.cell? ⟨bb, ob + k * 2, none⟩ = some (.int .i64 x.1) ∧ w'.cell? ⟨bb, ob + k * 2 + 1, none⟩ = some (.int .i64 x.2)) (go_keep) (fail)
          go_wp2
          go_roundw
          case rel => exact ⟨k + 1, by omega, by go_num, hnext, hbel.drew⟩
          case measure => simp [intOf]; omega
        · have hdiff : eqL la lb = false := eqL_no (fun h => hxy (by rw [h]))
          have he : eqB (la.getD k (0, 0)) (lb.getD k (0, 0)) = false := eqB_no hxy
          clear hxy
          generalize la.getD k (0, 0) = x at *
          generalize lb.getD k (0, 0) = y at *
          have hq : ∀ w, (binOp .neq 124 (.agg #[.int .i64 x.1, .int .i64 x.2]) (.agg #[.int .i64 y.1, .int .i64 y.2])).run Tryz.prog w = .ok (.bool true) w := fun w => by rw [neq_edge, he]; rfl
          have hg := guard_edge
          go_wp2
          go_region_held3 (fun w' => w'.cell? ⟨ba, oa + k * 2, none⟩ = some (.int .i64 x.1) ∧ w'.cell? ⟨ba, oa + k * 2 + 1, none⟩ = some (.int .i64 x.2) ∧ w'.cell? ⟨bb, ob + k * 2, none⟩ = some (.int .i64 y.1) ∧ w'.cell? ⟨bb, ob + k * 2 + 1, none⟩ = some (.int .i64 y.2)) (go_keep) (fail)
          go_wp2
          go_ret
          exact ⟨by simp [hdiff], hbel.drew⟩
      · have hall : eqL la lb = true := eqL_yes (by have h1 := HL.out; have h2 := hpre.out; rwa [List.take_of_length_le (by omega), List.take_of_length_le (by omega)] at h2)
        go_wp2
        go_ret
        exact ⟨by simp [hall], hbel⟩
set_option maxHeartbeats 1000000 in
theorem equal_any (va vb : Value) (la lb : List (Int × Int)) (w : World) (ha : Rd w va la) (hb : Rd w vb lb) :
    Calls Tryz.prog 111 #[va, vb] w fun e w' => e = .returned (.bool (eqL la lb)) ∧ Below w.heap.size w w' := by
  obtain ⟨aa, ca, rfl, hla, hca⟩ := ha
  obtain ⟨ab, cb, rfl, hlb, hcb⟩ := hb
  unfold maxLen at hla hlb
  by_cases hne : ((la.length : Int) != (lb.length : Int)) = true
  · have : la ≠ lb := fun h => by simp [h] at hne
    go_enter Tryz.func111, Tryz.ntmps111
    go_wp2
    go_ret
    exact ⟨by simp [eqL_no this], Below.refl _ _⟩
  · have hlen : la.length = lb.length := by simp at hne; omega
    have HL : Hid (la.length = lb.length) := hlen
    clear hlen
    go_enter Tryz.func111, Tryz.ntmps111
    go_wp2
    go_loopw [13] (fun i wr => ∃ k : Nat, k ≤ la.length ∧ i = .int .i64 k ∧ Hid (la.take k = lb.take k) ∧ Below w.heap.size w wr) (fun i _ => la.length - (intOf i).toNat)
    case atStart => exact ⟨0, Nat.zero_le _, rfl, rfl, Below.refl _ _⟩
    case round =>
      obtain ⟨k, hk, rfl, hpre, hbel⟩ := hrel
      by_cases hlt : k < la.length
      · obtain ⟨ba, oa, rfl, hba, hcca⟩ := hca (by omega)
        obtain ⟨bb, ob, rfl, hbb, hccb⟩ := hcb (by have := HL.out; omega)
        obtain ⟨c0, c1⟩ := hcca k hlt
        obtain ⟨d0, d1⟩ := hccb k (by have := HL.out; omega)
        rw [← hbel.cell (p := ⟨ba, oa + k * 2, none⟩) hba] at c0
        rw [← hbel.cell (p := ⟨ba, oa + k * 2 + 1, none⟩) hba] at c1
        rw [← hbel.cell (p := ⟨bb, ob + k * 2, none⟩) hbb] at d0
        rw [← hbel.cell (p := ⟨bb, ob + k * 2 + 1, none⟩) hbb] at d1
        have hkb : (k : Int) < (lb.length : Int) := by have := HL.out; omega
        have hsz := hbel.size
        clear hcca hccb hca hcb
        by_cases hxy : la.getD k (0, 0) = lb.getD k (0, 0)
        · have hnext : Hid (la.take (k + 1) = lb.take (k + 1)) := take_more la lb (0, 0) k hlt (by omega) hpre hxy
          rw [← hxy] at d0 d1
          generalize la.getD k (0, 0) = x at *
          clear hxy
          have hq : ∀ w, (binOp .neq 124 (.agg #[.int .i64 x.1, .int .i64 x.2]) (.agg #[.int .i64 x.1, .int .i64 x.2])).run Tryz.prog w = .ok (.bool false) w := fun w => by rw [neq_edge, eqB_yes rfl]; rfl
          have hg := guard_edge
          go_wp2
          go_region_held3 (fun w' => w'.cell? ⟨ba, oa + k * 2, none⟩ = some (.int .i64 x.1) ∧ w'.cell? ⟨ba, oa + k * 2 + 1, none⟩ = some (.int .i64 x.2) ∧ w'.cell? ⟨bb, ob + k * 2, none⟩ = some (.int .i64 x.1) ∧ w'.cell? ⟨bb, ob + k * 2 + 1, none⟩ = some (.int .i64 x.2)) (go_keep) (fail)
          go_wp2
          go_roundw
          case rel => exact ⟨k + 1, by omega, by go_num, hnext, hbel.drew⟩
          case measure => simp [intOf]; omega
        · have hdiff : eqL la lb = false := eqL_no (fun h => hxy (by rw [h]))
          have he : eqB (la.getD k (0, 0)) (lb.getD k (0, 0)) = false := eqB_no hxy
          clear hxy
          generalize la.getD k (0, 0) = x at *
          generalize lb.getD k (0, 0) = y at *
          have hq : ∀ w, (binOp .neq 124 (.agg #[.int .i64 x.1, .int .i64 x.2]) (.agg #[.int .i64 y.1, .int .i64 y.2])).run Tryz.prog w = .ok (.bool true) w := fun w => by rw [neq_edge, he]; rfl
          have hg := guard_edge
          go_wp2
          go_region_held3 (fun w' => w'.cell? ⟨ba, oa + k * 2, none⟩ = some (.int .i64 x.1) ∧ w'.cell? ⟨ba, oa + k * 2 + 1, none⟩ = some (.int .i64 x.2) ∧ w'.cell? ⟨bb, ob + k * 2, none⟩ = some (.int .i64 y.1) ∧ w'.cell? ⟨bb, ob + k * 2 + 1, none⟩ = some (.int .i64 y.2)) (go_keep) (fail)
          go_wp2
          go_ret
          exact ⟨by simp [hdiff], hbel.drew⟩
      · have hall : eqL la lb = true := eqL_yes (by have h1 := HL.out; have h2 := hpre.out; rwa [List.take_of_length_le (by omega), List.take_of_length_le (by omega)] at h2)
        go_wp2
        go_ret
        exact ⟨by simp [hall], hbel⟩
set_option maxHeartbeats 400000 in
theorem implSame_any (va vb : Value) (la lb : List (Int × Int)) (w : World) (ha : Rd w va la) (hb : Rd w vb lb) :
    Calls Tryz.prog 98 #[va, vb] w fun e w' => e = .returned (.bool (eqL la lb)) ∧ Below w.heap.size w w' := by
  go_enter Tryz.func98, Tryz.ntmps98
  go_wp2_with fail
  refine (equal_any va vb la lb _ ha hb).mono ?_
  rintro e w1 ⟨rfl, b1⟩
  go_wp2
  go_ret
  exact ⟨by simp, b1⟩
end Go.Proofs.YtefhpbcdjgllnaaGreat

/- Part: Both ValSame: contracts. -/
namespace Go.Proofs.YtefhpbcdjgllnaaGreat
open Go.RowKit
attribute [local go_sem ↓] Go.wp_at_zero Go.wp_at_succ

/-- Are two values one? (A name that the walk does not take apart.) -/
def eqV (n m : Int) (la lb : List (Int × Int)) : Bool := n == m && eqL la lb
theorem eqV_no {n m : Int} {la lb : List (Int × Int)} (h : (n == m) = false) : eqV n m la lb = false := by simp [eqV, h]
theorem eqV_yes (n : Int) (la lb : List (Int × Int)) : eqV n n la lb = eqL la lb := by simp [eqV]
theorem eqV_refl (n : Int) (l : List (Int × Int)) : eqV n n l l = true := by simp [eqV, eqL_refl]

set_option maxHeartbeats 1000000 in
theorem implVSame_any (n m : Int) (va vb : Value) (la lb : List (Int × Int)) (w : World) (ha : Rd w va la) (hb : Rd w vb lb) :
    Calls Tryz.prog 64 #[.agg #[.int .i64 n, va], .agg #[.int .i64 m, vb]] w fun e w' => e = .returned (.bool (eqV n m la lb)) ∧ Below w.heap.size w w' := by
  obtain ⟨aa, ca, rfl, hla, hca⟩ := id ha
  obtain ⟨ab, cb, rfl, hlb, hcb⟩ := id hb
  clear hla hlb hca hcb
  by_cases hn : (n == m) = true
  · have := beq_iff_eq.1 hn
    subst this
    rw [eqV_yes]
    clear hn
    go_enter Tryz.func64, Tryz.ntmps64
    go_wp2_with fail
    refine (implSame_any _ _ la lb _ (ha.later (by go_grown)) (hb.later (by go_grown))).mono ?_
    rintro e w2 ⟨rfl, b2⟩
    have bb : Below w.heap.size w w2 := (Below.trans (by go_grown) (b2.mono (by first | omega | (simp; done) | (simp; omega))))
    go_wp2
    all_goals
      go_ret
      exact ⟨by simp_all, bb⟩
  · have hne : (n == m) = false := by simpa using hn
    rw [eqV_no hne]
    go_enter Tryz.func64, Tryz.ntmps64
    go_wp2
    go_ret
    exact ⟨by simp, by go_grown⟩

set_option maxHeartbeats 1000000 in
theorem specVSame_any (n m : Int) (va vb : Value) (la lb : List (Int × Int)) (w : World) (ha : Rd w va la) (hb : Rd w vb lb) :
    Calls Tryz.prog 21 #[.agg #[.int .i64 n, va], .agg #[.int .i64 m, vb]] w fun e w' => e = .returned (.bool (eqV n m la lb)) ∧ Below w.heap.size w w' := by
  obtain ⟨aa, ca, rfl, hla, hca⟩ := id ha
  obtain ⟨ab, cb, rfl, hlb, hcb⟩ := id hb
  clear hla hlb hca hcb
  by_cases hn : (n == m) = true
  · have := beq_iff_eq.1 hn
    subst this
    rw [eqV_yes]
    clear hn
    go_enter Tryz.func21, Tryz.ntmps21
    go_wp2_with fail
    refine (specSame_any _ _ la lb _ (ha.later (by go_grown)) (hb.later (by go_grown))).mono ?_
    rintro e w2 ⟨rfl, b2⟩
    have bb : Below w.heap.size w w2 := (Below.trans (by go_grown) (b2.mono (by first | omega | (simp; done) | (simp; omega))))
    go_wp2
    all_goals
      go_ret
      exact ⟨by simp_all, bb⟩
  · have hne : (n == m) = false := by simpa using hn
    rw [eqV_no hne]
    go_enter Tryz.func21, Tryz.ntmps21
    go_wp2
    go_ret
    exact ⟨by simp, by go_grown⟩

end Go.Proofs.YtefhpbcdjgllnaaGreat
