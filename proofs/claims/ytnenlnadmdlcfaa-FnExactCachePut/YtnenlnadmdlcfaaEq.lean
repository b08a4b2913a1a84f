/- The law's own helpers szEdgeS, eqEdge, eqEdgeS: contracts. -/
import Derived.Test.YtnenlnadmdlcfaaPl
import Derived.Deep.RegionHeld3
import Derived.Deep.DrawnRows
namespace Go.Proofs.Ytnenlnadmdlcfaa
open Go.RowKit
attribute [local go_sem ↓] Go.wp_at_zero Go.wp_at_succ

set_option maxHeartbeats 400000 in
theorem sz_any (ao : Option Addr) (n cap : Nat) (left : Int) (hn : n ≤ maxLen) (h0 : 0 ≤ left) (h1 : left ≤ 1048576) (w : World) :
    Calls Try.prog 65 #[.slice ao n cap, .int .i64 left] w fun e w' => e = .returned (.int .i64 (if left < n then -1 else left - n)) ∧ w' = w := by
  unfold maxLen at hn
  by_cases h : left < n
  · go_enter Try.func65, Try.ntmps65
    go_wp2
    go_ret
    exact ⟨by simp, rfl⟩
  · go_enter Try.func65, Try.ntmps65
    go_wp2
    go_ret
    exact ⟨by simp, rfl⟩

theorem sz_fits (ao : Option Addr) (n cap : Nat) (left : Int) (hn : (n : Int) ≤ left) (h1 : left ≤ 1048576) (w : World) :
    Calls Try.prog 65 #[.slice ao n cap, .int .i64 left] w fun e w' => e = .returned (.int .i64 (left - n)) ∧ w' = w := by
  have := sz_any ao n cap left (by unfold maxLen; omega) (by omega) h1 w
  rwa [if_neg (by omega)] at this
theorem sz_over (ao : Option Addr) (n cap : Nat) (left : Int) (hm : n ≤ maxLen) (hn : left < (n : Int)) (h0 : 0 ≤ left) (h1 : left ≤ 1048576) (w : World) :
    Calls Try.prog 65 #[.slice ao n cap, .int .i64 left] w fun e w' => e = .returned (.int .i64 (-1)) ∧ w' = w := by
  have := sz_any ao n cap left hm h0 h1 w
  rwa [if_pos (by omega)] at this

set_option maxHeartbeats 400000 in
theorem eqEdge_any (a b c d : Int) (w : World) :
    Calls Try.prog 75 #[.agg #[.int .i64 a, .int .i64 b], .agg #[.int .i64 c, .int .i64 d]] w fun e w' => e = .returned (.bool (eqB (a, b) (c, d))) ∧ Below w.heap.size w w' := by
  go_enter Try.func75, Try.ntmps75
  go_wp2
  all_goals
    go_ret
    exact ⟨by simp_all [eqB], by go_grown⟩

set_option maxHeartbeats 1000000 in
theorem eqEdgeS_any (va vb : Value) (la lb : List (Int × Int)) (w : World) (ha : Rd w va la) (hb : Rd w vb lb) :
    Calls Try.prog 61 #[va, vb] w fun e w' => e = .returned (.bool (eqL la lb)) ∧ Below w.heap.size w w' := by
  obtain ⟨aa, ca, rfl, hla, hca⟩ := ha
  obtain ⟨ab, cb, rfl, hlb, hcb⟩ := hb
  unfold maxLen at hla hlb
  by_cases hne : ((la.length : Int) != (lb.length : Int)) = true
  · have : la ≠ lb := fun h => by simp [h] at hne
    go_enter Try.func61, Try.ntmps61
    go_wp2
    go_ret
    exact ⟨by simp [eqL_no this], Below.refl _ _⟩
  · have hlen : la.length = lb.length := by simp at hne; omega
    have HL : Hid (la.length = lb.length) := hlen
    clear hlen
    go_enter Try.func61, Try.ntmps61
    go_wp2
    go_loopw [5] (fun i wr => ∃ k : Nat, k ≤ la.length ∧ i = .int .i64 k ∧ Hid (la.take k = lb.take k) ∧ Below w.heap.size w wr) (fun i _ => la.length - (intOf i).toNat)
    case atStart => exact ⟨0, Nat.zero_le _, rfl, rfl, Below.refl _ _⟩
    case round =>
      obtain ⟨k, hk, rfl, hpre, hbel⟩ := hrel
      by_cases hlt : k < la.length
      · obtain ⟨ba, oa, rfl, hba, hcca⟩ := hca (by omega)
        obtain ⟨bb, ob, rfl, hbb, hccb⟩ := hcb (by have := HL.out; omega)
        obtain ⟨c0, c1⟩ := hcca k hlt
        obtain ⟨d0, d1⟩ := hccb k (by have := HL.out; omega)
        rw [← hbel.cell (p := ⟨ba, oa + k * 2, none⟩) hba] at c0
        rw [← hbel.cell (p := ⟨ba, oa + k * 2 + 1, none⟩) hba] at c1
        rw [← hbel.cell (p := ⟨bb, ob + k * 2, none⟩) hbb] at d0
        rw [← hbel.cell (p := ⟨bb, ob + k * 2 + 1, none⟩) hbb] at d1
        have hkb : (k : Int) < (lb.length : Int) := by have := HL.out; omega
        have hsz := hbel.size
        clear hcca hccb hca hcb
        by_cases hxy : la.getD k (0, 0) = lb.getD k (0, 0)
        · have hnext : Hid (la.take (k + 1) = lb.take (k + 1)) := take_more la lb (0, 0) k hlt (by omega) hpre hxy
          rw [← hxy] at d0 d1
          generalize la.getD k (0, 0) = x at *
          clear hxy
          have he : eqB x x = true := eqB_yes rfl
          go_wp2
          go_region_held3 (fun w' => w'.cell? ⟨ba, oa + k * 2, none⟩ = some (.int .i64 x.1) ∧ w'.cell? ⟨ba, oa + k * 2 + 1, none⟩ = some (.int .i64 x.2) ∧ w'.cell? ⟨bb, ob + k * 2, none⟩ = some (.int .i64 x.1) ∧ w'.cell? ⟨bb, ob + k * 2 + 1, none⟩ = some (.int .i64 x.2)) (first | go_keep | (go_split_ands; refine ⟨?_, ?_, ?_, ?_⟩ <;> first | assumption | exact cell_later (by assumption) (by assumption))) (first | (go_at_call 75; refine (eqEdge_any _ _ _ _ _).mono ?_; rintro e w' ⟨rfl, hb'⟩))
          go_wp2
          go_roundw
          case rel => exact ⟨k + 1, by omega, by go_num, hnext, hbel.trans ((Below.refl _ _).drew.trans (hb'.mono hsz))⟩
          case measure => simp [intOf]; omega
        · have hdiff : eqL la lb = false := eqL_no (fun h => hxy (by rw [h]))
          have he : eqB (la.getD k (0, 0)) (lb.getD k (0, 0)) = false := eqB_no hxy
          clear hxy
          generalize la.getD k (0, 0) = x at *
          generalize lb.getD k (0, 0) = y at *
          go_wp2
          go_region_held3 (fun w' => w'.cell? ⟨ba, oa + k * 2, none⟩ = some (.int .i64 x.1) ∧ w'.cell? ⟨ba, oa + k * 2 + 1, none⟩ = some (.int .i64 x.2) ∧ w'.cell? ⟨bb, ob + k * 2, none⟩ = some (.int .i64 y.1) ∧ w'.cell? ⟨bb, ob + k * 2 + 1, none⟩ = some (.int .i64 y.2)) (first | go_keep | (go_split_ands; refine ⟨?_, ?_, ?_, ?_⟩ <;> first | assumption | exact cell_later (by assumption) (by assumption))) (first | (go_at_call 75; refine (eqEdge_any _ _ _ _ _).mono ?_; rintro e w' ⟨rfl, hb'⟩))
          go_wp2
          go_ret
          exact ⟨by simp [hdiff], hbel.trans ((Below.refl _ _).drew.trans (hb'.mono hsz))⟩
      · have hall : eqL la lb = true := eqL_yes (by have h1 := HL.out; have h2 := hpre.out; rwa [List.take_of_length_le (by omega), List.take_of_length_le (by omega)] at h2)
        go_wp2
        go_ret
        exact ⟨by simp [hall], hbel⟩
end Go.Proofs.Ytnenlnadmdlcfaa
