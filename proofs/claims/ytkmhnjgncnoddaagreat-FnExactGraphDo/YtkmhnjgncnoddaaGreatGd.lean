/- Lists of values (a number and kin each): what it means that a slice reads as one; eqValS, eqGraph: contracts. -/
import Derived.Test.YtkmhnjgncnoddaaGreatVa
import Derived.Test.YtkmhnjgncnoddaaGreatGv
import Derived.BigQuiet
import Derived.Lib.QuietBelow
import Derived.Deep.RegionHeld3
namespace Go.Proofs.YtkmhnjgncnoddaaGreat
open Go.RowKit
attribute [local go_sem ↓] Go.wp_at_zero Go.wp_at_succ

/-- Two places of lists of values, and a callee that tells whether they are one: a loop over them. -/
theorem eqVal_two (x y : ValD) (u v : Value) (w : World) (hu : Rd w u x.2) (hv : Rd w v y.2) :
    Calls Tryz.prog 112 #[.agg #[.int .i64 x.1, u], .agg #[.int .i64 y.1, v]] w fun e w' => e = .returned (.bool (eqD x y)) ∧ Below w.heap.size w w' := eqVal_any _ _ _ _ _ _ _ hu hv

set_option maxRecDepth 100000 in
set_option maxHeartbeats 1000000 in
theorem eqValS_any (va vb : Value) (la lb : List ValD) (w : World) (ha : RdG w va la) (hb : RdG w vb lb) :
    Calls Tryz.prog 53 #[va, vb] w fun e w' => e = .returned (.bool (eqG la lb)) ∧ Below w.heap.size w w' := by
  obtain ⟨aa, ca, rfl, hla, hca⟩ := ha
  obtain ⟨ab, cb, rfl, hlb, hcb⟩ := hb
  unfold maxLen at hla hlb
  by_cases hne : ((la.length : Int) != (lb.length : Int)) = true
  · have : la ≠ lb := fun h => by simp [h] at hne
    go_enter Tryz.func53, Tryz.ntmps53
    go_wp2
    go_ret
    exact ⟨by simp [eqG_no this], Below.refl _ _⟩
  · have hlen : la.length = lb.length := by simp at hne; omega
    have HL : Hid (la.length = lb.length) := hlen
    clear hlen
    go_enter Tryz.func53, Tryz.ntmps53
    go_wp2
    go_loopw [5] (fun i wr => ∃ k : Nat, k ≤ la.length ∧ i = .int .i64 k ∧ Hid (la.take k = lb.take k) ∧ Below w.heap.size w wr) (fun i _ => la.length - (intOf i).toNat)
    case atStart => exact ⟨0, Nat.zero_le _, rfl, rfl, Below.refl _ _⟩
    case round =>
      obtain ⟨k, hk, rfl, hpre, hbel⟩ := hrel
      by_cases hlt : k < la.length
      · obtain ⟨ba, oa, rfl, hba, hcca⟩ := hca (by omega)
        obtain ⟨bb, ob, rfl, hbb, hccb⟩ := hcb (by have := HL.out; omega)
        obtain ⟨c0, ua, c1, hua⟩ := hcca k hlt
        obtain ⟨d0, ub, d1, hub⟩ := hccb k (by have := HL.out; omega)
        rw [← hbel.cell (p := ⟨ba, oa + k * 2, none⟩) hba] at c0
        rw [← hbel.cell (p := ⟨ba, oa + k * 2 + 1, none⟩) hba] at c1
        rw [← hbel.cell (p := ⟨bb, ob + k * 2, none⟩) hbb] at d0
        rw [← hbel.cell (p := ⟨bb, ob + k * 2 + 1, none⟩) hbb] at d1
        have hkb : (k : Int) < (lb.length : Int) := by have := HL.out; omega
        have HUA := hid (hua.later hbel)
        have HUB := hid (hub.later hbel)
        have hnext : Hid (la.getD k valD0 = lb.getD k valD0 → la.take (k + 1) = lb.take (k + 1)) := hid (fun h => take_more la lb valD0 k hlt (by have := HL.out; omega) hpre h)
        have hdiff : Hid (¬ la.getD k valD0 = lb.getD k valD0 → eqG la lb = false) := hid (fun h => eqG_no (fun e => h (by rw [e])))
        have hsz := hbel.size
        clear hcca hccb hca hcb hua hub
        generalize la.getD k valD0 = x at *
        generalize lb.getD k valD0 = y at *
        have r0 := cell_regrown c0
        have r1 := cell_regrown c1
        have r2 := cell_regrown d0
        have r3 := cell_regrown d1
        cases hxy : eqD x y with
        | true =>
          have hN := hid (hnext.out (eqD_iff.1 hxy))
          clear hnext hdiff
          have hcal := fun (W : World) (h1 : Rd W ua x.2) (h2 : Rd W ub y.2) => eqVal_two x y ua ub W h1 h2
          rw [hxy] at hcal
          go_wp2_with fail
          refine wp_region_quiet_below (by kernel_rfl) (by kernel_rfl) ?_
          repeat (first | go_big_quiet_skip | (go_big_quiet_want; go_big_quiet_op; first | go_big_quiet_on | go_big_quiet_call (first | (go_at_call 112; exact Calls.regrown_of (hcal _ (HUA.out.later (below_regrown _ _ _)) (HUB.out.later (below_regrown _ _ _)))))))
          refine wpQuiet_nil ?_
          rintro wq ⟨pq, hwq⟩
          have hq : Below wr.heap.size wr wq := by rw [hwq]; exact below_regrown _ _ _
          clear hwq pq
          go_wp2
          go_roundw
          case rel => exact ⟨k + 1, by omega, by go_num, hN, hbel.trans (hq.mono hsz)⟩
          case measure => simp [intOf]; omega
        | false =>
          have hN := hid (hdiff.out (fun e => by rw [eqD_iff.2 e] at hxy; cases hxy))
          clear hnext hdiff
          have hcal := fun (W : World) (h1 : Rd W ua x.2) (h2 : Rd W ub y.2) => eqVal_two x y ua ub W h1 h2
          rw [hxy] at hcal
          go_wp2_with fail
          refine wp_region_quiet_below (by kernel_rfl) (by kernel_rfl) ?_
          repeat (first | go_big_quiet_skip | (go_big_quiet_want; go_big_quiet_op; first | go_big_quiet_on | go_big_quiet_call (first | (go_at_call 112; exact Calls.regrown_of (hcal _ (HUA.out.later (below_regrown _ _ _)) (HUB.out.later (below_regrown _ _ _)))))))
          refine wpQuiet_nil ?_
          rintro wq ⟨pq, hwq⟩
          have hq : Below wr.heap.size wr wq := by rw [hwq]; exact below_regrown _ _ _
          clear hwq pq
          go_wp2
          go_ret
          exact ⟨by simp [hN.out], hbel.trans (hq.mono hsz)⟩
      · have hall : eqG la lb = true := eqG_yes (by have h1 := HL.out; have h2 := hpre.out; rwa [List.take_of_length_le (by omega), List.take_of_length_le (by omega)] at h2)
        go_wp2
        go_ret
        exact ⟨by simp [hall], hbel⟩
end Go.Proofs.YtkmhnjgncnoddaaGreat
