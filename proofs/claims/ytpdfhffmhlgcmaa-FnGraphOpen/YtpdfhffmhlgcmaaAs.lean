/- Two arrays of 24 values, compared part by part: contract. -/
import Derived.Test.YtpdfhffmhlgcmaaAr
import Derived.Test.YtpdfhffmhlgcmaaVs
import Derived.Deep.Cut
namespace Go.Proofs.Ytpdfhffmhlgcmaa
open Go.RowKit
attribute [local go_sem ↓] Go.wp_at_zero Go.wp_at_succ
attribute [local go_sem ↓] ldS_open stS_open ixS_open

theorem isame_arr (x y : ValD) (u v : Value) (w : World) (hu : Rd w u x.2) (hv : Rd w v y.2) :
    Calls Try.prog 18 #[.agg #[.int .i64 x.1, u], .agg #[.int .i64 y.1, v]] w fun e w' => e = .returned (.bool (eqD x y)) ∧ Below w.heap.size w w' := implVSame_any _ _ _ _ _ _ _ hu hv

set_option maxRecDepth 100000 in
set_option maxHeartbeats 1000000 in
theorem sameRows_any (cs ds : Array Value) (la lb : List ValD) (w : World) (h : AgG w cs la) (h' : AgG w ds lb) :
    Calls Try.prog 15 #[.agg cs, .agg ds] w fun e w' => e = .returned (.bool (eqG la lb)) ∧ Below w.heap.size w w' := by
  have hl := ldS_row (heap_alloc2_old w (.cells cs 43) (.cells ds 43)) h.size
  have hcl := hid (fun j => cell_of_row ((w.alloc (.cells cs 43)).alloc (.cells ds 43)) (w.heap.size + 1) j ds _ (0, 0) (heap_alloc2_new w _ _))
  have hb0 : Below w.heap.size w ((w.alloc (.cells cs 43)).alloc (.cells ds 43)) := by go_grown
  have hz0 : w.heap.size + 1 < ((w.alloc (.cells cs 43)).alloc (.cells ds 43)).heap.size := by simp
  have HA := hid (h.later hb0)
  have HB := hid (h'.later hb0)
  go_enter Try.func15, Try.ntmps15
  go_wp2_with fail
  clear hl h h'
  generalize ((w.alloc (.cells cs 43)).alloc (.cells ds 43)) = w1 at *
  go_loopw [8] (fun i wr => ∃ k : Nat, k ≤ 24 ∧ i = .int .i64 k ∧ Hid (la.take k = lb.take k) ∧ Below w1.heap.size w1 wr) (fun i _ => 24 - (intOf i).toNat)
  case atStart => exact ⟨0, Nat.zero_le _, rfl, rfl, Below.refl _ _⟩
  case round =>
    obtain ⟨k, hk, rfl, hpre, hbel⟩ := hrel
    by_cases hlt : k < 24
    · obtain ⟨ua, hua, hra⟩ := (HA.out.later hbel).kin k hlt
      have hna := HA.out.num k hlt
      obtain ⟨ub, hub, hrb⟩ := (HB.out.later hbel).kin k hlt
      have hnb := HB.out.num k hlt
      have hix := fun W => ixS_row W hlt HA.out.size hna hua
      have d0 : wr.cell? ⟨w.heap.size + 1, k * 2, none⟩ = some (.int .i64 (lb.getD k valD0).1) := ((hbel.cell (p := ⟨w.heap.size + 1, k * 2, none⟩) hz0).trans (hcl.out _)).trans hnb
      have d1 : wr.cell? ⟨w.heap.size + 1, k * 2 + 1, none⟩ = some ub := ((hbel.cell (p := ⟨w.heap.size + 1, k * 2 + 1, none⟩) hz0).trans (hcl.out _)).trans hub
      have hz1 : w.heap.size + 1 < wr.heap.size := Nat.lt_of_lt_of_le hz0 hbel.size
      have hnext : Hid (la.getD k valD0 = lb.getD k valD0 → la.take (k + 1) = lb.take (k + 1)) := hid (fun h => take_more la lb valD0 k (by rw [HA.out.len]; exact hlt) (by rw [HB.out.len]; exact hlt) hpre h)
      have hdiff : Hid (¬ la.getD k valD0 = lb.getD k valD0 → eqG la lb = false) := hid (fun h => eqG_no (fun e => h (by rw [e])))
      have HUA := hid hra
      have HUB := hid hrb
      obtain ⟨uao, uac, huav, _⟩ := id hra
      obtain ⟨ubo, ubc, hubv, _⟩ := id hrb
      subst huav
      subst hubv
      clear hua hna hub hnb hra hrb hpre
      generalize la.getD k valD0 = x at *
      generalize lb.getD k valD0 = y at *
      go_upto_region 4 with fail
      have e0 : (wr.alloc (.cells #[.int .i64 x.1, .slice uao x.2.length uac] 37)).cell? ⟨wr.heap.size, 0, none⟩ = some (.int .i64 x.1) := by go_cell
      have e1 : (wr.alloc (.cells #[.int .i64 x.1, .slice uao x.2.length uac] 37)).cell? ⟨wr.heap.size, 1, none⟩ = some (.slice uao x.2.length uac) := by go_cell
      have e2 : (wr.alloc (.cells #[.int .i64 x.1, .slice uao x.2.length uac] 37)).cell? ⟨w.heap.size + 1, k * 2, none⟩ = some (.int .i64 y.1) := by go_cell
      have e3 : (wr.alloc (.cells #[.int .i64 x.1, .slice uao x.2.length uac] 37)).cell? ⟨w.heap.size + 1, k * 2 + 1, none⟩ = some (.slice ubo y.2.length ubc) := by go_cell
      have g1 : Below wr.heap.size wr (wr.alloc (.cells #[.int .i64 x.1, .slice uao x.2.length uac] 37)) := by go_grown
      clear d0 d1
      generalize wr.alloc (.cells #[.int .i64 x.1, .slice uao x.2.length uac] 37) = w2 at *
      have hU1 := hid (HUA.out.later g1)
      have hU2 := hid (HUB.out.later g1)
      have hb2 := hid (hbel.trans (g1.mono hbel.size))
      clear g1 HUA HUB hix
      have r0 := cell_regrown e0
      have r1 := cell_regrown e1
      have r2 := cell_regrown e2
      have r3 := cell_regrown e3
      have hcal := fun (W : World) (h1 : Rd W (.slice uao x.2.length uac) x.2) (h2 : Rd W (.slice ubo y.2.length ubc) y.2) => isame_arr x y _ _ W h1 h2
      cases hxy : eqD x y with
      | true =>
        have hN := hid (hnext.out (eqD_iff.1 hxy))
        clear hnext hdiff
        rw [hxy] at hcal
        refine wp_region_quiet_below (by kernel_rfl) (by kernel_rfl) ?_
        repeat (first | go_big_quiet_skip | (go_big_quiet_want; go_big_quiet_op; first | go_big_quiet_on | go_big_quiet_call (first | (go_at_call 18; exact Calls.regrown_of (hcal _ (hU1.out.later (below_regrown _ _ _)) (hU2.out.later (below_regrown _ _ _)))))))
        refine wpQuiet_nil ?_
        rintro wq ⟨pq, hwq⟩
        have hq : Below w2.heap.size w2 wq := by rw [hwq]; exact below_regrown _ _ _
        clear hwq pq
        go_wp2
        go_roundw
        case rel => exact ⟨k + 1, by omega, by go_num, hN, hb2.out.trans (hq.mono hb2.out.size)⟩
        case measure => simp [intOf]; omega
      | false =>
        have hN := hid (hdiff.out (fun e => by rw [eqD_iff.2 e] at hxy; cases hxy))
        clear hnext hdiff
        rw [hxy] at hcal
        refine wp_region_quiet_below (by kernel_rfl) (by kernel_rfl) ?_
        repeat (first | go_big_quiet_skip | (go_big_quiet_want; go_big_quiet_op; first | go_big_quiet_on | go_big_quiet_call (first | (go_at_call 18; exact Calls.regrown_of (hcal _ (hU1.out.later (below_regrown _ _ _)) (hU2.out.later (below_regrown _ _ _)))))))
        refine wpQuiet_nil ?_
        rintro wq ⟨pq, hwq⟩
        have hq : Below w2.heap.size w2 wq := by rw [hwq]; exact below_regrown _ _ _
        clear hwq pq
        go_wp2
        go_ret
        exact ⟨by simp [hN.out], hb0.trans ((hb2.out.trans (hq.mono hb2.out.size)).mono hb0.size)⟩
    · have hk24 : k = 24 := by omega
      subst hk24
      have hall : eqG la lb = true := eqG_yes (by have h2 := hpre.out; rwa [List.take_of_length_le (by rw [HA.out.len]; omega), List.take_of_length_le (by rw [HB.out.len]; omega)] at h2)
      go_wp2
      go_ret
      exact ⟨by simp [hall], hb0.trans (hbel.mono hb0.size)⟩
end Go.Proofs.Ytpdfhffmhlgcmaa
