/- The graphs' own: szGraph, toGraph, eqGraph; both GraphSame: contracts. -/
import Derived.Test.YthmbhcgecnkgeaaGe
import Derived.Test.YthmbhcgecnkgeaaVs
namespace Go.Proofs.Ythmbhcgecnkgeaa
open Go.RowKit
attribute [local go_sem ↓] Go.wp_at_zero Go.wp_at_succ

theorem isame_two (x y : ValD) (u v : Value) (w : World) (hu : Rd w u x.2) (hv : Rd w v y.2) :
    Calls Try.prog 16 #[.agg #[.int .i64 x.1, u], .agg #[.int .i64 y.1, v]] w fun e w' => e = .returned (.bool (eqD x y)) ∧ Below w.heap.size w w' := implVSame_any _ _ _ _ _ _ _ hu hv

set_option maxRecDepth 100000 in
set_option maxHeartbeats 1000000 in
theorem equalF_any (va vb : Value) (la lb : List ValD) (w : World) (ha : RdG w va la) (hb : RdG w vb lb) :
    Calls Try.prog 41 #[va, vb, .func (.func 16) #[] #[]] w fun e w' => e = .returned (.bool (eqG la lb)) ∧ Below w.heap.size w w' := by
  obtain ⟨aa, ca, rfl, hla, hca⟩ := ha
  obtain ⟨ab, cb, rfl, hlb, hcb⟩ := hb
  unfold maxLen at hla hlb
  by_cases hne : ((la.length : Int) != (lb.length : Int)) = true
  · have : la ≠ lb := fun h => by simp [h] at hne
    go_enter Try.func41, Try.ntmps41
    go_wp2
    go_ret
    exact ⟨by simp [eqG_no this], by go_grown⟩
  · have hlen : la.length = lb.length := by simp at hne; omega
    have HL : Hid (la.length = lb.length) := hlen
    clear hlen
    go_enter Try.func41, Try.ntmps41
    go_wp2
    go_loopw [17] (fun i wr => ∃ k : Nat, k ≤ la.length ∧ i = .int .i64 k ∧ Hid (la.take k = lb.take k) ∧ Below w.heap.size w wr) (fun i _ => la.length - (intOf i).toNat)
    case atStart => exact ⟨0, Nat.zero_le _, rfl, rfl, Below.refl _ _⟩
    case round =>
      obtain ⟨k, hk, rfl, hpre, hbel⟩ := hrel
      have hsz := hbel.size
      by_cases hlt : k < la.length
      · obtain ⟨ba, oa, rfl, hba, hcca⟩ := hca (by omega)
        obtain ⟨bb, ob, rfl, hbb, hccb⟩ := hcb (by have := HL.out; omega)
        obtain ⟨c0, ua, c1', hua⟩ := hcca k hlt
        obtain ⟨d0, ub, d1, hub⟩ := hccb k (by have := HL.out; omega)
        rw [← hbel.cell (p := ⟨ba, oa + k * 2, none⟩) hba] at c0
        rw [← hbel.cell (p := ⟨ba, oa + k * 2 + 1, none⟩) hba] at c1'
        rw [← hbel.cell (p := ⟨bb, ob + k * 2, none⟩) hbb] at d0
        rw [← hbel.cell (p := ⟨bb, ob + k * 2 + 1, none⟩) hbb] at d1
        have hkb : (k : Int) < (lb.length : Int) := by have := HL.out; omega
        have HUA := hid (hua.later hbel)
        have HUB := hid (hub.later hbel)
        have hba' : ba < wr.heap.size := by omega
        have hbb' : bb < wr.heap.size := by omega
        have hnext : Hid (la.getD k valD0 = lb.getD k valD0 → la.take (k + 1) = lb.take (k + 1)) := hid (fun h => take_more la lb valD0 k hlt (by have := HL.out; omega) hpre h)
        have hdiff : Hid (¬ la.getD k valD0 = lb.getD k valD0 → eqG la lb = false) := hid (fun h => eqG_no (fun e => h (by rw [e])))
        obtain ⟨uao, uac, huav, _⟩ := HUA.out
        obtain ⟨ubo, ubc, hubv, _⟩ := HUB.out
        subst huav
        subst hubv
        clear hcca hccb hca hcb hua hub
        generalize la.getD k valD0 = x at *
        generalize lb.getD k valD0 = y at *
        go_wp2_with fail
        refine (isame_two x y _ _ _ (HUA.out.later (by go_grown)) (HUB.out.later (by go_grown))).mono ?_
        rintro e w2 ⟨rfl, b2⟩
        have d2 : Below wr.heap.size wr w2 := (Below.trans (by go_grown) (b2.mono (by first | omega | (simp; done) | (simp; omega))))
        have c2 := hbel.trans (d2.mono hsz)
        clear b2 d2
        cases hxy : eqD x y with
        | true =>
          have hN := hid (hnext.out (eqD_iff.1 hxy))
          clear hnext hdiff
          go_wp2
          go_roundw
          case rel => exact ⟨k + 1, by omega, by go_num, hN, c2⟩
          case measure => simp [intOf]; omega
        | false =>
          have hN := hid (hdiff.out (fun e => by rw [eqD_iff.2 e] at hxy; cases hxy))
          clear hnext hdiff
          go_wp2
          go_ret
          exact ⟨by simp [hN.out], c2⟩
      · have hall : eqG la lb = true := eqG_yes (by have h1 := HL.out; have h2 := hpre.out; rwa [List.take_of_length_le (by omega), List.take_of_length_le (by omega)] at h2)
        go_wp2
        go_ret
        exact ⟨by simp [hall], hbel⟩

set_option maxHeartbeats 1000000 in
theorem implGSame_any (va vb : Value) (la lb : List ValD) (w : World) (ha : RdG w va la) (hb : RdG w vb lb) :
    Calls Try.prog 23 #[.agg #[va], .agg #[vb]] w fun e w' => e = .returned (.bool (eqG la lb)) ∧ Below w.heap.size w w' := by
  have HA := hid ha
  have HB := hid hb
  obtain ⟨ao, cap, hv, _⟩ := ha
  subst hv
  obtain ⟨bo, cbp, hv, _⟩ := hb
  subst hv
  go_enter Try.func23, Try.ntmps23
  go_wp2_with fail
  refine (equalF_any _ _ la lb _ (HA.out.later (by go_grown)) (HB.out.later (by go_grown))).mono ?_
  rintro e w1 ⟨rfl, b1⟩
  have c1 : Below w.heap.size w w1 := (Below.trans (by go_grown) (b1.mono (by first | omega | (simp; done) | (simp; omega))))
  go_wp2
  go_ret
  exact ⟨by simp, c1⟩
end Go.Proofs.Ythmbhcgecnkgeaa
