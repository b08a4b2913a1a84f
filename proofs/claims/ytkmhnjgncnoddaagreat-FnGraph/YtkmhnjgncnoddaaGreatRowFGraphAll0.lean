/- Parts of what the last text proves: contracts and plain facts. -/
import Derived.Test.YtkmhnjgncnoddaaGreatPl
import Derived.Deep.RegionHeld3
import Derived.Deep.DrawnRows
import Derived.Test.YtkmhnjgncnoddaaGreatTo
import Derived.Test.YtkmhnjgncnoddaaGreatGv
import Derived.BigQuiet
import Derived.Lib.QuietBelow
import Derived.Test.YtkmhnjgncnoddaaGreatAdS
import Derived.Laws.AppendOwnNone
import Derived.Test.YtkmhnjgncnoddaaGreatAy
import Derived.Deep.Cut
import Derived.Test.YtkmhnjgncnoddaaGreatOy
import Derived.Test.YtkmhnjgncnoddaaGreatOz
import Derived.Test.YtkmhnjgncnoddaaGreatEhP
import Derived.Test.YtkmhnjgncnoddaaGreatHasP
import Derived.Test.YtkmhnjgncnoddaaGreatAu
import Derived.Test.YtkmhnjgncnoddaaGreatKm
import Derived.Test.YtkmhnjgncnoddaaGreatOa
/- Part: The law's own helpers szEdgeS, eqEdge, eqEdgeS: contracts. -/
namespace Go.Proofs.YtkmhnjgncnoddaaGreat
open Go.RowKit
attribute [local go_sem ↓] Go.wp_at_zero Go.wp_at_succ

set_option maxHeartbeats 400000 in
theorem sz_any (ao : Option Addr) (n cap : Nat) (left : Int) (hn : n ≤ maxLen) (h0 : 0 ≤ left) (h1 : left ≤ 1048576) (w : World) :
    Calls Tryz.prog 159 #[.slice ao n cap, .int .i64 left] w fun e w' => e = .returned (.int .i64 (if left < n then -1 else left - n)) ∧ w' = w := by
  unfold maxLen at hn
  by_cases h : left < n
  · go_enter Tryz.func159, Tryz.ntmps159
    go_wp2
    go_ret
    exact ⟨by simp, rfl⟩
  · go_enter Tryz.func159, Tryz.ntmps159
    go_wp2
    go_ret
    exact ⟨by simp, rfl⟩

theorem sz_fits (ao : Option Addr) (n cap : Nat) (left : Int) (hn : (n : Int) ≤ left) (h1 : left ≤ 1048576) (w : World) :
    Calls Tryz.prog 159 #[.slice ao n cap, .int .i64 left] w fun e w' => e = .returned (.int .i64 (left - n)) ∧ w' = w := by
  have := sz_any ao n cap left (by unfold maxLen; omega) (by omega) h1 w
  rwa [if_neg (by omega)] at this
theorem sz_over (ao : Option Addr) (n cap : Nat) (left : Int) (hm : n ≤ maxLen) (hn : left < (n : Int)) (h0 : 0 ≤ left) (h1 : left ≤ 1048576) (w : World) :
    Calls Tryz.prog 159 #[.slice ao n cap, .int .i64 left] w fun e w' => e = .returned (.int .i64 (-1)) ∧ w' = w := by
  have := sz_any ao n cap left hm h0 h1 w
  rwa [if_pos (by omega)] at this

set_option maxHeartbeats 400000 in
theorem eqEdge_any (a b c d : Int) (w : World) :
    Calls Tryz.prog 183 #[.agg #[.int .i64 a, .int .i64 b], .agg #[.int .i64 c, .int .i64 d]] w fun e w' => e = .returned (.bool (eqB (a, b) (c, d))) ∧ Below w.heap.size w w' := by
  go_enter Tryz.func183, Tryz.ntmps183
  go_wp2
  all_goals
    go_ret
    exact ⟨by simp_all [eqB], by go_grown⟩

set_option maxHeartbeats 1000000 in
theorem eqEdgeS_any (va vb : Value) (la lb : List (Int × Int)) (w : World) (ha : Rd w va la) (hb : Rd w vb lb) :
    Calls Tryz.prog 161 #[va, vb] w fun e w' => e = .returned (.bool (eqL la lb)) ∧ Below w.heap.size w w' := by
  obtain ⟨aa, ca, rfl, hla, hca⟩ := ha
  obtain ⟨ab, cb, rfl, hlb, hcb⟩ := hb
  unfold maxLen at hla hlb
  by_cases hne : ((la.length : Int) != (lb.length : Int)) = true
  · have : la ≠ lb := fun h => by simp [h] at hne
    go_enter Tryz.func161, Tryz.ntmps161
    go_wp2
    go_ret
    exact ⟨by simp [eqL_no this], Below.refl _ _⟩
  · have hlen : la.length = lb.length := by simp at hne; omega
    have HL : Hid (la.length = lb.length) := hlen
    clear hlen
    go_enter Tryz.func161, Tryz.ntmps161
    go_wp2
    go_loopw [5] (fun i wr => ∃ k : Nat, k ≤ la.length ∧ i = .int .i64 k ∧ Hid (la.take k = lb.take k) ∧ Below w.heap.size w wr) (fun i _ => la.length - (intOf i).toNat)
    case atStart => exact ⟨0, Nat.zero_le _, rfl, rfl, Below.refl _ _⟩
    case round =>
      obtain ⟨k, hk, rfl, hpre, hbel⟩ := hrel
      by_cases hlt : k < la.length
      · obtain ⟨ba, oa, rfl, hba, hcca⟩ := hca (by omega)
        obtain ⟨bb, ob, rfl, hbb, hccb⟩ := hcb (by have := HL.out; omega)
        obtain ⟨c0, c1⟩ := hcca k hlt
        obtain ⟨d0, d1⟩ := hccb k (by have := HL.out; omega)
        rw [← hbel.cell (p := ⟨ba, oa + k * 2, none⟩) hba] at c0
        rw [← hbel.cell (p := ⟨ba, oa + k * 2 + 1, none⟩) hba] at c1
        rw [← hbel.cell (p := ⟨bb, ob + k * 2, none⟩) hbb] at d0
        rw [← hbel.cell (p := ⟨bb, ob + k * 2 + 1, none⟩) hbb] at d1
        have hkb : (k : Int) < (lb.length : Int) := by have := HL.out; omega
        have hsz := hbel.size
        clear hcca hccb hca hcb
        by_cases hxy : la.getD k (0, 0) = lb.getD k (0, 0)
        · have hnext : Hid (la.take (k + 1) = lb.take (k + 1)) := take_more la lb (0, 0) k hlt (by omega) hpre hxy
          rw [← hxy] at d0 d1
          generalize la.getD k (0, 0) = x at *
          clear hxy
          have he : eqB x x = true := eqB_yes rfl
          go_wp2
          go_region_held3 (fun w' => w'.cell? ⟨ba, oa + k * 2, none⟩ = some (.int .i64 x.1) ∧ w'.cell? ⟨ba, oa + k * 2 + 1, none⟩ = some (.int .i64 x.2) ∧ w'.cell? ⟨bb, ob + k * 2, none⟩ = some (.int .i64 x.1) ∧ w'.cell? ⟨bb, ob + k * 2 + 1, none⟩ = some (.int .i64 x.2)) (first | go_keep | (go_split_ands; refine ⟨?_, ?_, ?_, ?_⟩ <;> first | assumption | exact cell_later (by assumption) (by assumption))) (first | (go_at_call 183; refine (eqEdge_any _ _ _ _ _).mono ?_; rintro e w' ⟨rfl, hb'⟩))
          go_wp2
          go_roundw
          case rel => exact ⟨k + 1, by omega, by go_num, hnext, hbel.trans ((Below.refl _ _).drew.trans (hb'.mono hsz))⟩
          case measure => simp [intOf]; omega
        · have hdiff : eqL la lb = false := eqL_no (fun h => hxy (by rw [h]))
          have he : eqB (la.getD k (0, 0)) (lb.getD k (0, 0)) = false := eqB_no hxy
          clear hxy
          generalize la.getD k (0, 0) = x at *
          generalize lb.getD k (0, 0) = y at *
          go_wp2
          go_region_held3 (fun w' => w'.cell? ⟨ba, oa + k * 2, none⟩ = some (.int .i64 x.1) ∧ w'.cell? ⟨ba, oa + k * 2 + 1, none⟩ = some (.int .i64 x.2) ∧ w'.cell? ⟨bb, ob + k * 2, none⟩ = some (.int .i64 y.1) ∧ w'.cell? ⟨bb, ob + k * 2 + 1, none⟩ = some (.int .i64 y.2)) (first | go_keep | (go_split_ands; refine ⟨?_, ?_, ?_, ?_⟩ <;> first | assumption | exact cell_later (by assumption) (by assumption))) (first | (go_at_call 183; refine (eqEdge_any _ _ _ _ _).mono ?_; rintro e w' ⟨rfl, hb'⟩))
          go_wp2
          go_ret
          exact ⟨by simp [hdiff], hbel.trans ((Below.refl _ _).drew.trans (hb'.mono hsz))⟩
      · have hall : eqL la lb = true := eqL_yes (by have h1 := HL.out; have h2 := hpre.out; rwa [List.take_of_length_le (by omega), List.take_of_length_le (by omega)] at h2)
        go_wp2
        go_ret
        exact ⟨by simp [hall], hbel⟩
end Go.Proofs.YtkmhnjgncnoddaaGreat

/- Part: The law's own helpers szVal, toVal, eqVal: contracts. -/
namespace Go.Proofs.YtkmhnjgncnoddaaGreat
open Go.RowKit
attribute [local go_sem ↓] Go.wp_at_zero Go.wp_at_succ

theorem szVal_fits (k : Int) (ao : Option Addr) (n cap : Nat) (left : Int) (hn : (n : Int) ≤ left) (h1 : left ≤ 1048576) (w : World) :
    Calls Tryz.prog 110 #[.agg #[.int .i64 k, .slice ao n cap], .int .i64 left] w fun e w' => e = .returned (.int .i64 (left - n)) ∧ Below w.heap.size w w' := by
  go_enter Tryz.func110, Tryz.ntmps110
  go_wp2_with (first | (go_at_call 159; refine (sz_fits ao n cap left hn h1 _).mono ?_; rintro e w1 ⟨rfl, rfl⟩))
  go_ret
  exact ⟨by simp, by go_grown⟩
theorem szVal_over (k : Int) (ao : Option Addr) (n cap : Nat) (left : Int) (hm : n ≤ maxLen) (hn : left < (n : Int)) (h0 : 0 ≤ left) (h1 : left ≤ 1048576) (w : World) :
    Calls Tryz.prog 110 #[.agg #[.int .i64 k, .slice ao n cap], .int .i64 left] w fun e w' => e = .returned (.int .i64 (-1)) ∧ Below w.heap.size w w' := by
  go_enter Tryz.func110, Tryz.ntmps110
  go_wp2_with (first | (go_at_call 159; refine (sz_over ao n cap left hm hn h0 h1 _).mono ?_; rintro e w1 ⟨rfl, rfl⟩))
  go_ret
  exact ⟨by simp, by go_grown⟩

theorem Own.apartSet {w : World} {B : Nat} {v : Value} {l : List (Int × Int)} {p : Addr} (h : Own w B v l) (hp : p.block < B) (u : Value) : Own (w.setCell p u) B v l := by
  refine ⟨h.1, ?_⟩
  rcases h.2 with hn | ⟨g, cap, cur, rfl, hbg, hgg, rest⟩
  · exact .inl hn
  · exact .inr ⟨g, cap, cur, rfl, hbg, (Below.heap_setCell w p u g (by omega)).trans hgg, rest⟩

set_option maxHeartbeats 1000000 in
theorem toVal_any (n : Int) (v : Value) (l : List (Int × Int)) (w : World) (h : Rd w v l) (hl : l.length ≤ 1048576) :
    Calls Tryz.prog 111 #[.agg #[.int .i64 n, v]] w fun e w' => ∃ v', e = .returned (.agg #[.int .i64 n, v']) ∧ Own w' w.heap.size v' l ∧ Below w.heap.size w w' := by
  go_enter Tryz.func111, Tryz.ntmps111
  go_wp2_with fail
  refine (toEdgeS_any _ l _ (h.later (by go_grown)) hl).mono ?_
  rintro e w2 ⟨v', rfl, ho, b2⟩
  have c0 : w2.cell? ⟨w.heap.size + 2, 0, none⟩ = some (.int .i64 n) := by rw [b2.cell (by simp)]; go_cell
  have c1 : w2.cell? ⟨w.heap.size + 2, 1, none⟩ = some (.slice none 0 0) := by rw [b2.cell (by simp)]; go_cell
  have d0 : w2.cell? ⟨w.heap.size + 1, 0, none⟩ = some (.int .i64 0) := by rw [b2.cell (by simp)]; go_cell
  have d1 : w2.cell? ⟨w.heap.size + 1, 1, none⟩ = some (.slice none 0 0) := by rw [b2.cell (by simp)]; go_cell
  have f0 : w2.frozen? ⟨w.heap.size + 2, 1, none⟩ = false := by rw [b2.frozen (by simp)]; (first | go_cell | (simp [World.frozen?, World.alloc]; done) | rfl)
  have f1 : w2.frozen? ⟨w.heap.size + 1, 0, none⟩ = false := by rw [b2.frozen (by simp)]; (first | go_cell | (simp [World.frozen?, World.alloc]; done) | rfl)
  have f2 : w2.frozen? ⟨w.heap.size + 1, 1, none⟩ = false := by rw [b2.frozen (by simp)]; (first | go_cell | (simp [World.frozen?, World.alloc]; done) | rfl)
  have bb : Below w.heap.size w w2 := (Below.trans (by go_grown) (b2.mono (by first | omega | (simp; done) | (simp; omega))))
  have ho' : Own w2 (w.heap.size + 3) v' l := by simpa using ho
  clear b2 ho
  obtain ⟨ao, cap, hv, _⟩ := ho'.rd
  subst hv
  go_wp2
  have e0 : (((w2.setCell ⟨w.heap.size + 1 + 1, 1, none⟩ (.slice ao l.length cap)).setCell ⟨w.heap.size + 1, 0, none⟩ (.int .i64 n)).setCell ⟨w.heap.size + 1, 1, none⟩ (.slice ao l.length cap)).cell? ⟨w.heap.size + 1, 0, none⟩ = some (.int .i64 n) := by go_cell
  have e1 : (((w2.setCell ⟨w.heap.size + 1 + 1, 1, none⟩ (.slice ao l.length cap)).setCell ⟨w.heap.size + 1, 0, none⟩ (.int .i64 n)).setCell ⟨w.heap.size + 1, 1, none⟩ (.slice ao l.length cap)).cell? ⟨w.heap.size + 1, 1, none⟩ = some (.slice ao l.length cap) := by go_cell
  refine bodyPost_ret (v := .agg #[.int .i64 n, .slice ao l.length cap]) (by simp [results, Tryz.results111, go_sem, e0, e1]) rfl ⟨_, rfl, ?_, ?_⟩
  · exact (((ho'.apartSet (by simp) _).apartSet (by simp) _).apartSet (by simp) _).mono (by omega)
  · go_grown

set_option maxHeartbeats 1000000 in
theorem eqVal_any (n m : Int) (va vb : Value) (la lb : List (Int × Int)) (w : World) (ha : Rd w va la) (hb : Rd w vb lb) :
    Calls Tryz.prog 112 #[.agg #[.int .i64 n, va], .agg #[.int .i64 m, vb]] w fun e w' => e = .returned (.bool (n == m && eqL la lb)) ∧ Below w.heap.size w w' := by
  by_cases hn : (n == m) = true
  · have := beq_iff_eq.1 hn
    subst this
    go_enter Tryz.func112, Tryz.ntmps112
    go_wp2_with fail
    refine (eqEdgeS_any _ _ la lb _ (ha.later (by go_grown)) (hb.later (by go_grown))).mono ?_
    rintro e w2 ⟨rfl, b2⟩
    have bb : Below w.heap.size w w2 := (Below.trans (by go_grown) (b2.mono (by first | omega | (simp; done) | (simp; omega))))
    go_wp2
    all_goals
      go_ret
      exact ⟨by simp_all, bb⟩
  · have hne : (n != m) = true := by simpa using hn
    go_enter Tryz.func112, Tryz.ntmps112
    go_wp2
    go_ret
    exact ⟨by simp [hn], by go_grown⟩
theorem eqVal_self (n : Int) (va vb : Value) (l : List (Int × Int)) (w : World) (ha : Rd w va l) (hb : Rd w vb l) :
    Calls Tryz.prog 112 #[.agg #[.int .i64 n, va], .agg #[.int .i64 n, vb]] w fun e w' => e = .returned (.bool true) ∧ Below w.heap.size w w' :=
  (eqVal_any n n va vb l l w ha hb).mono fun _ _ ⟨he, hw⟩ => ⟨by rw [he, eqL_refl]; simp, hw⟩
end Go.Proofs.YtkmhnjgncnoddaaGreat

/- Part: Lists of values (a number and kin each): what it means that a slice reads as one; eqValS, eqGraph: contracts. -/
namespace Go.Proofs.YtkmhnjgncnoddaaGreat
open Go.RowKit
attribute [local go_sem ↓] Go.wp_at_zero Go.wp_at_succ

/-- Two places of lists of values, and a callee that tells whether they are one: a loop over them. -/
theorem eqVal_two (x y : ValD) (u v : Value) (w : World) (hu : Rd w u x.2) (hv : Rd w v y.2) :
    Calls Tryz.prog 112 #[.agg #[.int .i64 x.1, u], .agg #[.int .i64 y.1, v]] w fun e w' => e = .returned (.bool (eqD x y)) ∧ Below w.heap.size w w' := eqVal_any _ _ _ _ _ _ _ hu hv

set_option maxRecDepth 100000 in
set_option maxHeartbeats 1000000 in
theorem eqValS_any (va vb : Value) (la lb : List ValD) (w : World) (ha : RdG w va la) (hb : RdG w vb lb) :
    Calls Tryz.prog 53 #[va, vb] w fun e w' => e = .returned (.bool (eqG la lb)) ∧ Below w.heap.size w w' := by
  obtain ⟨aa, ca, rfl, hla, hca⟩ := ha
  obtain ⟨ab, cb, rfl, hlb, hcb⟩ := hb
  unfold maxLen at hla hlb
  by_cases hne : ((la.length : Int) != (lb.length : Int)) = true
  · have : la ≠ lb := fun h => by simp [h] at hne
    go_enter Tryz.func53, Tryz.ntmps53
    go_wp2
    go_ret
    exact ⟨by simp [eqG_no this], Below.refl _ _⟩
  · have hlen : la.length = lb.length := by simp at hne; omega
    have HL : Hid (la.length = lb.length) := hlen
    clear hlen
    go_enter Tryz.func53, Tryz.ntmps53
    go_wp2
    go_loopw [5] (fun i wr => ∃ k : Nat, k ≤ la.length ∧ i = .int .i64 k ∧ Hid (la.take k = lb.take k) ∧ Below w.heap.size w wr) (fun i _ => la.length - (intOf i).toNat)
    case atStart => exact ⟨0, Nat.zero_le _, rfl, rfl, Below.refl _ _⟩
    case round =>
      obtain ⟨k, hk, rfl, hpre, hbel⟩ := hrel
      by_cases hlt : k < la.length
      · obtain ⟨ba, oa, rfl, hba, hcca⟩ := hca (by omega)
        obtain ⟨bb, ob, rfl, hbb, hccb⟩ := hcb (by have := HL.out; omega)
        obtain ⟨c0, ua, c1, hua⟩ := hcca k hlt
        obtain ⟨d0, ub, d1, hub⟩ := hccb k (by have := HL.out; omega)
        rw [← hbel.cell (p := ⟨ba, oa + k * 2, none⟩) hba] at c0
        rw [← hbel.cell (p := ⟨ba, oa + k * 2 + 1, none⟩) hba] at c1
        rw [← hbel.cell (p := ⟨bb, ob + k * 2, none⟩) hbb] at d0
        rw [← hbel.cell (p := ⟨bb, ob + k * 2 + 1, none⟩) hbb] at d1
        have hkb : (k : Int) < (lb.length : Int) := by have := HL.out; omega
        have HUA := hid (hua.later hbel)
        have HUB := hid (hub.later hbel)
        have hnext : Hid (la.getD k valD0 = lb.getD k valD0 → la.take (k + 1) = lb.take (k + 1)) := hid (fun h => take_more la lb valD0 k hlt (by have := HL.out; omega) hpre h)
        have hdiff : Hid (¬ la.getD k valD0 = lb.getD k valD0 → eqG la lb = false) := hid (fun h => eqG_no (fun e => h (by rw [e])))
        have hsz := hbel.size
        clear hcca hccb hca hcb hua hub
        generalize la.getD k valD0 = x at *
        generalize lb.getD k valD0 = y at *
        have r0 := cell_regrown c0
        have r1 := cell_regrown c1
        have r2 := cell_regrown d0
        have r3 := cell_regrown d1
        cases hxy : eqD x y with
        | true =>
          have hN := hid (hnext.out (eqD_iff.1 hxy))
          clear hnext hdiff
          have hcal := fun (W : World) (h1 : Rd W ua x.2) (h2 : Rd W ub y.2) => eqVal_two x y ua ub W h1 h2
          rw [hxy] at hcal
          go_wp2_with fail
          refine wp_region_quiet_below (by kernel_rfl) (by kernel_rfl) ?_
          repeat (first | go_big_quiet_skip | (go_big_quiet_want; go_big_quiet_op; first | go_big_quiet_on | go_big_quiet_call (first | (go_at_call 112; exact Calls.regrown_of (hcal _ (HUA.out.later (below_regrown _ _ _)) (HUB.out.later (below_regrown _ _ _)))))))
          refine wpQuiet_nil ?_
          rintro wq ⟨pq, hwq⟩
          have hq : Below wr.heap.size wr wq := by rw [hwq]; exact below_regrown _ _ _
          clear hwq pq
          go_wp2
          go_roundw
          case rel => exact ⟨k + 1, by omega, by go_num, hN, hbel.trans (hq.mono hsz)⟩
          case measure => simp [intOf]; omega
        | false =>
          have hN := hid (hdiff.out (fun e => by rw [eqD_iff.2 e] at hxy; cases hxy))
          clear hnext hdiff
          have hcal := fun (W : World) (h1 : Rd W ua x.2) (h2 : Rd W ub y.2) => eqVal_two x y ua ub W h1 h2
          rw [hxy] at hcal
          go_wp2_with fail
          refine wp_region_quiet_below (by kernel_rfl) (by kernel_rfl) ?_
          repeat (first | go_big_quiet_skip | (go_big_quiet_want; go_big_quiet_op; first | go_big_quiet_on | go_big_quiet_call (first | (go_at_call 112; exact Calls.regrown_of (hcal _ (HUA.out.later (below_regrown _ _ _)) (HUB.out.later (below_regrown _ _ _)))))))
          refine wpQuiet_nil ?_
          rintro wq ⟨pq, hwq⟩
          have hq : Below wr.heap.size wr wq := by rw [hwq]; exact below_regrown _ _ _
          clear hwq pq
          go_wp2
          go_ret
          exact ⟨by simp [hN.out], hbel.trans (hq.mono hsz)⟩
      · have hall : eqG la lb = true := eqG_yes (by have h1 := HL.out; have h2 := hpre.out; rwa [List.take_of_length_le (by omega), List.take_of_length_le (by omega)] at h2)
        go_wp2
        go_ret
        exact ⟨by simp [hall], hbel⟩
end Go.Proofs.YtkmhnjgncnoddaaGreat

/- Part: szValS, szGraph, toValS, toGraph, eqGraph: contracts. -/
namespace Go.Proofs.YtkmhnjgncnoddaaGreat
open Go.RowKit
attribute [local go_sem ↓] Go.wp_at_zero Go.wp_at_succ

/-- How much a list of values weighs. -/
def bulkG (L : List ValD) : Nat := (L.map fun x => x.2.length).sum
theorem bulk_step (L : List ValD) (k : Nat) (h : k < L.length) : bulkG (L.take (k + 1)) = bulkG (L.take k) + (L.getD k valD0).2.length := by
  rw [bulkG, bulkG, List.take_succ_eq_append_getElem h, List.map_append, List.sum_append, List.getD_eq_getElem?_getD, List.getElem?_eq_getElem h]
  simp only [List.map_cons, List.map_nil, List.sum_cons, List.sum_nil, Option.getD_some, Nat.add_zero]
theorem bulk_take (L : List ValD) (k : Nat) : bulkG (L.take k) ≤ bulkG L := by
  have h : bulkG L = bulkG (L.take k) + bulkG (L.drop k) := by
    rw [bulkG, bulkG, bulkG, ← List.sum_append, ← List.map_append, List.take_append_drop]
  omega
theorem bulk_get (L : List ValD) (k : Nat) (h : k < L.length) : (L.getD k valD0).2.length ≤ bulkG L := by
  have := bulk_step L k h
  have := bulk_take L (k + 1)
  omega
/-- What szValS answers. -/
def SzG (L : List ValD) (left : Int) (e : Ending) : Prop := (e = .returned (.int .i64 (left - L.length - bulkG L)) ∧ 0 ≤ left - L.length - bulkG L) ∨ (e = .returned (.int .i64 (-1)) ∧ left - L.length - bulkG L < 0)

theorem szVal_two (n : Int) (u : Value) (l : List (Int × Int)) (left : Int) (w : World) (h : Rd w u l) (h0 : 0 ≤ left) (h1 : left ≤ 1048576) :
    Calls Tryz.prog 110 #[.agg #[.int .i64 n, u], .int .i64 left] w fun e w' => (∃ r : Int, e = .returned (.int .i64 r) ∧ Hid ((r = left - l.length ∧ 0 ≤ r) ∨ (r = -1 ∧ left - l.length < 0))) ∧ Below w.heap.size w w' := by
  obtain ⟨ao, cap, rfl, hl, _⟩ := h
  by_cases hf : (l.length : Int) ≤ left
  · exact (szVal_fits n ao l.length cap left hf h1 w).mono fun e w' ⟨he, hb⟩ => ⟨⟨_, he, hid (Or.inl ⟨rfl, by omega⟩)⟩, hb⟩
  · exact (szVal_over n ao l.length cap left hl (by omega) h0 h1 w).mono fun e w' ⟨he, hb⟩ => ⟨⟨_, he, hid (Or.inr ⟨rfl, by omega⟩)⟩, hb⟩

set_option maxRecDepth 100000 in
set_option maxHeartbeats 1000000 in
theorem szValS_any (v : Value) (L : List ValD) (left : Int) (w : World) (h : RdG w v L) (h0 : 0 ≤ left) (h1 : left ≤ 1048576) :
    Calls Tryz.prog 51 #[v, .int .i64 left] w fun e w' => SzG L left e ∧ Below w.heap.size w w' := by
  obtain ⟨ao, cap, rfl, hl, hc⟩ := h
  unfold maxLen at hl
  by_cases hbig : left < (L.length : Int)
  · have HS : Hid (left - L.length - bulkG L < 0) := hid (by omega)
    go_enter Tryz.func51, Tryz.ntmps51
    go_wp2
    go_ret
    exact ⟨Or.inr ⟨by simp, HS.out⟩, Below.refl _ _⟩
  · go_enter Tryz.func51, Tryz.ntmps51
    go_wp2
    go_loopw [1, 5] (fun s i wr => ∃ (k : Nat) (r : Int), k ≤ L.length ∧ i = .int .i64 k ∧ s = .int .i64 r ∧ Hid (r = left - L.length - bulkG (L.take k)) ∧ 0 ≤ r ∧ r ≤ 1048576 ∧ Below w.heap.size w wr) (fun _ i _ => L.length - (intOf i).toNat)
    case atStart => exact ⟨0, left - L.length, Nat.zero_le _, rfl, by first | rfl | (simp; done), hid (by simp [bulkG]), by omega, by omega, Below.refl _ _⟩
    case round =>
      obtain ⟨k, r, hk, rfl, rfl, hr, hr0, hr1, hbel⟩ := hrel
      by_cases hlt : k < L.length
      · obtain ⟨b, o, rfl, hb, hcc⟩ := hc (by omega)
        obtain ⟨c0, u, c1, hu⟩ := hcc k hlt
        rw [← hbel.cell (p := ⟨b, o + k * 2, none⟩) hb] at c0
        rw [← hbel.cell (p := ⟨b, o + k * 2 + 1, none⟩) hb] at c1
        have HU := hid (hu.later hbel)
        have HB := hid (bulk_step L k hlt)
        have HT := hid (bulk_take L (k + 1))
        have hsz := hbel.size
        clear hcc hc hu
        generalize L.getD k valD0 = x at *
        go_wp2_with fail
        refine (szVal_two x.1 u x.2 r _ HU.out hr0 hr1).mono ?_
        rintro e w2 ⟨⟨q, rfl, hq⟩, b2⟩
        have c2 := hbel.trans (b2.mono hsz)
        by_cases hneg : q < 0
        · have HS : Hid (left - L.length - bulkG L < 0) := hid (by
            have := hr.out; have := HB.out; have := HT.out
            rcases hq.out with ⟨_, h2⟩ | ⟨_, h2⟩ <;> omega)
          go_wp2
          go_ret
          exact ⟨Or.inr ⟨by simp, HS.out⟩, c2⟩
        · have HQ : Hid (q = left - L.length - bulkG (L.take (k + 1))) := hid (by
            have := hr.out; have := HB.out
            rcases hq.out with ⟨h2, _⟩ | ⟨h2, _⟩ <;> omega)
          have hq1 : q ≤ 1048576 := by rcases hq.out with ⟨h2, _⟩ | ⟨h2, _⟩ <;> omega
          clear hq hr HB HT
          go_wp2
          go_roundw
          case rel => exact ⟨k + 1, q, by omega, by go_num, rfl, HQ, by omega, hq1, c2⟩
          case measure => simp [intOf]; omega
      · obtain rfl : k = L.length := by omega
        have HQ : Hid (r = left - L.length - bulkG L) := hid (by have := hr.out; rwa [List.take_length] at this)
        clear hr
        go_wp2
        go_ret
        exact ⟨Or.inl ⟨by rw [← HQ.out]; simp, by rw [← HQ.out]; exact hr0⟩, hbel⟩

theorem Tryz.info38 : (Tryz.prog.info? 38).map (fun i => (i.zero, i.size, i.bytes)) = some (some (.agg #[.int .i64 0, .slice none 0 0]), 2, 32) := by kernel_rfl
/-- The first k elements' cells are those of L; their kin lie apart, from block B on. -/
def FilledV (w : World) (B : Nat) (xs : List Value) (L : List ValD) (k : Nat) : Prop :=
  ∀ i, i < k → xs[i * 2]? = some (.int .i64 (L.getD i valD0).1) ∧ ∃ u, xs[i * 2 + 1]? = some u ∧ Own w B u (L.getD i valD0).2
theorem FilledV.zero (w : World) (B : Nat) (xs : List Value) (L : List ValD) : FilledV w B xs L 0 := fun _ h => absurd h (Nat.not_lt_zero _)
theorem FilledV.later {w w' : World} {B : Nat} {xs : List Value} {L : List ValD} {k : Nat} (h : FilledV w B xs L k) (hb : Below w.heap.size w w') : FilledV w' B xs L k := fun i hi => by
  obtain ⟨c0, u, c1, hu⟩ := h i hi
  exact ⟨c0, u, c1, hu.later hb⟩
theorem FilledV.set {w : World} {B : Nat} {xs : List Value} {L : List ValD} {k : Nat} (h : FilledV w B xs L k) {p : Addr} (hp : p.block < B) (z : Value) : FilledV (w.setCell p z) B xs L k := fun i hi => by
  obtain ⟨c0, u, c1, hu⟩ := h i hi
  exact ⟨c0, u, c1, hu.apartSet hp z⟩
theorem FilledV.step {w : World} {B : Nat} {xs : List Value} {L : List ValD} {k : Nat} (h : FilledV w B xs L k) (hx : k * 2 + 1 < xs.length) {u : Value} (hu : Own w B u (L.getD k valD0).2) :
    FilledV w B ((xs.set (k * 2) (.int .i64 (L.getD k valD0).1)).set (k * 2 + 1) u) L (k + 1) := by
  intro i hi
  by_cases e : i = k
  · subst e
    rw [List.getElem?_set_ne (by omega), List.getElem?_set_self (by omega), List.getElem?_set_self (by rw [List.length_set]; omega)]
    exact ⟨rfl, u, rfl, hu⟩
  · rw [List.getElem?_set_ne (by omega), List.getElem?_set_ne (by omega), List.getElem?_set_ne (by omega), List.getElem?_set_ne (by omega)]
    exact h i (by omega)
theorem row_same {w w' : World} {B : Nat} {e : TypeId} {size : Nat} {v : Value} {n : Nat} {xs : List Value} (h : w.ownsRow B e size v n xs) (hs : ∀ k, B ≤ k → k < w.heap.size → w'.heap[k]? = w.heap[k]?) : w'.ownsRow B e size v n xs := by
  refine ⟨h.1, ?_⟩
  rcases h.2 with hn | ⟨g, cap, cur, rfl, hbg, hgg, rest⟩
  · exact .inl hn
  · exact .inr ⟨g, cap, cur, rfl, hbg, (hs g hbg (Array.getElem?_eq_some_iff.1 hgg).1).trans hgg, rest⟩
/-- It reads as L in memory from block B on alone. -/
def FromG (B : Nat) (w : World) (v : Value) (L : List ValD) : Prop := ∀ w' : World, w.heap.size ≤ w'.heap.size → (∀ k, B ≤ k → k < w.heap.size → w'.heap[k]? = w.heap[k]?) → RdG w' v L
theorem FromG.rd {B : Nat} {w : World} {v : Value} {L : List ValD} (h : FromG B w v L) : RdG w v L := h w (Nat.le_refl _) (fun _ _ _ => rfl)
theorem FromG.later {B : Nat} {w w' : World} {v : Value} {L : List ValD} (h : FromG B w v L) (hb : Below w.heap.size w w') : FromG B w' v L := fun w'' hz hs =>
  h w'' (Nat.le_trans hb.size hz) (fun k hk hl => (hs k hk (Nat.lt_of_lt_of_le hl hb.size)).trans (hb.block k hl))
theorem FromG.set {B : Nat} {w : World} {v : Value} {L : List ValD} (h : FromG B w v L) {p : Addr} (hp : p.block < B) (u : Value) : FromG B (w.setCell p u) v L := fun w'' hz hs =>
  h w'' (by simpa using hz) (fun k hk hl => (hs k hk (by simpa using hl)).trans (Below.heap_setCell _ _ _ _ (by omega)))
theorem FromG.mono {B B' : Nat} {w : World} {v : Value} {L : List ValD} (h : FromG B w v L) (hB : B' ≤ B) : FromG B' w v L := fun w' hz hs => h w' hz (fun k hk => hs k (Nat.le_trans hB hk))
theorem FilledV.rdG {w : World} {B g : Nat} {xs : List Value} {L : List ValD} {n cap : Nat} (h : FilledV w B xs L n) (hn : n = L.length) (hrow : w.ownsRow g 38 2 (.slice (some ⟨g, 0, none⟩) n cap) n xs) (hm : n ≤ maxLen) :
    RdG w (.slice (some ⟨g, 0, none⟩) n cap) L := by
  subst hn
  refine ⟨_, _, rfl, hm, fun h0 => ⟨g, 0, rfl, (hrow.lt g rfl).2, fun i hi => ?_⟩⟩
  obtain ⟨c0, u, c1, hu⟩ := h i hi
  rw [Nat.zero_add]
  exact ⟨(hrow.cellAt _ (by omega)).trans c0, u, (hrow.cellAt _ (by omega)).trans c1, hu.rd⟩

theorem FilledV.fromG {w : World} {g : Nat} {xs : List Value} {L : List ValD} {n cap : Nat} (h : FilledV w (g + 1) xs L n) (hn : n = L.length) (hrow : w.ownsRow g 38 2 (.slice (some ⟨g, 0, none⟩) n cap) n xs) (hm : n ≤ maxLen) :
    FromG g w (.slice (some ⟨g, 0, none⟩) n cap) L := fun _ _ hs =>
  FilledV.rdG (B := g + 1) (fun i hi => by
    obtain ⟨c0, u, c1, hu⟩ := h i hi
    exact ⟨c0, u, c1, row_same hu (fun k hk hl => hs k (by omega) hl)⟩) hn (row_same hrow hs) hm

set_option maxRecDepth 100000 in
set_option maxHeartbeats 1000000 in
theorem toValS_any (v : Value) (L : List ValD) (w : World) (h : RdG w v L) (hl : L.length ≤ 1048576) (hbk : ∀ i, i < L.length → (L.getD i valD0).2.length ≤ 1048576) :
    Calls Tryz.prog 52 #[v] w fun e w' => ∃ v', e = .returned v' ∧ FromG w.heap.size w' v' L ∧ Below w.heap.size w w' := by
  obtain ⟨ao, cap, rfl, _, hc⟩ := h
  obtain ⟨i0, hi, hz0, hz1, hz2⟩ := info_parts Tryz.info38
  have hby : i0.bytes * L.length ≤ 281474976710656 := by rw [hz2]; omega
  have hml : L.length ≤ maxLen := by unfold maxLen; omega
  have HBK := hid hbk
  clear hbk
  go_enter Tryz.func52, Tryz.ntmps52
  go_wp2_with (first | (at_make; refine wpList_make_full _ rfl (.tmp 6) (.tmp 6) 23 rfl w.heap.size 38 i0 _ 2 Tryz.underlying23 hi hz0 hz1 .i64 .i64 _ _ L.length rfl rfl rfl rfl hby hml (Nat.le_refl _) ?_; intro w1 hown hgrow))
  go_loopw [4] (fun i wr => ∃ (k : Nat) (xs : List Value), k ≤ L.length ∧ i = .int .i64 k ∧ Hid (FilledV wr (w.heap.size + 1) xs L k) ∧ Below w.heap.size w wr ∧
      wr.ownsRow w.heap.size 38 2 (.slice (some ⟨w.heap.size, 0, none⟩) L.length L.length) L.length xs) (fun i _ => L.length - (intOf i).toNat)
  case atStart => exact ⟨0, _, Nat.zero_le _, rfl, hid (FilledV.zero _ _ _ _), (Below.refl _ _).grown hgrow (Nat.le_refl _) (by simp), hown⟩
  case round =>
    obtain ⟨k, xs, hk, rfl, hfil, hbel, hrow⟩ := hrel
    clear hown hgrow hby hi hz0 hz1 hz2
    by_cases hlt : k < L.length
    · obtain ⟨b, o, rfl, hb, hcc⟩ := hc (by omega)
      obtain ⟨c0, u, c1, hu⟩ := hcc k hlt
      rw [← hbel.cell (p := ⟨b, o + k * 2, none⟩) hb] at c0
      rw [← hbel.cell (p := ⟨b, o + k * 2 + 1, none⟩) hb] at c1
      have HU := hid (hu.later hbel)
      have hlen := HBK.out k hlt
      have hxl : k * 2 + 1 < xs.length := by rw [hrow.1]; omega
      have hgl := (hrow.lt w.heap.size rfl).2
      have HST := hid (fun (W : World) (z : Value) (hf : FilledV W (w.heap.size + 1) xs L k) (hz : Own W (w.heap.size + 1) z (L.getD k valD0).2) => FilledV.step hf hxl hz)
      clear hcc hc hu
      generalize hx : L.getD k valD0 = x at *
      have hsz := hbel.size
      have HROW := hid hrow
      go_wp2_with (first | (go_at_call 111; refine (toVal_any x.1 u x.2 _ HU.out hlen).mono ?_; rintro e w2 ⟨z, rfl, oz, hb2⟩; obtain ⟨zo, zc, hzv, _⟩ := oz.rd; subst hzv; have HOZ := hid oz; have hrow2 := row_later hrow hb2; have HF2 := hid (hfil.out.later hb2); have HR2 := hid hrow2; have HB2 := hid hb2; obtain ⟨q0, hq0⟩ := row_cell hrow2 (k * 2) (by omega); obtain ⟨q1, hq1⟩ := row_cell hrow2 (k * 2 + 1) (by omega); have f0 := hrow2.frozenAt (k * 2); have f1 := hrow2.frozenAt (k * 2 + 1); clear hrow2 oz hrow hb2))
      go_roundw
      case rel =>
        refine ⟨k + 1, _, by omega, by go_num, hid (HST.out _ _ ((HF2.out.set (p := ⟨w.heap.size, k * 2, none⟩) (by show w.heap.size < _; omega) _).set (p := ⟨w.heap.size, k * 2 + 1, none⟩) (by show w.heap.size < _; omega) _) ?_), ((hbel.trans (HB2.out.mono hsz)).setCell (Nat.le_refl _) _).setCell (Nat.le_refl _) _, row_two HR2.out (k * 2) _ _⟩
        exact ((Own.mono HOZ.out (B' := w.heap.size + 1) (by omega)).apartSet (p := ⟨w.heap.size, k * 2, none⟩) (by show w.heap.size < _; omega) _).apartSet (p := ⟨w.heap.size, k * 2 + 1, none⟩) (by show w.heap.size < _; omega) _
      case measure => simp [intOf]; omega
    · have hkl : k = L.length := by omega
      go_wp2
      go_ret
      subst hkl
      exact ⟨_, rfl, hfil.out.fromG rfl hrow hml, hbel⟩
end Go.Proofs.YtkmhnjgncnoddaaGreat

/- Part: spec.l2Copy: contract. -/
namespace Go.Proofs.YtkmhnjgncnoddaaGreat
open Go.RowKit
attribute [local go_sem ↓] Go.wp_at_zero Go.wp_at_succ

theorem run_append_cap {P : Program} {w : World} (base : Nat) (t ty e : TypeId) (i : TypeInfo) (size cp : Nat) (ht : P.underlying t = some (.slice e)) (hi : P.info? e = some i)
    (v : Value) (n : Nat) (xs : List Value) (hown : w.ownsRow base e size v n xs) :
    (Builtin.append_ #[t, t] ty #[v, .slice none 0 cp]).run P w = .ok v w := by
  rcases hown.2 with ⟨rfl, rfl⟩ | ⟨g, cap, cur, rfl, _, _, hnc, _⟩
  · simp [Builtin.append_, run_underlying ht, sizeOf, typeInfo, hi, Builtin.lenOf, Builtin.firstCells]
  · simp [Builtin.append_, run_underlying ht, sizeOf, typeInfo, hi, Builtin.lenOf, Builtin.firstCells, hnc, storeCells]
theorem wpList_append_cap {P : Program} {w : World} {ops : Array Oper} {rest : List Oper} {o : Oper} {a : Act} {Q : Exit → Act → World → Prop} (hgd : o.guard = none) (s x : Operand) (t : TypeId)
    (ho : o.op = .call { callee := .builtin .append, args := #[s, x], argTypes := #[t, t] })
    (base : Nat) (e : TypeId) (i : TypeInfo) (size cp : Nat) (ht : P.underlying t = some (.slice e)) (hi : P.info? e = some i)
    (v : Value) (n : Nat) (xs : List Value) (hs : a.eval s = v) (hown : w.ownsRow base e size v n xs) (hx : a.eval x = .slice none 0 cp)
    (h : wpList P ops Q rest (a.put o.dst v) w) : wpList P ops Q (o :: rest) a w := by
  refine wpList_plain hgd fun K hK => ?_
  have hrun := run_append_cap (P := P) (w := w) base t o.type e i size cp ht hi v n xs hown
  unfold Oper.wp
  simp [execOp, ho, resolve, invoke, builtin, hs, hx, hrun, Result.andThen]
  exact hK _ _ h

theorem copy_none (cap : Nat) (w : World) :
    Calls Tryz.prog 150 #[.slice none 0 cap] w fun x w' => ∃ v', x = .returned v' ∧ Own w' w.heap.size v' [] ∧ Below w.heap.size w w' := by
  obtain ⟨i0, hi, hz0, hz1, hz2⟩ := info_parts Tryz.info137
  have HR := hid (World.ownsRow_lit (e := 137) (size := 2) w #[] 0 (Nat.le_refl _) (Nat.zero_le _) rfl)
  go_enter Tryz.func150, Tryz.ntmps150
  go_wp2_with (at_builtin; refine wpList_append_cap rfl _ _ 36 rfl w.heap.size 137 i0 2 cap Tryz.underlying36 hi _ _ _ rfl HR.out rfl ?_)
  go_ret
  exact ⟨_, rfl, HR.out, by go_grown⟩
theorem copy_some (ad : Addr) (cap : Nat) (w : World) :
    Calls Tryz.prog 150 #[.slice (some ad) 0 cap] w fun x w' => ∃ v', x = .returned v' ∧ Own w' w.heap.size v' [] ∧ Below w.heap.size w w' := by
  obtain ⟨i0, hi, hz0, hz1, hz2⟩ := info_parts Tryz.info137
  have HR := hid (World.ownsRow_lit (e := 137) (size := 2) w #[] 0 (Nat.le_refl _) (Nat.zero_le _) rfl)
  have hbs : w.heap.size ≤ (w.alloc (.cells #[] 137)).heap.size := by simp
  go_enter Tryz.func150, Tryz.ntmps150
  go_wp2_with (at_builtin; refine wpList_append_own _ rfl _ _ 36 rfl w.heap.size 137 i0 (.agg #[.int .i64 0, .int .i64 0]) 2 16 Tryz.underlying36 hi hz0 hz1 hz2 rfl (by decide) _ _ _ rfl HR.out ad 0 cap [] rfl rfl (fun _ _ h => by simp at h) (fun _ h => by simp at h) (by decide) (by decide) hbs ?_; intro v' w1 hown' hgrow' hnil)
  go_ret
  have hown2 : Own w1 w.heap.size v' [] := by
    show World.ownsRow _ _ _ _ _ _ _
    simpa [ecells] using hown'
  exact ⟨v', rfl, hown2, ((Below.refl _ w).alloc (Nat.le_refl _) _).grown hgrow' hbs (fun j ej => (HR.out.lt j ej).1)⟩
theorem l1Copy_any (v : Value) (l : List (Int × Int)) (w : World) (h : Rd w v l) (hl : l.length ≤ 1099511627776) :
    Calls Tryz.prog 150 #[v] w fun x w' => ∃ v', x = .returned v' ∧ Own w' w.heap.size v' l ∧ Below w.heap.size w w' := by
  have HR := h
  obtain ⟨ao, cap, rfl, _, hc⟩ := h
  by_cases h0 : 0 < l.length
  · obtain ⟨b, off, rfl, _⟩ := hc h0
    exact (copy_any b off l.length cap l w rfl HR hl).mono fun _ _ ⟨v', e, ho, hb, _⟩ => ⟨v', e, ho, hb⟩
  · have hz : l = [] := List.eq_nil_of_length_eq_zero (by omega)
    subst hz
    match ao with
    | none => exact copy_none cap w
    | some a => exact copy_some a cap w

set_option maxHeartbeats 1000000 in
theorem l2Copy_any (n : Int) (v : Value) (l : List (Int × Int)) (w : World) (h : Rd w v l) (hl : l.length ≤ 1099511627776) :
    Calls Tryz.prog 100 #[.agg #[.int .i64 n, v]] w fun e w' => ∃ v', e = .returned (.agg #[.int .i64 n, v']) ∧ Own w' w.heap.size v' l ∧ Below w.heap.size w w' := by
  have HR := hid h
  obtain ⟨ao, cap, hv, _⟩ := h
  subst hv
  go_enter Tryz.func100, Tryz.ntmps100
  go_wp2_with fail
  have a0_1 : ((w.alloc (.cells #[.int .i64 n, .slice ao l.length cap] 38)).alloc (.cells #[.int .i64 0, .slice none 0 0] 38)).cell? ⟨w.heap.size, 0, none⟩ = some (.int .i64 n) := by go_cell
  have a1_1 : ((w.alloc (.cells #[.int .i64 n, .slice ao l.length cap] 38)).alloc (.cells #[.int .i64 0, .slice none 0 0] 38)).cell? ⟨w.heap.size, 1, none⟩ = some (.slice ao l.length cap) := by go_cell
  have al_1 : w.heap.size < ((w.alloc (.cells #[.int .i64 n, .slice ao l.length cap] 38)).alloc (.cells #[.int .i64 0, .slice none 0 0] 38)).heap.size := by first | (simp; done) | (simp; omega)
  have r0_1 : ((w.alloc (.cells #[.int .i64 n, .slice ao l.length cap] 38)).alloc (.cells #[.int .i64 0, .slice none 0 0] 38)).cell? ⟨w.heap.size + 1, 0, none⟩ = some (.int .i64 0) := by go_cell
  have rf0_1 : ((w.alloc (.cells #[.int .i64 n, .slice ao l.length cap] 38)).alloc (.cells #[.int .i64 0, .slice none 0 0] 38)).frozen? ⟨w.heap.size + 1, 0, none⟩ = false := by (first | go_cell | (simp [World.frozen?, World.alloc]; done) | rfl)
  have r1_1 : ((w.alloc (.cells #[.int .i64 n, .slice ao l.length cap] 38)).alloc (.cells #[.int .i64 0, .slice none 0 0] 38)).cell? ⟨w.heap.size + 1, 1, none⟩ = some (.slice none 0 0) := by go_cell
  have rf1_1 : ((w.alloc (.cells #[.int .i64 n, .slice ao l.length cap] 38)).alloc (.cells #[.int .i64 0, .slice none 0 0] 38)).frozen? ⟨w.heap.size + 1, 1, none⟩ = false := by (first | go_cell | (simp [World.frozen?, World.alloc]; done) | rfl)
  have rl_1 : w.heap.size + 1 < ((w.alloc (.cells #[.int .i64 n, .slice ao l.length cap] 38)).alloc (.cells #[.int .i64 0, .slice none 0 0] 38)).heap.size := by first | (simp; done) | (simp; omega)
  have c1 : Below w.heap.size w ((w.alloc (.cells #[.int .i64 n, .slice ao l.length cap] 38)).alloc (.cells #[.int .i64 0, .slice none 0 0] 38)) := by go_grown
  have s1 : ((w.alloc (.cells #[.int .i64 n, .slice ao l.length cap] 38)).alloc (.cells #[.int .i64 0, .slice none 0 0] 38)).heap.size = w.heap.size + 2 := by simp
  generalize ((w.alloc (.cells #[.int .i64 n, .slice ao l.length cap] 38)).alloc (.cells #[.int .i64 0, .slice none 0 0] 38)) = w1 at a0_1 a1_1 al_1 r0_1 rf0_1 r1_1 rf1_1 rl_1 c1 s1 ⊢
  have qa0_1 := cell_regrown a0_1
  have qa1_1 := cell_regrown a1_1
  have qr0_1 := cell_regrown r0_1
  have qr1_1 := cell_regrown r1_1
  go_region_with (first
    | (go_at_call 150; go_loud (refine (l1Copy_any _ l _ (HR.out.later (by go_grown)) hl).mono ?_; rintro e w2 ⟨v', rfl, ho, b2⟩; have HO := hid (Own.mono ho (B' := w1.heap.size) (by show w1.heap.size ≤ w1.heap.size; omega)); clear ho; have d2 : Below w1.heap.size w1 w2 := (Below.trans (by go_grown) (b2.mono (by first | omega | (simp; done) | (simp; omega)))); have c2 : Below w.heap.size w w2 := c1.trans (d2.mono c1.size); have a0_2 : w2.cell? ⟨w.heap.size, 0, none⟩ = some (.int .i64 n) := (by rw [b2.cell (by first | omega | (simp; done) | (simp; omega))]; go_cell); have a1_2 : w2.cell? ⟨w.heap.size, 1, none⟩ = some (.slice ao l.length cap) := (by rw [b2.cell (by first | omega | (simp; done) | (simp; omega))]; go_cell); have al_2 : w.heap.size < w2.heap.size := (by have := b2.size; first | omega | (revert this; simp; done) | (revert this; simp; omega)); have r0_2 : w2.cell? ⟨w.heap.size + 1, 0, none⟩ = some (.int .i64 0) := (by rw [b2.cell (by first | omega | (simp; done) | (simp; omega))]; go_cell); have rf0_2 : w2.frozen? ⟨w.heap.size + 1, 0, none⟩ = false := (by rw [b2.frozen (by first | omega | (simp; done) | (simp; omega))]; (first | go_cell | (simp [World.frozen?, World.alloc]; done) | rfl)); have r1_2 : w2.cell? ⟨w.heap.size + 1, 1, none⟩ = some (.slice none 0 0) := (by rw [b2.cell (by first | omega | (simp; done) | (simp; omega))]; go_cell); have rf1_2 : w2.frozen? ⟨w.heap.size + 1, 1, none⟩ = false := (by rw [b2.frozen (by first | omega | (simp; done) | (simp; omega))]; (first | go_cell | (simp [World.frozen?, World.alloc]; done) | rfl)); have rl_2 : w.heap.size + 1 < w2.heap.size := (by have := b2.size; first | omega | (revert this; simp; done) | (revert this; simp; omega)); clear r0_1 rf0_1 r1_1 rf1_1 rl_1; obtain ⟨uo, uc, huv, _⟩ := HO.out.rd; subst huv)))
  all_goals
    have e0 : ((w2.setCell ⟨w.heap.size + 1, 0, none⟩ (.int .i64 n)).setCell ⟨w.heap.size + 1, 1, none⟩ (.slice uo l.length uc)).cell? ⟨w.heap.size + 1, 0, none⟩ = some (.int .i64 n) := by go_cell
    have e1 : ((w2.setCell ⟨w.heap.size + 1, 0, none⟩ (.int .i64 n)).setCell ⟨w.heap.size + 1, 1, none⟩ (.slice uo l.length uc)).cell? ⟨w.heap.size + 1, 1, none⟩ = some (.slice uo l.length uc) := by go_cell
    have HF := hid (((HO.out.apartSet (p := ⟨w.heap.size + 1, 0, none⟩) (by show w.heap.size + 1 < w1.heap.size; omega) (.int .i64 n)).apartSet (p := ⟨w.heap.size + 1, 1, none⟩) (by show w.heap.size + 1 < w1.heap.size; omega) (.slice uo l.length uc)).mono (B' := w.heap.size) (by omega))
    have c3 := hid ((c2.setCell (p := ⟨w.heap.size + 1, 0, none⟩) (by show w.heap.size ≤ w.heap.size + 1; omega) (.int .i64 n)).setCell (p := ⟨w.heap.size + 1, 1, none⟩) (by show w.heap.size ≤ w.heap.size + 1; omega) (.slice uo l.length uc))
    go_wp2
    refine bodyPost_ret (v := .agg #[.int .i64 n, .slice uo l.length uc]) (by simp [results, Tryz.results100, go_sem, e0, e1]) rfl ⟨_, rfl, HF.out, c3.out⟩
end Go.Proofs.YtkmhnjgncnoddaaGreat

/- Part: spec.l3Copy: contract. -/
namespace Go.Proofs.YtkmhnjgncnoddaaGreat
open Go.RowKit
attribute [local go_sem ↓] Go.wp_at_zero Go.wp_at_succ

/-- A call of a Go function, as one step of a region that draws its order and holds an append too. -/
theorem step_call {P : Program} {ops : Array Oper} {o : Oper} {a : Act} {w : World} {K : Act → World → Prop} {Q : Exit → Act → World → Prop} {E : Prop} (hgd : o.guard = none) (f : FuncId) (x : Operand) (t : TypeId)
    (ho : o.op = .call { callee := .value (.func f), args := #[x], argTypes := #[t] }) (v : Value) (hx : a.eval x = v)
    (en : ∀ args w, (callFunc f args).run P w = .ok (.enter f args) w) (R : Ending → World → Prop) (hc : Calls P f #[v] w R)
    (h : ∀ e w', R e w' → ∃ v', e = .returned v' ∧ K (a.put o.dst v') w') :
    if Region.wanted o (yielded ops a.tmps) = true then Oper.wp P o a w K Q else E := by
  have hw : Region.wanted o (yielded ops a.tmps) = true := by simp [Region.wanted, hgd]
  rw [if_pos hw]
  have hf : a.eval (.func f) = .func (.func f) #[] #[] := rfl
  unfold Oper.wp
  simp [execOp, ho, resolve, invoke, hx, hf, Deferred.ofValue, en, Oper.upon]
  refine hc.mono fun e w' hR => ?_
  obtain ⟨v', rfl, hK⟩ := h e w' hR
  exact hK

/-- The kin of the first n elements lie in blocks of their own each. -/
def DisX (xs : List Value) (n : Nat) : Prop := ∀ i j, i < n → j < n → i ≠ j → ∀ ui uj, xs[i * 2 + 1]? = some ui → xs[j * 2 + 1]? = some uj → ∀ b, ui.ownBlock = some b → uj.ownBlock ≠ some b
/-- ... below block C. -/
def BelX (xs : List Value) (n C : Nat) : Prop := ∀ i, i < n → ∀ ui, xs[i * 2 + 1]? = some ui → ∀ b, ui.ownBlock = some b → b < C
theorem DisX.zero (xs : List Value) : DisX xs 0 := fun _ _ hi => absurd hi (Nat.not_lt_zero _)
/-- The first n elements of a row are L's, their kin in memory of their own. -/
structure RowN (w : World) (B : Nat) (v : Value) (L : List ValD) (n : Nat) (xs : List Value) : Prop where
  row : w.ownsRow B 38 2 v n xs
  fil : FilledV w B xs L n
  dis : DisX xs n
theorem RowN.later {w w' : World} {B : Nat} {v : Value} {L : List ValD} {n : Nat} {xs : List Value} (h : RowN w B v L n xs) (hb : Below w.heap.size w w') : RowN w' B v L n xs :=
  ⟨row_later h.1 hb, h.2.later hb, h.3⟩
theorem RowN.set {w : World} {B : Nat} {v : Value} {L : List ValD} {n : Nat} {xs : List Value} (h : RowN w B v L n xs) {p : Addr} (hp : p.block < B) (x : Value) : RowN (w.setCell p x) B v L n xs :=
  ⟨row_same h.1 (fun k hk _ => Below.heap_setCell _ _ _ _ (by omega)), h.2.set hp x, h.3⟩
theorem Own.grownOff {w w' : World} {B : Nat} {u : Value} {l : List (Int × Int)} {row : Option Nat} (h : Own w B u l) (hg : w.grownBy w' row) (hne : ∀ g, row = some g → u.ownBlock ≠ some g) : Own w' B u l := by
  refine ⟨h.1, ?_⟩
  rcases h.2 with hn | ⟨g, cap, cur, rfl, hbg, hgg, rest⟩
  · exact .inl hn
  · refine .inr ⟨g, cap, cur, rfl, hbg, (hg.block g (Array.getElem?_eq_some_iff.1 hgg).1 (fun e => hne g e.symm rfl)).trans hgg, rest⟩
theorem own_off_row {w : World} {B B' n : Nat} {v u : Value} {xs : List Value} {l : List (Int × Int)} (h : w.ownsRow B 38 2 v n xs) (hu : Own w B' u l) : ∀ g, v.ownBlock = some g → u.ownBlock ≠ some g := by
  intro g hv hg
  rcases h.2 with ⟨rfl, _⟩ | ⟨g1, cap1, cur1, rfl, _, h1, _⟩
  · cases hv
  · rcases hu.2 with ⟨rfl, _⟩ | ⟨g2, cap2, cur2, rfl, _, h2, _⟩
    · cases hg
    · cases hv
      cases hg
      rw [h1] at h2
      have := (Option.some.inj h2)
      simp at this
theorem RowN.bel {w : World} {B : Nat} {v : Value} {L : List ValD} {n : Nat} {xs : List Value} (h : RowN w B v L n xs) : BelX xs n w.heap.size := fun i hi ui h1 b hb => by
  obtain ⟨_, u, h2, h3⟩ := h.2 i hi
  rw [h1] at h2
  cases h2
  exact (h3.block b hb).2
theorem DisX.add {xs : List Value} {n C : Nat} {x u : Value} (h : DisX xs n) (hx : xs.length = n * 2) (hC : BelX xs n C) (hu : ∀ b, u.ownBlock = some b → C ≤ b) : DisX (xs ++ [x, u]) (n + 1) := by
  have old : ∀ i, i < n → (xs ++ [x, u])[i * 2 + 1]? = xs[i * 2 + 1]? := fun i hi => List.getElem?_append_left (by omega)
  have new : (xs ++ [x, u])[n * 2 + 1]? = some u := by rw [List.getElem?_append_right (by omega), show n * 2 + 1 - xs.length = 1 from by omega]; rfl
  intro i j hi hj hij ui uj h1 h2 b hb hb'
  by_cases ei : i = n
  · have ej : j < n := by omega
    rw [ei, new] at h1
    rw [old j ej] at h2
    cases h1
    have := hC j ej uj h2 b hb'
    have := hu b hb
    omega
  · rw [old i (by omega)] at h1
    by_cases ej : j = n
    · rw [ej, new] at h2
      cases h2
      have := hC i (by omega) ui h1 b hb
      have := hu b hb'
      omega
    · rw [old j (by omega)] at h2
      exact h i j (by omega) (by omega) hij ui uj h1 h2 b hb hb'
theorem RowN.add {w w' : World} {B : Nat} {v v' u : Value} {L : List ValD} {n : Nat} {xs : List Value} (h : RowN w B v L n xs) (hx : xs.length = n * 2) (hu : Own w B u (L.getD n valD0).2)
    (hg : w.grownBy w' v.ownBlock) (ho : w'.ownsRow B 38 2 v' (n + 1) (xs ++ [.int .i64 (L.getD n valD0).1, u])) {C : Nat} (hC : BelX xs n C) (hCu : ∀ b, u.ownBlock = some b → C ≤ b) : RowN w' B v' L (n + 1) (xs ++ [.int .i64 (L.getD n valD0).1, u]) := by
  refine ⟨ho, fun i hi => ?_, h.3.add hx hC hCu⟩
  by_cases e : i = n
  · subst e
    rw [List.getElem?_append_right (by omega), List.getElem?_append_right (by omega)]
    rw [show i * 2 - xs.length = 0 from by omega, show i * 2 + 1 - xs.length = 1 from by omega]
    exact ⟨rfl, u, rfl, hu.grownOff hg (own_off_row h.1 hu)⟩
  · obtain ⟨h0, y, h1, h2⟩ := h.2 i (by omega)
    rw [List.getElem?_append_left (by omega), List.getElem?_append_left (by omega)]
    exact ⟨h0, y, h1, h2.grownOff hg (own_off_row h.1 h2)⟩

theorem after_add {w1 w5 w6 : World} {O k : Nat} {o : Obj} {v v6 u : Value} {L : List ValD} {xs : List Value} {x : ValD} (hO : O < w1.heap.size) (hz : w1.heap.size ≤ w5.heap.size)
    (hk : RowN (w5.alloc o) w1.heap.size v L k xs) (hxl : xs.length = k * 2) (hx : L.getD k valD0 = x) (hu : Own (w5.alloc o) w1.heap.size u x.2) (hg : (w5.alloc o).grownBy w6 v.ownBlock)
    (ho : w6.ownsRow w1.heap.size 38 2 v6 (k + 1) (xs ++ [.int .i64 x.1, u])) (hc : w5.cell? ⟨O, 0, none⟩ = some v) (hf : w5.frozen? ⟨O, 0, none⟩ = false) (hb : Below O w1 w5) {C : Nat} (hC : BelX xs k C) (hCu : ∀ b, u.ownBlock = some b → C ≤ b) :
    RowN w6 w1.heap.size v6 L (k + 1) (xs ++ [.int .i64 x.1, u]) ∧ w6.cell? ⟨O, 0, none⟩ = some v ∧ w6.frozen? ⟨O, 0, none⟩ = false ∧ Below O w1 w6 := by
  subst hx
  have ha : Below w5.heap.size w5 (w5.alloc o) := (Below.refl _ _).alloc (Nat.le_refl _) o
  have hOz : O < w5.heap.size := by omega
  have hoff : ∀ g, v.ownBlock = some g → O ≠ g := fun g hv => by have := (hk.1.lt g hv).1; omega
  refine ⟨hk.add hxl hu hg ho hC hCu, hg.cell ((ha.cell (p := ⟨O, 0, none⟩) hOz).trans hc) (fun e => hoff _ e.symm rfl), ?_, ?_⟩
  · exact (World.frozen?_of_block (w := w5.alloc o) (a := ⟨O, 0, none⟩) (hg.block O (Nat.lt_of_lt_of_le hOz ha.size) (fun e => hoff _ e.symm rfl))).trans ((ha.frozen (p := ⟨O, 0, none⟩) hOz).trans hf)
  · exact (hb.trans (ha.mono (Nat.le_of_lt hOz))).grown hg (Nat.le_trans (Nat.le_of_lt hOz) ha.size) (fun g hv => by have := (hk.1.lt g hv).1; omega)

set_option maxRecDepth 100000 in
set_option maxHeartbeats 4000000 in
theorem l3Copy_any (va : Value) (L : List ValD) (w : World) (h : RdG w va L) (hl : L.length = 24) (hm : ∀ k, k < 24 → (L.getD k valD0).2.length ≤ 1099511627776) :
    Calls Tryz.prog 37 #[.agg #[va]] w fun e w' => (∃ v xs, e = .returned (.agg #[v]) ∧ RowN w' w.heap.size v L 24 xs) ∧ Below w.heap.size w w' := by
  obtain ⟨i0, hi, hz0, hz1, hz2⟩ := info_parts Tryz.info38
  have HR := hid h
  obtain ⟨ao, cap, hv, _, hc⟩ := h
  obtain ⟨b, off, rfl, hlt, hcc⟩ := hc (by omega)
  subst hv
  rw [hl] at hcc HR ⊢
  have hcc := hid hcc
  have hm := hid hm
  clear hc hl
  go_enter Tryz.func37, Tryz.ntmps37
  go_wp2_with fail
  have a0_1 : (((w.alloc (.cells #[.slice (some ⟨b, off, none⟩) 24 cap] 25)).alloc (.cells #[.slice none 0 0] 25)).alloc (.cells #[.slice none 0 0] 25)).cell? ⟨w.heap.size, 0, none⟩ = some (.slice (some ⟨b, off, none⟩) 24 cap) := by go_cell
  have al_1 : w.heap.size < (((w.alloc (.cells #[.slice (some ⟨b, off, none⟩) 24 cap] 25)).alloc (.cells #[.slice none 0 0] 25)).alloc (.cells #[.slice none 0 0] 25)).heap.size := by first | (simp; done) | (simp; omega)
  have r0_1 : (((w.alloc (.cells #[.slice (some ⟨b, off, none⟩) 24 cap] 25)).alloc (.cells #[.slice none 0 0] 25)).alloc (.cells #[.slice none 0 0] 25)).cell? ⟨w.heap.size + 1, 0, none⟩ = some (.slice none 0 0) := by go_cell
  have rf0_1 : (((w.alloc (.cells #[.slice (some ⟨b, off, none⟩) 24 cap] 25)).alloc (.cells #[.slice none 0 0] 25)).alloc (.cells #[.slice none 0 0] 25)).frozen? ⟨w.heap.size + 1, 0, none⟩ = false := by (first | go_cell | (simp [World.frozen?, World.alloc]; done) | rfl)
  have rl_1 : w.heap.size + 1 < (((w.alloc (.cells #[.slice (some ⟨b, off, none⟩) 24 cap] 25)).alloc (.cells #[.slice none 0 0] 25)).alloc (.cells #[.slice none 0 0] 25)).heap.size := by first | (simp; done) | (simp; omega)
  have o0_1 : (((w.alloc (.cells #[.slice (some ⟨b, off, none⟩) 24 cap] 25)).alloc (.cells #[.slice none 0 0] 25)).alloc (.cells #[.slice none 0 0] 25)).cell? ⟨w.heap.size + 1 + 1, 0, none⟩ = some (.slice none 0 0) := by go_cell
  have of0_1 : (((w.alloc (.cells #[.slice (some ⟨b, off, none⟩) 24 cap] 25)).alloc (.cells #[.slice none 0 0] 25)).alloc (.cells #[.slice none 0 0] 25)).frozen? ⟨w.heap.size + 1 + 1, 0, none⟩ = false := by (first | go_cell | (simp [World.frozen?, World.alloc]; done) | rfl)
  have ol_1 : w.heap.size + 1 + 1 < (((w.alloc (.cells #[.slice (some ⟨b, off, none⟩) 24 cap] 25)).alloc (.cells #[.slice none 0 0] 25)).alloc (.cells #[.slice none 0 0] 25)).heap.size := by first | (simp; done) | (simp; omega)
  have c1 : Below w.heap.size w (((w.alloc (.cells #[.slice (some ⟨b, off, none⟩) 24 cap] 25)).alloc (.cells #[.slice none 0 0] 25)).alloc (.cells #[.slice none 0 0] 25)) := by go_grown
  have s1 : (((w.alloc (.cells #[.slice (some ⟨b, off, none⟩) 24 cap] 25)).alloc (.cells #[.slice none 0 0] 25)).alloc (.cells #[.slice none 0 0] 25)).heap.size = w.heap.size + 3 := by simp
  generalize (((w.alloc (.cells #[.slice (some ⟨b, off, none⟩) 24 cap] 25)).alloc (.cells #[.slice none 0 0] 25)).alloc (.cells #[.slice none 0 0] 25)) = w1 at a0_1 al_1 r0_1 rf0_1 rl_1 o0_1 of0_1 ol_1 c1 s1 ⊢
  have qa0_1 := cell_regrown a0_1
  have qr0_1 := cell_regrown r0_1
  have qo0_1 := cell_regrown o0_1
  have hrow0 := hid (show RowN w1 w1.heap.size (.slice none 0 0) L 0 [] from ⟨World.ownsRow_nil _ _ _ _, FilledV.zero _ _ _ _, DisX.zero _⟩)
  go_loopw [4] (fun i wr => ∃ (k : Nat) (v : Value) (xs : List Value), k ≤ 24 ∧ i = .int .i64 k ∧ Hid (wr.cell? ⟨w.heap.size + 1 + 1, 0, none⟩ = some v) ∧ Hid (wr.frozen? ⟨w.heap.size + 1 + 1, 0, none⟩ = false) ∧ Hid (RowN wr w1.heap.size v L k xs) ∧ Hid (xs.length = k * 2) ∧ Hid (Below (w.heap.size + 1 + 1) w1 wr)) (fun i _ => 24 - (intOf i).toNat)
  case atStart => exact ⟨0, _, [], Nat.zero_le _, rfl, o0_1, of0_1, hrow0, rfl, Below.refl _ _⟩
  case round =>
    clear hrow0 o0_1 of0_1
    obtain ⟨k, v, xs, hk, rfl, hco, hfo, hrow, hxl, hbel⟩ := hrel
    have o0 := hco.out
    have of0 := hfo.out
    have a0 := (hbel.out.cell (p := ⟨w.heap.size, 0, none⟩) (by show w.heap.size < w.heap.size + 1 + 1; omega)).trans a0_1
    have r0 := (hbel.out.cell (p := ⟨w.heap.size + 1, 0, none⟩) (by show w.heap.size + 1 < w.heap.size + 1 + 1; omega)).trans r0_1
    have rf0 := (hbel.out.frozen (p := ⟨w.heap.size + 1, 0, none⟩) (by show w.heap.size + 1 < w.heap.size + 1 + 1; omega)).trans rf0_1
    have hz := hbel.out.size
    by_cases hlt' : k < 24
    · obtain ⟨h0, u, h1, hr⟩ := hcc.out k hlt'
      have cw := c1.trans (hbel.out.mono (show w.heap.size ≤ w.heap.size + 1 + 1 from by omega))
      rw [← cw.cell (p := ⟨b, off + k * 2, none⟩) hlt] at h0
      rw [← cw.cell (p := ⟨b, off + k * 2 + 1, none⟩) hlt] at h1
      have hmk := hm.out k hlt'
      have HU := hid (hr.later cw)
      obtain ⟨x, hx⟩ : ∃ x, L.getD k valD0 = x := ⟨_, rfl⟩
      rw [hx] at h0 HU hmk hr
      obtain ⟨uo, uc, rfl, _⟩ := id hr
      have HX := hid hx
      have hbz : b < wr.heap.size := by have := cw.size; omega
      have hk1 : k + 1 ≤ maxLen := by unfold maxLen; omega
      have hk2 : (k + 1) * 32 ≤ 140737488355328 := by omega
      have hltI : (k : Int) < 24 := by omega
      clear hr hx cw hco hfo
      go_upto_region 5 with fail
      go_region_law (first
        | (refine step_call rfl 100 _ _ rfl _ (by simp [Act.eval]) Tryz.call100 _ (l2Copy_any x.1 _ x.2 _ (HU.out.later (by go_grown)) hmk) ?_; rintro e w5 ⟨u', rfl, ho, b5⟩; refine ⟨_, rfl, ?_⟩; obtain ⟨uo', uc', huv, _⟩ := ho.rd; subst huv; have d5 : Below wr.heap.size wr w5 := (Below.refl _ wr).drew.trans b5; have HK5 := hid (hrow.out.later d5); have o0_5 := (d5.cell (p := ⟨w.heap.size + 1 + 1, 0, none⟩) (by show w.heap.size + 1 + 1 < wr.heap.size; omega)).trans o0; have of0_5 := (d5.frozen (p := ⟨w.heap.size + 1 + 1, 0, none⟩) (by show w.heap.size + 1 + 1 < wr.heap.size; omega)).trans of0; have HO5 := hid (Own.mono ho (B' := w1.heap.size) hz); have HCU := hid (show ∀ b, (Value.slice uo' x.2.length uc').ownBlock = some b → wr.heap.size ≤ b from fun b hb => (ho.block b hb).1); have HBEL := hid hrow.out.bel; have hz5 := d5.size; have HB5 := hid (hbel.out.trans (d5.mono (by omega))); have HK6 := hid (HK5.out.later ((Below.refl _ w5).alloc (Nat.le_refl _) (.cells #[.int .i64 x.1, .slice uo' x.2.length uc'] 38))); have HNW := hid (cells_two_new w5 (.int .i64 x.1) (.slice uo' x.2.length uc') 38); have HO6 := hid (HO5.out.later ((Below.refl _ w5).alloc (Nat.le_refl _) (.cells #[.int .i64 x.1, .slice uo' x.2.length uc'] 38))); have hz6 : w1.heap.size ≤ (w5.alloc (.cells #[.int .i64 x.1, .slice uo' x.2.length uc'] 38)).heap.size := (by simp; omega); have hz5' : w1.heap.size ≤ w5.heap.size := Nat.le_trans hz hz5; have o0_6 := (((Below.refl _ w5).alloc (Nat.le_refl _) (.cells #[.int .i64 x.1, .slice uo' x.2.length uc'] 38)).cell (p := ⟨w.heap.size + 1 + 1, 0, none⟩) (Nat.lt_of_lt_of_le ol_1 hz5')).trans o0_5; clear ho b5 d5)
        | (refine step_append_own rfl _ _ 23 rfl w1.heap.size 38 i0 (.agg #[.int .i64 0, .slice none 0 0]) 2 32 Tryz.underlying23 hi hz0 hz1 hz2 rfl (by decide) v k xs (by simp [Act.eval]) HK6.out.1 ⟨w5.heap.size, 0, none⟩ 1 1 [.int .i64 x.1, .slice uo' x.2.length uc'] (by simp [Act.eval]) rfl HNW.out (by simp [Value.oneCell']) hk1 hk2 hz6 ?_; intro v6 w6 hown6 hgrow6 _; obtain ⟨g6, c6, hv6⟩ := ownsRow_succ hown6; subst hv6; obtain ⟨HK7', o0_7, of0_7, HB7'⟩ := after_add (O := w.heap.size + 1 + 1) ol_1 hz5' HK6.out hxl.out HX.out HO6.out hgrow6 hown6 o0_5 of0_5 HB5.out HBEL.out HCU.out; have HK7 := hid HK7'; have HB7 := hid HB7'; clear hown6 hgrow6 HK7' HB7'))
      all_goals
        have HK8 := hid (HK7.out.set (p := ⟨w.heap.size + 1 + 1, 0, none⟩) (by show w.heap.size + 1 + 1 < w1.heap.size; omega) (.slice (some ⟨g6, 0, none⟩) (k + 1) c6))
        have hc8 : Hid ((w6.setCell ⟨w.heap.size + 1 + 1, 0, none⟩ (.slice (some ⟨g6, 0, none⟩) (k + 1) c6)).cell? ⟨w.heap.size + 1 + 1, 0, none⟩ = some (.slice (some ⟨g6, 0, none⟩) (k + 1) c6)) := by
          show _ = _
          go_cell
        have hf8 : Hid ((w6.setCell ⟨w.heap.size + 1 + 1, 0, none⟩ (.slice (some ⟨g6, 0, none⟩) (k + 1) c6)).frozen? ⟨w.heap.size + 1 + 1, 0, none⟩ = false) := by
          show _ = _
          simpa using of0_7
        have HB8 := hid (HB7.out.setCell (p := ⟨w.heap.size + 1 + 1, 0, none⟩) (Nat.le_refl _) (.slice (some ⟨g6, 0, none⟩) (k + 1) c6))
        have hx8 : Hid ((xs ++ [Value.int .i64 x.1, Value.slice uo' x.2.length uc']).length = (k + 1) * 2) := by
          show _ = _
          have := hxl.out
          simp
          omega
        go_wp2
        go_roundw
        case rel => exact ⟨k + 1, _, _, by omega, by go_num, hc8, hf8, HK8, hx8, HB8⟩
        case measure => simp [intOf]; omega
    · have hk24 : k = 24 := by omega
      subst hk24
      have hv1 : v.oneCell' = true := by
        rcases hrow.out.1.2 with ⟨rfl, _⟩ | ⟨g, cp, cur, rfl, _⟩ <;> rfl
      have hF := hid ((hrow.out.set (p := ⟨w.heap.size + 1, 0, none⟩) (by show w.heap.size + 1 < w1.heap.size; omega) v))
      have c3 := hid ((c1.trans (hbel.out.mono (by omega))).setCell (p := ⟨w.heap.size + 1, 0, none⟩) (by show w.heap.size ≤ w.heap.size + 1; omega) v)
      obtain ⟨g, cp, rfl⟩ := ownsRow_succ hrow.out.1
      have e0 : (wr.setCell ⟨w.heap.size + 1, 0, none⟩ (.slice (some ⟨g, 0, none⟩) 24 cp)).cell? ⟨w.heap.size + 1, 0, none⟩ = some (.slice (some ⟨g, 0, none⟩) 24 cp) := by go_cell
      go_wp2
      refine bodyPost_ret (v := .agg #[.slice (some ⟨g, 0, none⟩) 24 cp]) (by simp [results, Tryz.results37, go_sem, e0]) rfl ⟨⟨_, _, rfl, row_mono hF.out.1 (by omega), ?_, hF.out.3⟩, c3.out⟩
      exact fun i hi => by obtain ⟨h0, u, h1, h2⟩ := hF.out.2 i hi; exact ⟨h0, u, h1, h2.mono (by omega)⟩
end Go.Proofs.YtkmhnjgncnoddaaGreat

/- Part: impl.OpKey: contracts. -/
namespace Go.Proofs.YtkmhnjgncnoddaaGreat
open Go.RowKit
attribute [local go_sem ↓] Go.wp_at_zero Go.wp_at_succ

theorem method_setKey (k a b n : Int) (w : World) : (method 413 206 (.agg #[.int .i64 k, .int .i64 a, .int .i64 b, .int .i64 n]) "loop.example/kith/impl.key").run Tryz.prog w = .ok (258, .agg #[.int .i64 k, .int .i64 a, .int .i64 b, .int .i64 n]) w := by kernel_rfl
theorem method_bindKey (k a b n : Int) (w : World) : (method 413 209 (.agg #[.int .i64 k, .int .i64 a, .int .i64 b, .int .i64 n]) "loop.example/kith/impl.key").run Tryz.prog w = .ok (262, .agg #[.int .i64 k, .int .i64 a, .int .i64 b, .int .i64 n]) w := by kernel_rfl
theorem method_partKey (k a b n : Int) (w : World) : (method 413 210 (.agg #[.int .i64 k, .int .i64 a, .int .i64 b, .int .i64 n]) "loop.example/kith/impl.key").run Tryz.prog w = .ok (262, .agg #[.int .i64 k, .int .i64 a, .int .i64 b, .int .i64 n]) w := by kernel_rfl
theorem method_noKey (w : World) : (method 413 139 (.agg #[]) "loop.example/kith/impl.key").run Tryz.prog w = .ok (253, .agg #[]) w := by kernel_rfl
theorem noKey_any (w : World) : Calls Tryz.prog 253 #[.agg #[]] w fun e w' => e = .returned (.int .i64 (-1)) ∧ Below w.heap.size w w' := by
  go_enter Tryz.func253, Tryz.ntmps253
  go_wp2
  go_ret
  exact ⟨by simp, by go_grown⟩
set_option maxHeartbeats 1000000 in
theorem implOpKey_any (k a b n : Int) (w : World) : Calls Tryz.prog 13 #[.agg #[.int .i64 k, .int .i64 a, .int .i64 b, .int .i64 n]] w fun e w' => e = .returned (.int .i64 (opKey k a b n)) ∧ Below w.heap.size w w' := by
  rcases op_ways k a b n with ⟨h, -, e, -⟩ | ⟨h, -, e, -⟩ | ⟨h, -, e, -⟩ | ⟨h1, h2, h3, -, e, -⟩
  · rw [e]; clear e
    have hk : keyOf 0 a = a := by rw [keyOf_in (by omega) (by omega) h.2.1.1 h.2.1.2]; omega
    have HW := fun w => writeOf_set h w
    clear h
    have hm := method_setKey k a b n
    go_enter Tryz.func13, Tryz.ntmps13
    go_wp2_with fail
    refine (HW _).mono ?_
    rintro e w1 ⟨rfl, b1⟩
    have c1 : Below w.heap.size w w1 := (Below.trans (by go_grown) (b1.mono (by first | omega | (simp; done) | (simp; omega))))
    clear b1 HW
    go_wp2_with fail
    refine (setKey_any k a b n _).mono ?_
    rintro e w2 ⟨rfl, b2⟩
    have c2 : Below w.heap.size w w2 := c1.trans (b2.mono c1.size)
    rw [hk]
    go_wp2
    go_ret
    exact ⟨by simp, c2⟩
  · rw [e]; clear e
    have hk : keyOf 2 a = 16 + a := by rw [keyOf_in (by omega) (by omega) h.2.1.1 h.2.1.2]; omega
    have HW := fun w => writeOf_bind h w
    clear h
    have hm := method_bindKey k a b n
    go_enter Tryz.func13, Tryz.ntmps13
    go_wp2_with fail
    refine (HW _).mono ?_
    rintro e w1 ⟨rfl, b1⟩
    have c1 : Below w.heap.size w w1 := (Below.trans (by go_grown) (b1.mono (by first | omega | (simp; done) | (simp; omega))))
    clear b1 HW
    go_wp2_with fail
    refine (bondKey_any k a b n _).mono ?_
    rintro e w2 ⟨rfl, b2⟩
    have c2 : Below w.heap.size w w2 := c1.trans (b2.mono c1.size)
    rw [hk]
    go_wp2
    go_ret
    exact ⟨by simp, c2⟩
  · rw [e]; clear e
    have hk : keyOf 2 a = 16 + a := by rw [keyOf_in (by omega) (by omega) h.2.1.1 h.2.1.2]; omega
    have HW := fun w => writeOf_part h w
    clear h
    have hm := method_partKey k a b n
    go_enter Tryz.func13, Tryz.ntmps13
    go_wp2_with fail
    refine (HW _).mono ?_
    rintro e w1 ⟨rfl, b1⟩
    have c1 : Below w.heap.size w w1 := (Below.trans (by go_grown) (b1.mono (by first | omega | (simp; done) | (simp; omega))))
    clear b1 HW
    go_wp2_with fail
    refine (bondKey_any k a b n _).mono ?_
    rintro e w2 ⟨rfl, b2⟩
    have c2 : Below w.heap.size w w2 := c1.trans (b2.mono c1.size)
    rw [hk]
    go_wp2
    go_ret
    exact ⟨by simp, c2⟩
  · rw [e]; clear e
    have HW := fun w => writeOf_no h1 h2 h3 w
    clear h1 h2 h3
    have hm := method_noKey
    go_enter Tryz.func13, Tryz.ntmps13
    go_wp2_with fail
    refine (HW _).mono ?_
    rintro e w1 ⟨rfl, b1⟩
    have c1 : Below w.heap.size w w1 := (Below.trans (by go_grown) (b1.mono (by first | omega | (simp; done) | (simp; omega))))
    clear b1 HW
    go_wp2_with fail
    refine (noKey_any _).mono ?_
    rintro e w2 ⟨rfl, b2⟩
    have c2 : Below w.heap.size w w2 := c1.trans (b2.mono c1.size)
    go_wp2
    go_ret
    exact ⟨by simp, c2⟩
set_option maxHeartbeats 1000000 in
theorem specOpKey_any (k a b n : Int) (w : World) : Calls Tryz.prog 39 #[.agg #[.int .i64 k, .int .i64 a, .int .i64 b, .int .i64 n]] w fun e w' => e = .returned (.int .i64 (opKey k a b n)) ∧ Below w.heap.size w w' := by
  have HS := fun w => specOpOk_any k a b n w
  rcases op_ways k a b n with ⟨h, e0, e, -⟩ | ⟨h, e0, e, -⟩ | ⟨h, e0, e, -⟩ | ⟨-, -, -, e0, e, -⟩
  · rw [e]; clear e
    rw [e0] at HS; clear e0
    have hk : keyOf 0 a = a := by rw [keyOf_in (by omega) (by omega) h.2.1.1 h.2.1.2]; omega
    obtain ⟨rfl, -⟩ := h
    go_enter Tryz.func39, Tryz.ntmps39
    go_wp2_with fail
    have a0_1 : (w.alloc (.cells #[.int .i64 1, .int .i64 a, .int .i64 b, .int .i64 n] 27)).cell? ⟨w.heap.size, 0, none⟩ = some (.int .i64 1) := by go_cell
    have a1_1 : (w.alloc (.cells #[.int .i64 1, .int .i64 a, .int .i64 b, .int .i64 n] 27)).cell? ⟨w.heap.size, 1, none⟩ = some (.int .i64 a) := by go_cell
    have a2_1 : (w.alloc (.cells #[.int .i64 1, .int .i64 a, .int .i64 b, .int .i64 n] 27)).cell? ⟨w.heap.size, 2, none⟩ = some (.int .i64 b) := by go_cell
    have a3_1 : (w.alloc (.cells #[.int .i64 1, .int .i64 a, .int .i64 b, .int .i64 n] 27)).cell? ⟨w.heap.size, 3, none⟩ = some (.int .i64 n) := by go_cell
    have al_1 : w.heap.size < (w.alloc (.cells #[.int .i64 1, .int .i64 a, .int .i64 b, .int .i64 n] 27)).heap.size := by first | (simp; done) | (simp; omega)
    have c1 : Below w.heap.size w (w.alloc (.cells #[.int .i64 1, .int .i64 a, .int .i64 b, .int .i64 n] 27)) := by go_grown
    have s1 : (w.alloc (.cells #[.int .i64 1, .int .i64 a, .int .i64 b, .int .i64 n] 27)).heap.size = w.heap.size + 1 := by simp
    generalize (w.alloc (.cells #[.int .i64 1, .int .i64 a, .int .i64 b, .int .i64 n] 27)) = w1 at a0_1 a1_1 a2_1 a3_1 al_1 c1 s1 ⊢
    have qa0_1 := cell_regrown a0_1
    have qa1_1 := cell_regrown a1_1
    have qa2_1 := cell_regrown a2_1
    have qa3_1 := cell_regrown a3_1
    refine (HS _).mono ?_
    rintro e w2 ⟨rfl, b2⟩
    have d2 : Below w1.heap.size w1 w2 := (Below.trans (by go_grown) (b2.mono (by first | omega | (simp; done) | (simp; omega))))
    have c2 : Below w.heap.size w w2 := c1.trans (d2.mono c1.size)
    have a0_2 : w2.cell? ⟨w.heap.size, 0, none⟩ = some (.int .i64 1) := (by rw [b2.cell (by first | omega | (simp; done) | (simp; omega))]; go_cell)
    have a1_2 : w2.cell? ⟨w.heap.size, 1, none⟩ = some (.int .i64 a) := (by rw [b2.cell (by first | omega | (simp; done) | (simp; omega))]; go_cell)
    have a2_2 : w2.cell? ⟨w.heap.size, 2, none⟩ = some (.int .i64 b) := (by rw [b2.cell (by first | omega | (simp; done) | (simp; omega))]; go_cell)
    have a3_2 : w2.cell? ⟨w.heap.size, 3, none⟩ = some (.int .i64 n) := (by rw [b2.cell (by first | omega | (simp; done) | (simp; omega))]; go_cell)
    have al_2 : w.heap.size < w2.heap.size := (by have := b2.size; first | omega | (revert this; simp; done) | (revert this; simp; omega))
    clear a0_1 a1_1 a2_1 a3_1 al_1
    clear b2 d2 HS
    go_wp2_with fail
    refine (specMake_any _ _ _).mono ?_
    rintro e w3 ⟨rfl, rfl⟩
    rw [hk]
    go_wp2
    go_ret
    exact ⟨by simp, by go_grown⟩
  · rw [e]; clear e
    rw [e0] at HS; clear e0
    have hk : keyOf 2 a = 16 + a := by rw [keyOf_in (by omega) (by omega) h.2.1.1 h.2.1.2]; omega
    obtain ⟨rfl, -⟩ := h
    go_enter Tryz.func39, Tryz.ntmps39
    go_wp2_with fail
    have a0_1 : (w.alloc (.cells #[.int .i64 2, .int .i64 a, .int .i64 b, .int .i64 n] 27)).cell? ⟨w.heap.size, 0, none⟩ = some (.int .i64 2) := by go_cell
    have a1_1 : (w.alloc (.cells #[.int .i64 2, .int .i64 a, .int .i64 b, .int .i64 n] 27)).cell? ⟨w.heap.size, 1, none⟩ = some (.int .i64 a) := by go_cell
    have a2_1 : (w.alloc (.cells #[.int .i64 2, .int .i64 a, .int .i64 b, .int .i64 n] 27)).cell? ⟨w.heap.size, 2, none⟩ = some (.int .i64 b) := by go_cell
    have a3_1 : (w.alloc (.cells #[.int .i64 2, .int .i64 a, .int .i64 b, .int .i64 n] 27)).cell? ⟨w.heap.size, 3, none⟩ = some (.int .i64 n) := by go_cell
    have al_1 : w.heap.size < (w.alloc (.cells #[.int .i64 2, .int .i64 a, .int .i64 b, .int .i64 n] 27)).heap.size := by first | (simp; done) | (simp; omega)
    have c1 : Below w.heap.size w (w.alloc (.cells #[.int .i64 2, .int .i64 a, .int .i64 b, .int .i64 n] 27)) := by go_grown
    have s1 : (w.alloc (.cells #[.int .i64 2, .int .i64 a, .int .i64 b, .int .i64 n] 27)).heap.size = w.heap.size + 1 := by simp
    generalize (w.alloc (.cells #[.int .i64 2, .int .i64 a, .int .i64 b, .int .i64 n] 27)) = w1 at a0_1 a1_1 a2_1 a3_1 al_1 c1 s1 ⊢
    have qa0_1 := cell_regrown a0_1
    have qa1_1 := cell_regrown a1_1
    have qa2_1 := cell_regrown a2_1
    have qa3_1 := cell_regrown a3_1
    refine (HS _).mono ?_
    rintro e w2 ⟨rfl, b2⟩
    have d2 : Below w1.heap.size w1 w2 := (Below.trans (by go_grown) (b2.mono (by first | omega | (simp; done) | (simp; omega))))
    have c2 : Below w.heap.size w w2 := c1.trans (d2.mono c1.size)
    have a0_2 : w2.cell? ⟨w.heap.size, 0, none⟩ = some (.int .i64 2) := (by rw [b2.cell (by first | omega | (simp; done) | (simp; omega))]; go_cell)
    have a1_2 : w2.cell? ⟨w.heap.size, 1, none⟩ = some (.int .i64 a) := (by rw [b2.cell (by first | omega | (simp; done) | (simp; omega))]; go_cell)
    have a2_2 : w2.cell? ⟨w.heap.size, 2, none⟩ = some (.int .i64 b) := (by rw [b2.cell (by first | omega | (simp; done) | (simp; omega))]; go_cell)
    have a3_2 : w2.cell? ⟨w.heap.size, 3, none⟩ = some (.int .i64 n) := (by rw [b2.cell (by first | omega | (simp; done) | (simp; omega))]; go_cell)
    have al_2 : w.heap.size < w2.heap.size := (by have := b2.size; first | omega | (revert this; simp; done) | (revert this; simp; omega))
    clear a0_1 a1_1 a2_1 a3_1 al_1
    clear b2 d2 HS
    go_wp2_with fail
    refine (specMake_any _ _ _).mono ?_
    rintro e w3 ⟨rfl, rfl⟩
    rw [hk]
    go_wp2
    go_ret
    exact ⟨by simp, by go_grown⟩
  · rw [e]; clear e
    rw [e0] at HS; clear e0
    have hk : keyOf 2 a = 16 + a := by rw [keyOf_in (by omega) (by omega) h.2.1.1 h.2.1.2]; omega
    obtain ⟨rfl, -⟩ := h
    go_enter Tryz.func39, Tryz.ntmps39
    go_wp2_with fail
    have a0_1 : (w.alloc (.cells #[.int .i64 3, .int .i64 a, .int .i64 b, .int .i64 n] 27)).cell? ⟨w.heap.size, 0, none⟩ = some (.int .i64 3) := by go_cell
    have a1_1 : (w.alloc (.cells #[.int .i64 3, .int .i64 a, .int .i64 b, .int .i64 n] 27)).cell? ⟨w.heap.size, 1, none⟩ = some (.int .i64 a) := by go_cell
    have a2_1 : (w.alloc (.cells #[.int .i64 3, .int .i64 a, .int .i64 b, .int .i64 n] 27)).cell? ⟨w.heap.size, 2, none⟩ = some (.int .i64 b) := by go_cell
    have a3_1 : (w.alloc (.cells #[.int .i64 3, .int .i64 a, .int .i64 b, .int .i64 n] 27)).cell? ⟨w.heap.size, 3, none⟩ = some (.int .i64 n) := by go_cell
    have al_1 : w.heap.size < (w.alloc (.cells #[.int .i64 3, .int .i64 a, .int .i64 b, .int .i64 n] 27)).heap.size := by first | (simp; done) | (simp; omega)
    have c1 : Below w.heap.size w (w.alloc (.cells #[.int .i64 3, .int .i64 a, .int .i64 b, .int .i64 n] 27)) := by go_grown
    have s1 : (w.alloc (.cells #[.int .i64 3, .int .i64 a, .int .i64 b, .int .i64 n] 27)).heap.size = w.heap.size + 1 := by simp
    generalize (w.alloc (.cells #[.int .i64 3, .int .i64 a, .int .i64 b, .int .i64 n] 27)) = w1 at a0_1 a1_1 a2_1 a3_1 al_1 c1 s1 ⊢
    have qa0_1 := cell_regrown a0_1
    have qa1_1 := cell_regrown a1_1
    have qa2_1 := cell_regrown a2_1
    have qa3_1 := cell_regrown a3_1
    refine (HS _).mono ?_
    rintro e w2 ⟨rfl, b2⟩
    have d2 : Below w1.heap.size w1 w2 := (Below.trans (by go_grown) (b2.mono (by first | omega | (simp; done) | (simp; omega))))
    have c2 : Below w.heap.size w w2 := c1.trans (d2.mono c1.size)
    have a0_2 : w2.cell? ⟨w.heap.size, 0, none⟩ = some (.int .i64 3) := (by rw [b2.cell (by first | omega | (simp; done) | (simp; omega))]; go_cell)
    have a1_2 : w2.cell? ⟨w.heap.size, 1, none⟩ = some (.int .i64 a) := (by rw [b2.cell (by first | omega | (simp; done) | (simp; omega))]; go_cell)
    have a2_2 : w2.cell? ⟨w.heap.size, 2, none⟩ = some (.int .i64 b) := (by rw [b2.cell (by first | omega | (simp; done) | (simp; omega))]; go_cell)
    have a3_2 : w2.cell? ⟨w.heap.size, 3, none⟩ = some (.int .i64 n) := (by rw [b2.cell (by first | omega | (simp; done) | (simp; omega))]; go_cell)
    have al_2 : w.heap.size < w2.heap.size := (by have := b2.size; first | omega | (revert this; simp; done) | (revert this; simp; omega))
    clear a0_1 a1_1 a2_1 a3_1 al_1
    clear b2 d2 HS
    go_wp2_with fail
    refine (specMake_any _ _ _).mono ?_
    rintro e w3 ⟨rfl, rfl⟩
    rw [hk]
    go_wp2
    go_ret
    exact ⟨by simp, by go_grown⟩
  · rw [e]; clear e
    rw [e0] at HS; clear e0
    go_enter Tryz.func39, Tryz.ntmps39
    go_wp2_with fail
    have a0_1 : (w.alloc (.cells #[.int .i64 k, .int .i64 a, .int .i64 b, .int .i64 n] 27)).cell? ⟨w.heap.size, 0, none⟩ = some (.int .i64 k) := by go_cell
    have a1_1 : (w.alloc (.cells #[.int .i64 k, .int .i64 a, .int .i64 b, .int .i64 n] 27)).cell? ⟨w.heap.size, 1, none⟩ = some (.int .i64 a) := by go_cell
    have a2_1 : (w.alloc (.cells #[.int .i64 k, .int .i64 a, .int .i64 b, .int .i64 n] 27)).cell? ⟨w.heap.size, 2, none⟩ = some (.int .i64 b) := by go_cell
    have a3_1 : (w.alloc (.cells #[.int .i64 k, .int .i64 a, .int .i64 b, .int .i64 n] 27)).cell? ⟨w.heap.size, 3, none⟩ = some (.int .i64 n) := by go_cell
    have al_1 : w.heap.size < (w.alloc (.cells #[.int .i64 k, .int .i64 a, .int .i64 b, .int .i64 n] 27)).heap.size := by first | (simp; done) | (simp; omega)
    have c1 : Below w.heap.size w (w.alloc (.cells #[.int .i64 k, .int .i64 a, .int .i64 b, .int .i64 n] 27)) := by go_grown
    have s1 : (w.alloc (.cells #[.int .i64 k, .int .i64 a, .int .i64 b, .int .i64 n] 27)).heap.size = w.heap.size + 1 := by simp
    generalize (w.alloc (.cells #[.int .i64 k, .int .i64 a, .int .i64 b, .int .i64 n] 27)) = w1 at a0_1 a1_1 a2_1 a3_1 al_1 c1 s1 ⊢
    have qa0_1 := cell_regrown a0_1
    have qa1_1 := cell_regrown a1_1
    have qa2_1 := cell_regrown a2_1
    have qa3_1 := cell_regrown a3_1
    refine (HS _).mono ?_
    rintro e w2 ⟨rfl, b2⟩
    have d2 : Below w1.heap.size w1 w2 := (Below.trans (by go_grown) (b2.mono (by first | omega | (simp; done) | (simp; omega))))
    have c2 : Below w.heap.size w w2 := c1.trans (d2.mono c1.size)
    have a0_2 : w2.cell? ⟨w.heap.size, 0, none⟩ = some (.int .i64 k) := (by rw [b2.cell (by first | omega | (simp; done) | (simp; omega))]; go_cell)
    have a1_2 : w2.cell? ⟨w.heap.size, 1, none⟩ = some (.int .i64 a) := (by rw [b2.cell (by first | omega | (simp; done) | (simp; omega))]; go_cell)
    have a2_2 : w2.cell? ⟨w.heap.size, 2, none⟩ = some (.int .i64 b) := (by rw [b2.cell (by first | omega | (simp; done) | (simp; omega))]; go_cell)
    have a3_2 : w2.cell? ⟨w.heap.size, 3, none⟩ = some (.int .i64 n) := (by rw [b2.cell (by first | omega | (simp; done) | (simp; omega))]; go_cell)
    have al_2 : w.heap.size < w2.heap.size := (by have := b2.size; first | omega | (revert this; simp; done) | (revert this; simp; omega))
    clear a0_1 a1_1 a2_1 a3_1 al_1
    clear b2 d2 HS
    go_wp2_with fail
    go_ret
    exact ⟨by simp, by go_grown⟩
end Go.Proofs.YtkmhnjgncnoddaaGreat

/- Part: impl.GraphDo: contract. -/
namespace Go.Proofs.YtkmhnjgncnoddaaGreat
open Go.RowKit
attribute [local go_sem ↓] Go.wp_at_zero Go.wp_at_succ
attribute [local go_sem ↓] ldS_open stS_open ixS_open zeroR

/-- A graph behind a write. -/
def doG (L : List ValD) (k a b n : Int) : List ValD :=
  if setOk k a b n then L.set a.toNat (n, [])
  else if bindOk k a b n then (L.set (16 + a.toNat) (0, addL (L.getD (16 + a.toNat) valD0).2 b n)).set (8 + b.toNat) (0, addL (L.getD (8 + b.toNat) valD0).2 a n)
  else if partOk k a b n then (L.set (16 + a.toNat) (0, dropL (L.getD (16 + a.toNat) valD0).2 b)).set (8 + b.toNat) (0, dropL (L.getD (8 + b.toNat) valD0).2 a)
  else L
theorem doG_length (L : List ValD) (k a b n : Int) : (doG L k a b n).length = L.length := by
  unfold doG
  split
  · simp
  · split
    · simp
    · split
      · simp
      · rfl
theorem okG_true {L : List ValD} (h : okG L = true) : L.length = 24 ∧ RightTo L 24 ∧ EndsTo L 16 8 8 ∧ EndsTo L 8 16 8 := by
  unfold okG at h
  rw [Bool.and_eq_true, Bool.and_eq_true, Bool.and_eq_true] at h
  exact ⟨of_decide_eq_true h.1.1, rightG_iff.1 h.1.2, endsG_iff.1 h.2.1, endsG_iff.1 h.2.2⟩
theorem BackN.mono {w : World} {B B' g : Nat} {M : List ValD} {ds : Array Value} (h : BackN w B g M ds) (hB : B' ≤ B) : BackN w B' g M ds :=
  ⟨h.row, h.size, h.len, h.num, fun k hk => by obtain ⟨u, h1, h2, h3⟩ := h.kin k hk; exact ⟨u, h1, h2.mono hB, h3⟩, h.dis⟩
theorem BackN.other {w : World} {B g : Nat} {M : List ValD} {ds : Array Value} (h : BackN w B g M ds) {p : Addr} (hp : p.block < B) (hg : p.block ≠ g) (x : Value) : BackN (w.setCell p x) B g M ds :=
  ⟨(heap_setCell_other w p g x (fun e => hg e.symm)).trans h.row, h.size, h.len, h.num, fun k hk => by obtain ⟨u, h1, h2, h3⟩ := h.kin k hk; exact ⟨u, h1, h2.setApart hp x, h3⟩, h.dis⟩
theorem implGOk_is {L : List ValD} {c : Bool} (h : okG L = c) (va : Value) (w : World) (hr : RdG w va L) :
    Calls Tryz.prog 11 #[.agg #[va]] w fun e w' => e = .returned (.bool c) ∧ Below w.heap.size w w' := h ▸ implGOk_any va L w hr

set_option maxRecDepth 100000 in
set_option maxHeartbeats 1000000 in
theorem implGDo_not (va : Value) (L : List ValD) (k a b n : Int) (w : World) (h : RdG w va L) (hok : okG L = false) :
    Calls Tryz.prog 8 #[.agg #[va], .agg #[.int .i64 k, .int .i64 a, .int .i64 b, .int .i64 n]] w fun e w' => e = .returned (.tuple #[.agg #[.slice none 0 0], .bool false]) ∧ Below w.heap.size w w' := by
  have HR := hid h
  obtain ⟨ao, cap, hv, -⟩ := h
  subst hv
  go_enter Tryz.func8, Tryz.ntmps8
  go_wp2_with fail
  have x0_1 : (((w.alloc (.cells #[.slice ao L.length cap] 25)).alloc (.cells #[.int .i64 k, .int .i64 a, .int .i64 b, .int .i64 n] 27)).alloc (.cells #[.slice none 0 0] 25)).cell? ⟨w.heap.size, 0, none⟩ = some (.slice ao L.length cap) := by go_cell
  have xl_1 : w.heap.size < (((w.alloc (.cells #[.slice ao L.length cap] 25)).alloc (.cells #[.int .i64 k, .int .i64 a, .int .i64 b, .int .i64 n] 27)).alloc (.cells #[.slice none 0 0] 25)).heap.size := by first | (simp; done) | (simp; omega)
  have o0_1 : (((w.alloc (.cells #[.slice ao L.length cap] 25)).alloc (.cells #[.int .i64 k, .int .i64 a, .int .i64 b, .int .i64 n] 27)).alloc (.cells #[.slice none 0 0] 25)).cell? ⟨w.heap.size + 1, 0, none⟩ = some (.int .i64 k) := by go_cell
  have o1_1 : (((w.alloc (.cells #[.slice ao L.length cap] 25)).alloc (.cells #[.int .i64 k, .int .i64 a, .int .i64 b, .int .i64 n] 27)).alloc (.cells #[.slice none 0 0] 25)).cell? ⟨w.heap.size + 1, 1, none⟩ = some (.int .i64 a) := by go_cell
  have o2_1 : (((w.alloc (.cells #[.slice ao L.length cap] 25)).alloc (.cells #[.int .i64 k, .int .i64 a, .int .i64 b, .int .i64 n] 27)).alloc (.cells #[.slice none 0 0] 25)).cell? ⟨w.heap.size + 1, 2, none⟩ = some (.int .i64 b) := by go_cell
  have o3_1 : (((w.alloc (.cells #[.slice ao L.length cap] 25)).alloc (.cells #[.int .i64 k, .int .i64 a, .int .i64 b, .int .i64 n] 27)).alloc (.cells #[.slice none 0 0] 25)).cell? ⟨w.heap.size + 1, 3, none⟩ = some (.int .i64 n) := by go_cell
  have ol_1 : w.heap.size + 1 < (((w.alloc (.cells #[.slice ao L.length cap] 25)).alloc (.cells #[.int .i64 k, .int .i64 a, .int .i64 b, .int .i64 n] 27)).alloc (.cells #[.slice none 0 0] 25)).heap.size := by first | (simp; done) | (simp; omega)
  have r0_1 : (((w.alloc (.cells #[.slice ao L.length cap] 25)).alloc (.cells #[.int .i64 k, .int .i64 a, .int .i64 b, .int .i64 n] 27)).alloc (.cells #[.slice none 0 0] 25)).cell? ⟨w.heap.size + 1 + 1, 0, none⟩ = some (.slice none 0 0) := by go_cell
  have rf0_1 : (((w.alloc (.cells #[.slice ao L.length cap] 25)).alloc (.cells #[.int .i64 k, .int .i64 a, .int .i64 b, .int .i64 n] 27)).alloc (.cells #[.slice none 0 0] 25)).frozen? ⟨w.heap.size + 1 + 1, 0, none⟩ = false := by (first | go_cell | (simp [World.frozen?, World.alloc]; done) | rfl)
  have rl_1 : w.heap.size + 1 + 1 < (((w.alloc (.cells #[.slice ao L.length cap] 25)).alloc (.cells #[.int .i64 k, .int .i64 a, .int .i64 b, .int .i64 n] 27)).alloc (.cells #[.slice none 0 0] 25)).heap.size := by first | (simp; done) | (simp; omega)
  have c1 : Below w.heap.size w (((w.alloc (.cells #[.slice ao L.length cap] 25)).alloc (.cells #[.int .i64 k, .int .i64 a, .int .i64 b, .int .i64 n] 27)).alloc (.cells #[.slice none 0 0] 25)) := by go_grown
  have s1 : (((w.alloc (.cells #[.slice ao L.length cap] 25)).alloc (.cells #[.int .i64 k, .int .i64 a, .int .i64 b, .int .i64 n] 27)).alloc (.cells #[.slice none 0 0] 25)).heap.size = w.heap.size + 3 := by simp
  generalize (((w.alloc (.cells #[.slice ao L.length cap] 25)).alloc (.cells #[.int .i64 k, .int .i64 a, .int .i64 b, .int .i64 n] 27)).alloc (.cells #[.slice none 0 0] 25)) = w1 at x0_1 xl_1 o0_1 o1_1 o2_1 o3_1 ol_1 r0_1 rf0_1 rl_1 c1 s1 ⊢
  have qx0_1 := cell_regrown x0_1
  have qo0_1 := cell_regrown o0_1
  have qo1_1 := cell_regrown o1_1
  have qo2_1 := cell_regrown o2_1
  have qo3_1 := cell_regrown o3_1
  have qr0_1 := cell_regrown r0_1
  refine (implGOk_is hok _ _ (HR.out.later c1)).mono ?_
  rintro e w2 ⟨rfl, b2⟩
  have d2 : Below w1.heap.size w1 w2 := (Below.trans (by go_grown) (b2.mono (by first | omega | (simp; done) | (simp; omega))))
  have c2 : Below w.heap.size w w2 := c1.trans (d2.mono c1.size)
  have r0_2 : w2.cell? ⟨w.heap.size + 1 + 1, 0, none⟩ = some (.slice none 0 0) := (by rw [b2.cell (by first | omega | (simp; done) | (simp; omega))]; go_cell)
  have rf0_2 : w2.frozen? ⟨w.heap.size + 1 + 1, 0, none⟩ = false := (by rw [b2.frozen (by first | omega | (simp; done) | (simp; omega))]; (first | go_cell | (simp [World.frozen?, World.alloc]; done) | rfl))
  have rl_2 : w.heap.size + 1 + 1 < w2.heap.size := (by have := b2.size; first | omega | (revert this; simp; done) | (revert this; simp; omega))
  clear r0_1 rf0_1 rl_1
  clear b2 d2
  go_wp2
  have e0 : (w2.setCell ⟨w.heap.size + 1 + 1, 0, none⟩ (.slice none 0 0)).cell? ⟨w.heap.size + 1 + 1, 0, none⟩ = some (.slice none 0 0) := by go_cell
  refine bodyPost_ret (v := .tuple #[.agg #[.slice none 0 0], .bool false]) (by simp [results, Tryz.results8, go_sem, e0]) rfl ⟨rfl, c2.setCell (p := ⟨w.heap.size + 1 + 1, 0, none⟩) (by show w.heap.size ≤ w.heap.size + 1 + 1; omega) _⟩

set_option maxRecDepth 100000 in
set_option maxHeartbeats 4000000 in
theorem implGDo_set (va : Value) (L : List ValD) (k a b n : Int) (w : World) (h : RdG w va L) (hok : okG L = true) (hs : setOk k a b n) :
    Calls Tryz.prog 8 #[.agg #[va], .agg #[.int .i64 k, .int .i64 a, .int .i64 b, .int .i64 n]] w fun e w' => (∃ g ds, e = .returned (.tuple #[.agg #[.slice (some ⟨g, 0, none⟩) 24 24], .bool true]) ∧ BackN w' w.heap.size g (L.set a.toNat (n, [])) ds ∧ w.heap.size ≤ g) ∧ Below w.heap.size w w' := by
  have hmf : ∀ (fn : Fn) (first cap : Array Value) (w : World), (Instr.makeFunc fn first cap).run Tryz.prog w = .ok (.func fn first cap) w := fun _ _ _ _ => rfl
  have HW := fun w => writeOf_set hs w
  have hm1 := method_setKey k a b n
  have hm2 := method_setOther k a b n
  have hm3 := method_setRight k a b n
  have ha := hs.2.1
  have hsr := hid (setR_of hs)
  clear hs
  have hlen := hid (okG_true hok).1
  have hRT := hid (okG_true hok).2.1
  have HG := fun (v : Value) (W : World) (hr : RdG W v L) => implGOk_is (c := true) hok v W hr
  clear hok
  have HR := hid h
  obtain ⟨ao, cap, hv, -⟩ := h
  subst hv
  go_enter Tryz.func8, Tryz.ntmps8
  go_wp2_with fail
  have x0_1 : (((w.alloc (.cells #[.slice ao L.length cap] 25)).alloc (.cells #[.int .i64 k, .int .i64 a, .int .i64 b, .int .i64 n] 27)).alloc (.cells #[.slice none 0 0] 25)).cell? ⟨w.heap.size, 0, none⟩ = some (.slice ao L.length cap) := by go_cell
  have xl_1 : w.heap.size < (((w.alloc (.cells #[.slice ao L.length cap] 25)).alloc (.cells #[.int .i64 k, .int .i64 a, .int .i64 b, .int .i64 n] 27)).alloc (.cells #[.slice none 0 0] 25)).heap.size := by first | (simp; done) | (simp; omega)
  have o0_1 : (((w.alloc (.cells #[.slice ao L.length cap] 25)).alloc (.cells #[.int .i64 k, .int .i64 a, .int .i64 b, .int .i64 n] 27)).alloc (.cells #[.slice none 0 0] 25)).cell? ⟨w.heap.size + 1, 0, none⟩ = some (.int .i64 k) := by go_cell
  have o1_1 : (((w.alloc (.cells #[.slice ao L.length cap] 25)).alloc (.cells #[.int .i64 k, .int .i64 a, .int .i64 b, .int .i64 n] 27)).alloc (.cells #[.slice none 0 0] 25)).cell? ⟨w.heap.size + 1, 1, none⟩ = some (.int .i64 a) := by go_cell
  have o2_1 : (((w.alloc (.cells #[.slice ao L.length cap] 25)).alloc (.cells #[.int .i64 k, .int .i64 a, .int .i64 b, .int .i64 n] 27)).alloc (.cells #[.slice none 0 0] 25)).cell? ⟨w.heap.size + 1, 2, none⟩ = some (.int .i64 b) := by go_cell
  have o3_1 : (((w.alloc (.cells #[.slice ao L.length cap] 25)).alloc (.cells #[.int .i64 k, .int .i64 a, .int .i64 b, .int .i64 n] 27)).alloc (.cells #[.slice none 0 0] 25)).cell? ⟨w.heap.size + 1, 3, none⟩ = some (.int .i64 n) := by go_cell
  have ol_1 : w.heap.size + 1 < (((w.alloc (.cells #[.slice ao L.length cap] 25)).alloc (.cells #[.int .i64 k, .int .i64 a, .int .i64 b, .int .i64 n] 27)).alloc (.cells #[.slice none 0 0] 25)).heap.size := by first | (simp; done) | (simp; omega)
  have r0_1 : (((w.alloc (.cells #[.slice ao L.length cap] 25)).alloc (.cells #[.int .i64 k, .int .i64 a, .int .i64 b, .int .i64 n] 27)).alloc (.cells #[.slice none 0 0] 25)).cell? ⟨w.heap.size + 1 + 1, 0, none⟩ = some (.slice none 0 0) := by go_cell
  have rf0_1 : (((w.alloc (.cells #[.slice ao L.length cap] 25)).alloc (.cells #[.int .i64 k, .int .i64 a, .int .i64 b, .int .i64 n] 27)).alloc (.cells #[.slice none 0 0] 25)).frozen? ⟨w.heap.size + 1 + 1, 0, none⟩ = false := by (first | go_cell | (simp [World.frozen?, World.alloc]; done) | rfl)
  have rl_1 : w.heap.size + 1 + 1 < (((w.alloc (.cells #[.slice ao L.length cap] 25)).alloc (.cells #[.int .i64 k, .int .i64 a, .int .i64 b, .int .i64 n] 27)).alloc (.cells #[.slice none 0 0] 25)).heap.size := by first | (simp; done) | (simp; omega)
  have c1 : Below w.heap.size w (((w.alloc (.cells #[.slice ao L.length cap] 25)).alloc (.cells #[.int .i64 k, .int .i64 a, .int .i64 b, .int .i64 n] 27)).alloc (.cells #[.slice none 0 0] 25)) := by go_grown
  have s1 : (((w.alloc (.cells #[.slice ao L.length cap] 25)).alloc (.cells #[.int .i64 k, .int .i64 a, .int .i64 b, .int .i64 n] 27)).alloc (.cells #[.slice none 0 0] 25)).heap.size = w.heap.size + 3 := by simp
  generalize (((w.alloc (.cells #[.slice ao L.length cap] 25)).alloc (.cells #[.int .i64 k, .int .i64 a, .int .i64 b, .int .i64 n] 27)).alloc (.cells #[.slice none 0 0] 25)) = w1 at x0_1 xl_1 o0_1 o1_1 o2_1 o3_1 ol_1 r0_1 rf0_1 rl_1 c1 s1 ⊢
  have qx0_1 := cell_regrown x0_1
  have qo0_1 := cell_regrown o0_1
  have qo1_1 := cell_regrown o1_1
  have qo2_1 := cell_regrown o2_1
  have qo3_1 := cell_regrown o3_1
  have qr0_1 := cell_regrown r0_1
  refine (HG _ _ (HR.out.later c1)).mono ?_
  rintro e w2 ⟨rfl, b2⟩
  have d2 : Below w1.heap.size w1 w2 := (Below.trans (by go_grown) (b2.mono (by first | omega | (simp; done) | (simp; omega))))
  have c2 : Below w.heap.size w w2 := c1.trans (d2.mono c1.size)
  have x0_2 : w2.cell? ⟨w.heap.size, 0, none⟩ = some (.slice ao L.length cap) := (by rw [b2.cell (by first | omega | (simp; done) | (simp; omega))]; go_cell)
  have xl_2 : w.heap.size < w2.heap.size := (by have := b2.size; first | omega | (revert this; simp; done) | (revert this; simp; omega))
  have o0_2 : w2.cell? ⟨w.heap.size + 1, 0, none⟩ = some (.int .i64 k) := (by rw [b2.cell (by first | omega | (simp; done) | (simp; omega))]; go_cell)
  have o1_2 : w2.cell? ⟨w.heap.size + 1, 1, none⟩ = some (.int .i64 a) := (by rw [b2.cell (by first | omega | (simp; done) | (simp; omega))]; go_cell)
  have o2_2 : w2.cell? ⟨w.heap.size + 1, 2, none⟩ = some (.int .i64 b) := (by rw [b2.cell (by first | omega | (simp; done) | (simp; omega))]; go_cell)
  have o3_2 : w2.cell? ⟨w.heap.size + 1, 3, none⟩ = some (.int .i64 n) := (by rw [b2.cell (by first | omega | (simp; done) | (simp; omega))]; go_cell)
  have ol_2 : w.heap.size + 1 < w2.heap.size := (by have := b2.size; first | omega | (revert this; simp; done) | (revert this; simp; omega))
  have r0_2 : w2.cell? ⟨w.heap.size + 1 + 1, 0, none⟩ = some (.slice none 0 0) := (by rw [b2.cell (by first | omega | (simp; done) | (simp; omega))]; go_cell)
  have rf0_2 : w2.frozen? ⟨w.heap.size + 1 + 1, 0, none⟩ = false := (by rw [b2.frozen (by first | omega | (simp; done) | (simp; omega))]; (first | go_cell | (simp [World.frozen?, World.alloc]; done) | rfl))
  have rl_2 : w.heap.size + 1 + 1 < w2.heap.size := (by have := b2.size; first | omega | (revert this; simp; done) | (revert this; simp; omega))
  clear x0_1 xl_1 o0_1 o1_1 o2_1 o3_1 ol_1 r0_1 rf0_1 rl_1
  clear b2 d2
  go_wp2_with fail
  refine (HW _).mono ?_
  rintro e w3 ⟨rfl, b3⟩
  have d3 : Below w2.heap.size w2 w3 := (Below.trans (by go_grown) (b3.mono (by first | omega | (simp; done) | (simp; omega))))
  have c3 : Below w.heap.size w w3 := c2.trans (d3.mono c2.size)
  have x0_3 : w3.cell? ⟨w.heap.size, 0, none⟩ = some (.slice ao L.length cap) := (by rw [b3.cell (by first | omega | (simp; done) | (simp; omega))]; go_cell)
  have xl_3 : w.heap.size < w3.heap.size := (by have := b3.size; first | omega | (revert this; simp; done) | (revert this; simp; omega))
  have r0_3 : w3.cell? ⟨w.heap.size + 1 + 1, 0, none⟩ = some (.slice none 0 0) := (by rw [b3.cell (by first | omega | (simp; done) | (simp; omega))]; go_cell)
  have rf0_3 : w3.frozen? ⟨w.heap.size + 1 + 1, 0, none⟩ = false := (by rw [b3.frozen (by first | omega | (simp; done) | (simp; omega))]; (first | go_cell | (simp [World.frozen?, World.alloc]; done) | rfl))
  have rl_3 : w.heap.size + 1 + 1 < w3.heap.size := (by have := b3.size; first | omega | (revert this; simp; done) | (revert this; simp; omega))
  clear x0_2 xl_2 r0_2 rf0_2 rl_2
  clear b3 d3
  go_wp2_with fail
  have hrB := rl_3
  refine (rowsApart_any _ L _ (HR.out.later c3) hlen.out (fun k hk => by have := okL_le (hRT.out.ok hk); omega)).mono ?_
  rintro e w4 ⟨ds, rfl, hO, b4⟩
  have d4 : Below w3.heap.size w3 w4 := (Below.trans (by go_grown) (b4.mono (by first | omega | (simp; done) | (simp; omega))))
  have c4 : Below w.heap.size w w4 := c3.trans (d4.mono c3.size)
  have r0_4 : w4.cell? ⟨w.heap.size + 1 + 1, 0, none⟩ = some (.slice none 0 0) := (by rw [b4.cell (by first | omega | (simp; done) | (simp; omega))]; go_cell)
  have rf0_4 : w4.frozen? ⟨w.heap.size + 1 + 1, 0, none⟩ = false := (by rw [b4.frozen (by first | omega | (simp; done) | (simp; omega))]; (first | go_cell | (simp [World.frozen?, World.alloc]; done) | rfl))
  have rl_4 : w.heap.size + 1 + 1 < w4.heap.size := (by have := b4.size; first | omega | (revert this; simp; done) | (revert this; simp; omega))
  clear r0_3 rf0_3 rl_3
  have hO4 := hid hO
  have hBg : w3.heap.size ≤ w4.heap.size := b4.size
  have hB0 : w.heap.size ≤ w3.heap.size := c3.size
  clear b4 d4 hO
  have hs := stS_row (w := w4.alloc (.cells zeroV 79)) (g := w4.heap.size) (cs := ds) (heap_alloc_new w4 _) (by simp [zeroV]) hO4.out.size hO4.out.one
  have hB5 := hid (BackN.start hO4.out)
  have d5 := below_setRow (B := w4.heap.size) ((Below.refl _ w4).alloc (Nat.le_refl _) (.cells zeroV 79)) (g := w4.heap.size) (Nat.le_refl _) ds
  go_upto_region 5 with fail
  clear hs
  generalize ((w4.alloc (.cells zeroV 79)).setRow w4.heap.size ds) = w5 at *
  have hrg : w.heap.size + 1 + 1 < w4.heap.size := rl_4
  have r0_5 := (d5.cell (p := ⟨w.heap.size + 1 + 1, 0, none⟩) hrg).trans r0_4
  have rf0_5 := (d5.frozen (p := ⟨w.heap.size + 1 + 1, 0, none⟩) hrg).trans rf0_4
  have c5 : Below w.heap.size w w5 := c4.trans (d5.mono c4.size)
  have rl_5 : w.heap.size + 1 + 1 < w5.heap.size := by have := d5.size; omega
  have hg0 : w.heap.size ≤ w4.heap.size := c4.size
  clear r0_4 rf0_4 rl_4 d5 hO4 c4 c3
  generalize w4.heap.size = g at *
  generalize w3.heap.size = B at *
  have hJ : a.toNat < 24 := by omega
  have hJe : ((a.toNat : Nat) : Int) = a := by omega
  have CH := fun W ds hB hBw => change_setDo k a b n B g a.toNat L ds W hB hJ hBw (L.getD a.toNat valD0) rfl (by have := okL_le (hRT.out.ok hJ); omega)
  rw [hJe] at CH
  have hk0 := setKey_any k a b n
  rw [keyOf_in (by omega) (by omega) ha.1 ha.2, show (0 : Int) * 8 + a = a from by omega] at hk0
  have hr0 := setRight_any k a b n
  rw [hsr.out] at hr0
  go_region_with (first
    | (go_at_call 258; refine (hk0 _).mono ?_; rintro e w6 ⟨rfl, b6⟩; have d6 : Below w5.heap.size w5 w6 := (Below.trans (by go_grown) (b6.mono (by first | omega | (simp; done) | (simp; omega)))); have c6 : Below w.heap.size w w6 := c5.trans (d6.mono c5.size); have r0_6 : w6.cell? ⟨w.heap.size + 1 + 1, 0, none⟩ = some (.slice none 0 0) := (by rw [b6.cell (by first | omega | (simp; done) | (simp; omega))]; go_cell); have rf0_6 : w6.frozen? ⟨w.heap.size + 1 + 1, 0, none⟩ = false := (by rw [b6.frozen (by first | omega | (simp; done) | (simp; omega))]; (first | go_cell | (simp [World.frozen?, World.alloc]; done) | rfl)); have rl_6 : w.heap.size + 1 + 1 < w6.heap.size := (by have := b6.size; first | omega | (revert this; simp; done) | (revert this; simp; omega)); clear r0_5 rf0_5 rl_5; have hB6 := hid (hB5.out.later d6))
    | (go_at_call 36; refine (CH _ _ hB6.out (by have := hB6.out.lt; omega)).mono ?_; rintro e w7 ⟨rfl, ⟨ds7, hB7⟩, b7⟩))
  all_goals
    have HB7 := hid hB7
    have r0_7 := (b7.cell (p := ⟨w.heap.size + 1 + 1, 0, none⟩) hrg).trans r0_6
    have rf0_7 := (b7.frozen (p := ⟨w.heap.size + 1 + 1, 0, none⟩) hrg).trans rf0_6
    have c7 : Below w.heap.size w w7 := c6.trans (b7.mono hg0)
    have rl_7 : w.heap.size + 1 + 1 < w7.heap.size := Nat.lt_of_lt_of_le rl_6 b7.size
    clear hB7 b7 r0_6 rf0_6 rl_6 hB6 c6 b6 d6 c5 hB5
    go_upto_region 6 with fail
    go_region_with (first
      | (go_at_call 259; refine (setOther_any k a b n _).mono ?_; rintro e w8 ⟨rfl, b8⟩; have d8 : Below w7.heap.size w7 w8 := (Below.trans (by go_grown) (b8.mono (by first | omega | (simp; done) | (simp; omega)))); have c8 : Below w.heap.size w w8 := c7.trans (d8.mono c7.size); have r0_8 : w8.cell? ⟨w.heap.size + 1 + 1, 0, none⟩ = some (.slice none 0 0) := (by rw [b8.cell (by first | omega | (simp; done) | (simp; omega))]; go_cell); have rf0_8 : w8.frozen? ⟨w.heap.size + 1 + 1, 0, none⟩ = false := (by rw [b8.frozen (by first | omega | (simp; done) | (simp; omega))]; (first | go_cell | (simp [World.frozen?, World.alloc]; done) | rfl)); have rl_8 : w.heap.size + 1 + 1 < w8.heap.size := (by have := b8.size; first | omega | (revert this; simp; done) | (revert this; simp; omega)); clear r0_7 rf0_7 rl_7; have hB8 := hid (HB7.out.later d8))
      | (go_at_call 36; refine (change_no _ g (-1) _ (by omega)).mono ?_; rintro e w9 ⟨rfl, b9⟩; have HB9 := hid (hB8.out.later b9)))
    all_goals
      have r0_9 := (b9.cell (p := ⟨w.heap.size + 1 + 1, 0, none⟩) rl_8).trans r0_8
      have rf0_9 := (b9.frozen (p := ⟨w.heap.size + 1 + 1, 0, none⟩) rl_8).trans rf0_8
      have c9 : Below w.heap.size w w9 := c8.trans (b9.mono (by omega))
      have rl_9 : w.heap.size + 1 + 1 < w9.heap.size := Nat.lt_of_lt_of_le rl_8 b9.size
      clear b9 r0_8 rf0_8 rl_8 hB8 c8 b8 d8 c7 HB7
      go_upto_region 7 with fail
      go_region_with (first
        | (go_at_call 260; refine (hr0 _).mono ?_; rintro e w10 ⟨rfl, b10⟩; have d10 : Below w9.heap.size w9 w10 := (Below.trans (by go_grown) (b10.mono (by first | omega | (simp; done) | (simp; omega)))); have c10 : Below w.heap.size w w10 := c9.trans (d10.mono c9.size); have r0_10 : w10.cell? ⟨w.heap.size + 1 + 1, 0, none⟩ = some (.slice none 0 0) := (by rw [b10.cell (by first | omega | (simp; done) | (simp; omega))]; go_cell); have rf0_10 : w10.frozen? ⟨w.heap.size + 1 + 1, 0, none⟩ = false := (by rw [b10.frozen (by first | omega | (simp; done) | (simp; omega))]; (first | go_cell | (simp [World.frozen?, World.alloc]; done) | rfl)); have rl_10 : w.heap.size + 1 + 1 < w10.heap.size := (by have := b10.size; first | omega | (revert this; simp; done) | (revert this; simp; omega)); clear r0_9 rf0_9 rl_9; have hB10 := hid (HB9.out.later d10)))
      all_goals
        have hF := hid ((hB10.out.other (p := ⟨w.heap.size + 1 + 1, 0, none⟩) (by show w.heap.size + 1 + 1 < B; omega) (by show w.heap.size + 1 + 1 ≠ g; omega) (.slice (some ⟨g, 0, none⟩) 24 24)).mono hB0)
        have e0 : (w10.setCell ⟨w.heap.size + 1 + 1, 0, none⟩ (.slice (some ⟨g, 0, none⟩) 24 24)).cell? ⟨w.heap.size + 1 + 1, 0, none⟩ = some (.slice (some ⟨g, 0, none⟩) 24 24) := by go_cell
        have c11 := hid (c10.setCell (p := ⟨w.heap.size + 1 + 1, 0, none⟩) (by show w.heap.size ≤ w.heap.size + 1 + 1; omega) (.slice (some ⟨g, 0, none⟩) 24 24))
        go_wp2
        refine bodyPost_ret (v := .tuple #[.agg #[.slice (some ⟨g, 0, none⟩) 24 24], .bool true]) (by simp [results, Tryz.results8, go_sem, e0]) rfl ⟨⟨g, _, rfl, hF.out, hg0⟩, c11.out⟩

set_option maxRecDepth 100000 in
set_option maxHeartbeats 4000000 in
theorem implGDo_bind (va : Value) (L : List ValD) (k a b n : Int) (w : World) (h : RdG w va L) (hok : okG L = true) (hs : bindOk k a b n) :
    Calls Tryz.prog 8 #[.agg #[va], .agg #[.int .i64 k, .int .i64 a, .int .i64 b, .int .i64 n]] w fun e w' => (∃ g ds, e = .returned (.tuple #[.agg #[.slice (some ⟨g, 0, none⟩) 24 24], .bool true]) ∧ BackN w' w.heap.size g ((L.set (16 + a.toNat) (0, addL (L.getD (16 + a.toNat) valD0).2 b n)).set (8 + b.toNat) (0, addL (L.getD (8 + b.toNat) valD0).2 a n)) ds ∧ w.heap.size ≤ g) ∧ Below w.heap.size w w' := by
  have hmf : ∀ (fn : Fn) (first cap : Array Value) (w : World), (Instr.makeFunc fn first cap).run Tryz.prog w = .ok (.func fn first cap) w := fun _ _ _ _ => rfl
  have HW := fun w => writeOf_bind hs w
  have hm1 := method_bindKey k a b n
  have hm2 := method_bindOther k a b n
  have hm3 := method_bindRight k a b n
  have hm4 := method_bindDo k a b n
  have hm5 := method_bindBack k a b n
  have ha := hs.2.1
  have hb := hs.2.2.1
  have hsr := hid (bindR_of hs)
  clear hs
  have hlen := hid (okG_true hok).1
  have hRT := hid (okG_true hok).2.1
  have HG := fun (v : Value) (W : World) (hr : RdG W v L) => implGOk_is (c := true) hok v W hr
  clear hok
  have HR := hid h
  obtain ⟨ao, cap, hv, -⟩ := h
  subst hv
  go_enter Tryz.func8, Tryz.ntmps8
  go_wp2_with fail
  have x0_1 : (((w.alloc (.cells #[.slice ao L.length cap] 25)).alloc (.cells #[.int .i64 k, .int .i64 a, .int .i64 b, .int .i64 n] 27)).alloc (.cells #[.slice none 0 0] 25)).cell? ⟨w.heap.size, 0, none⟩ = some (.slice ao L.length cap) := by go_cell
  have xl_1 : w.heap.size < (((w.alloc (.cells #[.slice ao L.length cap] 25)).alloc (.cells #[.int .i64 k, .int .i64 a, .int .i64 b, .int .i64 n] 27)).alloc (.cells #[.slice none 0 0] 25)).heap.size := by first | (simp; done) | (simp; omega)
  have o0_1 : (((w.alloc (.cells #[.slice ao L.length cap] 25)).alloc (.cells #[.int .i64 k, .int .i64 a, .int .i64 b, .int .i64 n] 27)).alloc (.cells #[.slice none 0 0] 25)).cell? ⟨w.heap.size + 1, 0, none⟩ = some (.int .i64 k) := by go_cell
  have o1_1 : (((w.alloc (.cells #[.slice ao L.length cap] 25)).alloc (.cells #[.int .i64 k, .int .i64 a, .int .i64 b, .int .i64 n] 27)).alloc (.cells #[.slice none 0 0] 25)).cell? ⟨w.heap.size + 1, 1, none⟩ = some (.int .i64 a) := by go_cell
  have o2_1 : (((w.alloc (.cells #[.slice ao L.length cap] 25)).alloc (.cells #[.int .i64 k, .int .i64 a, .int .i64 b, .int .i64 n] 27)).alloc (.cells #[.slice none 0 0] 25)).cell? ⟨w.heap.size + 1, 2, none⟩ = some (.int .i64 b) := by go_cell
  have o3_1 : (((w.alloc (.cells #[.slice ao L.length cap] 25)).alloc (.cells #[.int .i64 k, .int .i64 a, .int .i64 b, .int .i64 n] 27)).alloc (.cells #[.slice none 0 0] 25)).cell? ⟨w.heap.size + 1, 3, none⟩ = some (.int .i64 n) := by go_cell
  have ol_1 : w.heap.size + 1 < (((w.alloc (.cells #[.slice ao L.length cap] 25)).alloc (.cells #[.int .i64 k, .int .i64 a, .int .i64 b, .int .i64 n] 27)).alloc (.cells #[.slice none 0 0] 25)).heap.size := by first | (simp; done) | (simp; omega)
  have r0_1 : (((w.alloc (.cells #[.slice ao L.length cap] 25)).alloc (.cells #[.int .i64 k, .int .i64 a, .int .i64 b, .int .i64 n] 27)).alloc (.cells #[.slice none 0 0] 25)).cell? ⟨w.heap.size + 1 + 1, 0, none⟩ = some (.slice none 0 0) := by go_cell
  have rf0_1 : (((w.alloc (.cells #[.slice ao L.length cap] 25)).alloc (.cells #[.int .i64 k, .int .i64 a, .int .i64 b, .int .i64 n] 27)).alloc (.cells #[.slice none 0 0] 25)).frozen? ⟨w.heap.size + 1 + 1, 0, none⟩ = false := by (first | go_cell | (simp [World.frozen?, World.alloc]; done) | rfl)
  have rl_1 : w.heap.size + 1 + 1 < (((w.alloc (.cells #[.slice ao L.length cap] 25)).alloc (.cells #[.int .i64 k, .int .i64 a, .int .i64 b, .int .i64 n] 27)).alloc (.cells #[.slice none 0 0] 25)).heap.size := by first | (simp; done) | (simp; omega)
  have c1 : Below w.heap.size w (((w.alloc (.cells #[.slice ao L.length cap] 25)).alloc (.cells #[.int .i64 k, .int .i64 a, .int .i64 b, .int .i64 n] 27)).alloc (.cells #[.slice none 0 0] 25)) := by go_grown
  have s1 : (((w.alloc (.cells #[.slice ao L.length cap] 25)).alloc (.cells #[.int .i64 k, .int .i64 a, .int .i64 b, .int .i64 n] 27)).alloc (.cells #[.slice none 0 0] 25)).heap.size = w.heap.size + 3 := by simp
  generalize (((w.alloc (.cells #[.slice ao L.length cap] 25)).alloc (.cells #[.int .i64 k, .int .i64 a, .int .i64 b, .int .i64 n] 27)).alloc (.cells #[.slice none 0 0] 25)) = w1 at x0_1 xl_1 o0_1 o1_1 o2_1 o3_1 ol_1 r0_1 rf0_1 rl_1 c1 s1 ⊢
  have qx0_1 := cell_regrown x0_1
  have qo0_1 := cell_regrown o0_1
  have qo1_1 := cell_regrown o1_1
  have qo2_1 := cell_regrown o2_1
  have qo3_1 := cell_regrown o3_1
  have qr0_1 := cell_regrown r0_1
  refine (HG _ _ (HR.out.later c1)).mono ?_
  rintro e w2 ⟨rfl, b2⟩
  have d2 : Below w1.heap.size w1 w2 := (Below.trans (by go_grown) (b2.mono (by first | omega | (simp; done) | (simp; omega))))
  have c2 : Below w.heap.size w w2 := c1.trans (d2.mono c1.size)
  have x0_2 : w2.cell? ⟨w.heap.size, 0, none⟩ = some (.slice ao L.length cap) := (by rw [b2.cell (by first | omega | (simp; done) | (simp; omega))]; go_cell)
  have xl_2 : w.heap.size < w2.heap.size := (by have := b2.size; first | omega | (revert this; simp; done) | (revert this; simp; omega))
  have o0_2 : w2.cell? ⟨w.heap.size + 1, 0, none⟩ = some (.int .i64 k) := (by rw [b2.cell (by first | omega | (simp; done) | (simp; omega))]; go_cell)
  have o1_2 : w2.cell? ⟨w.heap.size + 1, 1, none⟩ = some (.int .i64 a) := (by rw [b2.cell (by first | omega | (simp; done) | (simp; omega))]; go_cell)
  have o2_2 : w2.cell? ⟨w.heap.size + 1, 2, none⟩ = some (.int .i64 b) := (by rw [b2.cell (by first | omega | (simp; done) | (simp; omega))]; go_cell)
  have o3_2 : w2.cell? ⟨w.heap.size + 1, 3, none⟩ = some (.int .i64 n) := (by rw [b2.cell (by first | omega | (simp; done) | (simp; omega))]; go_cell)
  have ol_2 : w.heap.size + 1 < w2.heap.size := (by have := b2.size; first | omega | (revert this; simp; done) | (revert this; simp; omega))
  have r0_2 : w2.cell? ⟨w.heap.size + 1 + 1, 0, none⟩ = some (.slice none 0 0) := (by rw [b2.cell (by first | omega | (simp; done) | (simp; omega))]; go_cell)
  have rf0_2 : w2.frozen? ⟨w.heap.size + 1 + 1, 0, none⟩ = false := (by rw [b2.frozen (by first | omega | (simp; done) | (simp; omega))]; (first | go_cell | (simp [World.frozen?, World.alloc]; done) | rfl))
  have rl_2 : w.heap.size + 1 + 1 < w2.heap.size := (by have := b2.size; first | omega | (revert this; simp; done) | (revert this; simp; omega))
  clear x0_1 xl_1 o0_1 o1_1 o2_1 o3_1 ol_1 r0_1 rf0_1 rl_1
  clear b2 d2
  go_wp2_with fail
  refine (HW _).mono ?_
  rintro e w3 ⟨rfl, b3⟩
  have d3 : Below w2.heap.size w2 w3 := (Below.trans (by go_grown) (b3.mono (by first | omega | (simp; done) | (simp; omega))))
  have c3 : Below w.heap.size w w3 := c2.trans (d3.mono c2.size)
  have x0_3 : w3.cell? ⟨w.heap.size, 0, none⟩ = some (.slice ao L.length cap) := (by rw [b3.cell (by first | omega | (simp; done) | (simp; omega))]; go_cell)
  have xl_3 : w.heap.size < w3.heap.size := (by have := b3.size; first | omega | (revert this; simp; done) | (revert this; simp; omega))
  have r0_3 : w3.cell? ⟨w.heap.size + 1 + 1, 0, none⟩ = some (.slice none 0 0) := (by rw [b3.cell (by first | omega | (simp; done) | (simp; omega))]; go_cell)
  have rf0_3 : w3.frozen? ⟨w.heap.size + 1 + 1, 0, none⟩ = false := (by rw [b3.frozen (by first | omega | (simp; done) | (simp; omega))]; (first | go_cell | (simp [World.frozen?, World.alloc]; done) | rfl))
  have rl_3 : w.heap.size + 1 + 1 < w3.heap.size := (by have := b3.size; first | omega | (revert this; simp; done) | (revert this; simp; omega))
  clear x0_2 xl_2 r0_2 rf0_2 rl_2
  clear b3 d3
  go_wp2_with fail
  have hrB := rl_3
  refine (rowsApart_any _ L _ (HR.out.later c3) hlen.out (fun k hk => by have := okL_le (hRT.out.ok hk); omega)).mono ?_
  rintro e w4 ⟨ds, rfl, hO, b4⟩
  have d4 : Below w3.heap.size w3 w4 := (Below.trans (by go_grown) (b4.mono (by first | omega | (simp; done) | (simp; omega))))
  have c4 : Below w.heap.size w w4 := c3.trans (d4.mono c3.size)
  have r0_4 : w4.cell? ⟨w.heap.size + 1 + 1, 0, none⟩ = some (.slice none 0 0) := (by rw [b4.cell (by first | omega | (simp; done) | (simp; omega))]; go_cell)
  have rf0_4 : w4.frozen? ⟨w.heap.size + 1 + 1, 0, none⟩ = false := (by rw [b4.frozen (by first | omega | (simp; done) | (simp; omega))]; (first | go_cell | (simp [World.frozen?, World.alloc]; done) | rfl))
  have rl_4 : w.heap.size + 1 + 1 < w4.heap.size := (by have := b4.size; first | omega | (revert this; simp; done) | (revert this; simp; omega))
  clear r0_3 rf0_3 rl_3
  have hO4 := hid hO
  have hBg : w3.heap.size ≤ w4.heap.size := b4.size
  have hB0 : w.heap.size ≤ w3.heap.size := c3.size
  clear b4 d4 hO
  have hs := stS_row (w := w4.alloc (.cells zeroV 79)) (g := w4.heap.size) (cs := ds) (heap_alloc_new w4 _) (by simp [zeroV]) hO4.out.size hO4.out.one
  have hB5 := hid (BackN.start hO4.out)
  have d5 := below_setRow (B := w4.heap.size) ((Below.refl _ w4).alloc (Nat.le_refl _) (.cells zeroV 79)) (g := w4.heap.size) (Nat.le_refl _) ds
  go_upto_region 5 with fail
  clear hs
  generalize ((w4.alloc (.cells zeroV 79)).setRow w4.heap.size ds) = w5 at *
  have hrg : w.heap.size + 1 + 1 < w4.heap.size := rl_4
  have r0_5 := (d5.cell (p := ⟨w.heap.size + 1 + 1, 0, none⟩) hrg).trans r0_4
  have rf0_5 := (d5.frozen (p := ⟨w.heap.size + 1 + 1, 0, none⟩) hrg).trans rf0_4
  have c5 : Below w.heap.size w w5 := c4.trans (d5.mono c4.size)
  have rl_5 : w.heap.size + 1 + 1 < w5.heap.size := by have := d5.size; omega
  have hg0 : w.heap.size ≤ w4.heap.size := c4.size
  clear r0_4 rf0_4 rl_4 d5 hO4 c4 c3
  generalize w4.heap.size = g at *
  generalize w3.heap.size = B at *
  have hJ : 16 + a.toNat < 24 := by omega
  have hJe : ((16 + a.toNat : Nat) : Int) = 16 + a := by omega
  have CH := fun W ds hB hBw => change_bindDo k a b n B g (16 + a.toNat) L ds W hB hJ hBw (L.getD (16 + a.toNat) valD0) rfl (by have := okL_le (hRT.out.ok hJ); omega)
  rw [hJe] at CH
  have hI : 8 + b.toNat < 24 := by omega
  have hIe : ((8 + b.toNat : Nat) : Int) = 8 + b := by omega
  have CH2 := fun W ds hB hBw => change_bindBack k a b n B g (8 + b.toNat) (L.set (16 + a.toNat) (0, addL (L.getD (16 + a.toNat) valD0).2 b n)) ds W hB hI hBw (L.getD (8 + b.toNat) valD0) (by rw [getD_set (by rw [hlen.out]; exact hJ), if_neg (by omega)]) (by have := okL_le (hRT.out.ok hI); omega)
  rw [hIe] at CH2
  have hk0 := bondKey_any k a b n
  rw [keyOf_in (by omega) (by omega) ha.1 ha.2, show (2 : Int) * 8 + a = 16 + a from by omega] at hk0
  have ho0 := bondOther_any k a b n
  rw [keyOf_in (by omega) (by omega) hb.1 hb.2, show (1 : Int) * 8 + b = 8 + b from by omega] at ho0
  have hr0 := bindRight_any k a b n
  rw [hsr.out] at hr0
  go_region_with (first
    | (go_at_call 262; refine (hk0 _).mono ?_; rintro e w6 ⟨rfl, b6⟩; have d6 : Below w5.heap.size w5 w6 := (Below.trans (by go_grown) (b6.mono (by first | omega | (simp; done) | (simp; omega)))); have c6 : Below w.heap.size w w6 := c5.trans (d6.mono c5.size); have r0_6 : w6.cell? ⟨w.heap.size + 1 + 1, 0, none⟩ = some (.slice none 0 0) := (by rw [b6.cell (by first | omega | (simp; done) | (simp; omega))]; go_cell); have rf0_6 : w6.frozen? ⟨w.heap.size + 1 + 1, 0, none⟩ = false := (by rw [b6.frozen (by first | omega | (simp; done) | (simp; omega))]; (first | go_cell | (simp [World.frozen?, World.alloc]; done) | rfl)); have rl_6 : w.heap.size + 1 + 1 < w6.heap.size := (by have := b6.size; first | omega | (revert this; simp; done) | (revert this; simp; omega)); clear r0_5 rf0_5 rl_5; have hB6 := hid (hB5.out.later d6))
    | (go_at_call 36; refine (CH _ _ hB6.out (by have := hB6.out.lt; omega)).mono ?_; rintro e w7 ⟨rfl, ⟨ds7, hB7⟩, b7⟩))
  all_goals
    have HB7 := hid hB7
    have r0_7 := (b7.cell (p := ⟨w.heap.size + 1 + 1, 0, none⟩) hrg).trans r0_6
    have rf0_7 := (b7.frozen (p := ⟨w.heap.size + 1 + 1, 0, none⟩) hrg).trans rf0_6
    have c7 : Below w.heap.size w w7 := c6.trans (b7.mono hg0)
    have rl_7 : w.heap.size + 1 + 1 < w7.heap.size := Nat.lt_of_lt_of_le rl_6 b7.size
    clear hB7 b7 r0_6 rf0_6 rl_6 hB6 c6 b6 d6 c5 hB5
    go_upto_region 6 with fail
    go_region_with (first
      | (go_at_call 263; refine (ho0 _).mono ?_; rintro e w8 ⟨rfl, b8⟩; have d8 : Below w7.heap.size w7 w8 := (Below.trans (by go_grown) (b8.mono (by first | omega | (simp; done) | (simp; omega)))); have c8 : Below w.heap.size w w8 := c7.trans (d8.mono c7.size); have r0_8 : w8.cell? ⟨w.heap.size + 1 + 1, 0, none⟩ = some (.slice none 0 0) := (by rw [b8.cell (by first | omega | (simp; done) | (simp; omega))]; go_cell); have rf0_8 : w8.frozen? ⟨w.heap.size + 1 + 1, 0, none⟩ = false := (by rw [b8.frozen (by first | omega | (simp; done) | (simp; omega))]; (first | go_cell | (simp [World.frozen?, World.alloc]; done) | rfl)); have rl_8 : w.heap.size + 1 + 1 < w8.heap.size := (by have := b8.size; first | omega | (revert this; simp; done) | (revert this; simp; omega)); clear r0_7 rf0_7 rl_7; have hB8 := hid (HB7.out.later d8))
      | (go_at_call 36; refine (CH2 _ _ hB8.out (by have := hB8.out.lt; omega)).mono ?_; rintro e w9 ⟨rfl, ⟨ds9, hB9⟩, b9⟩; have HB9 := hid hB9; clear hB9))
    all_goals
      have r0_9 := (b9.cell (p := ⟨w.heap.size + 1 + 1, 0, none⟩) hrg).trans r0_8
      have rf0_9 := (b9.frozen (p := ⟨w.heap.size + 1 + 1, 0, none⟩) hrg).trans rf0_8
      have c9 : Below w.heap.size w w9 := c8.trans (b9.mono (by omega))
      have rl_9 : w.heap.size + 1 + 1 < w9.heap.size := Nat.lt_of_lt_of_le rl_8 b9.size
      clear b9 r0_8 rf0_8 rl_8 hB8 c8 b8 d8 c7 HB7
      go_upto_region 7 with fail
      go_region_with (first
        | (go_at_call 266; refine (hr0 _).mono ?_; rintro e w10 ⟨rfl, b10⟩; have d10 : Below w9.heap.size w9 w10 := (Below.trans (by go_grown) (b10.mono (by first | omega | (simp; done) | (simp; omega)))); have c10 : Below w.heap.size w w10 := c9.trans (d10.mono c9.size); have r0_10 : w10.cell? ⟨w.heap.size + 1 + 1, 0, none⟩ = some (.slice none 0 0) := (by rw [b10.cell (by first | omega | (simp; done) | (simp; omega))]; go_cell); have rf0_10 : w10.frozen? ⟨w.heap.size + 1 + 1, 0, none⟩ = false := (by rw [b10.frozen (by first | omega | (simp; done) | (simp; omega))]; (first | go_cell | (simp [World.frozen?, World.alloc]; done) | rfl)); have rl_10 : w.heap.size + 1 + 1 < w10.heap.size := (by have := b10.size; first | omega | (revert this; simp; done) | (revert this; simp; omega)); clear r0_9 rf0_9 rl_9; have hB10 := hid (HB9.out.later d10)))
      all_goals
        have hF := hid ((hB10.out.other (p := ⟨w.heap.size + 1 + 1, 0, none⟩) (by show w.heap.size + 1 + 1 < B; omega) (by show w.heap.size + 1 + 1 ≠ g; omega) (.slice (some ⟨g, 0, none⟩) 24 24)).mono hB0)
        have e0 : (w10.setCell ⟨w.heap.size + 1 + 1, 0, none⟩ (.slice (some ⟨g, 0, none⟩) 24 24)).cell? ⟨w.heap.size + 1 + 1, 0, none⟩ = some (.slice (some ⟨g, 0, none⟩) 24 24) := by go_cell
        have c11 := hid (c10.setCell (p := ⟨w.heap.size + 1 + 1, 0, none⟩) (by show w.heap.size ≤ w.heap.size + 1 + 1; omega) (.slice (some ⟨g, 0, none⟩) 24 24))
        go_wp2
        refine bodyPost_ret (v := .tuple #[.agg #[.slice (some ⟨g, 0, none⟩) 24 24], .bool true]) (by simp [results, Tryz.results8, go_sem, e0]) rfl ⟨⟨g, _, rfl, hF.out, hg0⟩, c11.out⟩

set_option maxRecDepth 100000 in
set_option maxHeartbeats 4000000 in
theorem implGDo_part (va : Value) (L : List ValD) (k a b n : Int) (w : World) (h : RdG w va L) (hok : okG L = true) (hs : partOk k a b n) :
    Calls Tryz.prog 8 #[.agg #[va], .agg #[.int .i64 k, .int .i64 a, .int .i64 b, .int .i64 n]] w fun e w' => (∃ g ds, e = .returned (.tuple #[.agg #[.slice (some ⟨g, 0, none⟩) 24 24], .bool true]) ∧ BackN w' w.heap.size g ((L.set (16 + a.toNat) (0, dropL (L.getD (16 + a.toNat) valD0).2 b)).set (8 + b.toNat) (0, dropL (L.getD (8 + b.toNat) valD0).2 a)) ds ∧ w.heap.size ≤ g) ∧ Below w.heap.size w w' := by
  have hmf : ∀ (fn : Fn) (first cap : Array Value) (w : World), (Instr.makeFunc fn first cap).run Tryz.prog w = .ok (.func fn first cap) w := fun _ _ _ _ => rfl
  have HW := fun w => writeOf_part hs w
  have hm1 := method_partKey k a b n
  have hm2 := method_partOther k a b n
  have hm3 := method_partRight k a b n
  have hm4 := method_partDo k a b n
  have hm5 := method_partBack k a b n
  have ha := hs.2.1
  have hb := hs.2.2.1
  have hsr := hid (partR_of hs)
  clear hs
  have hlen := hid (okG_true hok).1
  have hRT := hid (okG_true hok).2.1
  have HG := fun (v : Value) (W : World) (hr : RdG W v L) => implGOk_is (c := true) hok v W hr
  clear hok
  have HR := hid h
  obtain ⟨ao, cap, hv, -⟩ := h
  subst hv
  go_enter Tryz.func8, Tryz.ntmps8
  go_wp2_with fail
  have x0_1 : (((w.alloc (.cells #[.slice ao L.length cap] 25)).alloc (.cells #[.int .i64 k, .int .i64 a, .int .i64 b, .int .i64 n] 27)).alloc (.cells #[.slice none 0 0] 25)).cell? ⟨w.heap.size, 0, none⟩ = some (.slice ao L.length cap) := by go_cell
  have xl_1 : w.heap.size < (((w.alloc (.cells #[.slice ao L.length cap] 25)).alloc (.cells #[.int .i64 k, .int .i64 a, .int .i64 b, .int .i64 n] 27)).alloc (.cells #[.slice none 0 0] 25)).heap.size := by first | (simp; done) | (simp; omega)
  have o0_1 : (((w.alloc (.cells #[.slice ao L.length cap] 25)).alloc (.cells #[.int .i64 k, .int .i64 a, .int .i64 b, .int .i64 n] 27)).alloc (.cells #[.slice none 0 0] 25)).cell? ⟨w.heap.size + 1, 0, none⟩ = some (.int .i64 k) := by go_cell
  have o1_1 : (((w.alloc (.cells #[.slice ao L.length cap] 25)).alloc (.cells #[.int .i64 k, .int .i64 a, .int .i64 b, .int .i64 n] 27)).alloc (.cells #[.slice none 0 0] 25)).cell? ⟨w.heap.size + 1, 1, none⟩ = some (.int .i64 a) := by go_cell
  have o2_1 : (((w.alloc (.cells #[.slice ao L.length cap] 25)).alloc (.cells #[.int .i64 k, .int .i64 a, .int .i64 b, .int .i64 n] 27)).alloc (.cells #[.slice none 0 0] 25)).cell? ⟨w.heap.size + 1, 2, none⟩ = some (.int .i64 b) := by go_cell
  have o3_1 : (((w.alloc (.cells #[.slice ao L.length cap] 25)).alloc (.cells #[.int .i64 k, .int .i64 a, .int .i64 b, .int .i64 n] 27)).alloc (.cells #[.slice none 0 0] 25)).cell? ⟨w.heap.size + 1, 3, none⟩ = some (.int .i64 n) := by go_cell
  have ol_1 : w.heap.size + 1 < (((w.alloc (.cells #[.slice ao L.length cap] 25)).alloc (.cells #[.int .i64 k, .int .i64 a, .int .i64 b, .int .i64 n] 27)).alloc (.cells #[.slice none 0 0] 25)).heap.size := by first | (simp; done) | (simp; omega)
  have r0_1 : (((w.alloc (.cells #[.slice ao L.length cap] 25)).alloc (.cells #[.int .i64 k, .int .i64 a, .int .i64 b, .int .i64 n] 27)).alloc (.cells #[.slice none 0 0] 25)).cell? ⟨w.heap.size + 1 + 1, 0, none⟩ = some (.slice none 0 0) := by go_cell
  have rf0_1 : (((w.alloc (.cells #[.slice ao L.length cap] 25)).alloc (.cells #[.int .i64 k, .int .i64 a, .int .i64 b, .int .i64 n] 27)).alloc (.cells #[.slice none 0 0] 25)).frozen? ⟨w.heap.size + 1 + 1, 0, none⟩ = false := by (first | go_cell | (simp [World.frozen?, World.alloc]; done) | rfl)
  have rl_1 : w.heap.size + 1 + 1 < (((w.alloc (.cells #[.slice ao L.length cap] 25)).alloc (.cells #[.int .i64 k, .int .i64 a, .int .i64 b, .int .i64 n] 27)).alloc (.cells #[.slice none 0 0] 25)).heap.size := by first | (simp; done) | (simp; omega)
  have c1 : Below w.heap.size w (((w.alloc (.cells #[.slice ao L.length cap] 25)).alloc (.cells #[.int .i64 k, .int .i64 a, .int .i64 b, .int .i64 n] 27)).alloc (.cells #[.slice none 0 0] 25)) := by go_grown
  have s1 : (((w.alloc (.cells #[.slice ao L.length cap] 25)).alloc (.cells #[.int .i64 k, .int .i64 a, .int .i64 b, .int .i64 n] 27)).alloc (.cells #[.slice none 0 0] 25)).heap.size = w.heap.size + 3 := by simp
  generalize (((w.alloc (.cells #[.slice ao L.length cap] 25)).alloc (.cells #[.int .i64 k, .int .i64 a, .int .i64 b, .int .i64 n] 27)).alloc (.cells #[.slice none 0 0] 25)) = w1 at x0_1 xl_1 o0_1 o1_1 o2_1 o3_1 ol_1 r0_1 rf0_1 rl_1 c1 s1 ⊢
  have qx0_1 := cell_regrown x0_1
  have qo0_1 := cell_regrown o0_1
  have qo1_1 := cell_regrown o1_1
  have qo2_1 := cell_regrown o2_1
  have qo3_1 := cell_regrown o3_1
  have qr0_1 := cell_regrown r0_1
  refine (HG _ _ (HR.out.later c1)).mono ?_
  rintro e w2 ⟨rfl, b2⟩
  have d2 : Below w1.heap.size w1 w2 := (Below.trans (by go_grown) (b2.mono (by first | omega | (simp; done) | (simp; omega))))
  have c2 : Below w.heap.size w w2 := c1.trans (d2.mono c1.size)
  have x0_2 : w2.cell? ⟨w.heap.size, 0, none⟩ = some (.slice ao L.length cap) := (by rw [b2.cell (by first | omega | (simp; done) | (simp; omega))]; go_cell)
  have xl_2 : w.heap.size < w2.heap.size := (by have := b2.size; first | omega | (revert this; simp; done) | (revert this; simp; omega))
  have o0_2 : w2.cell? ⟨w.heap.size + 1, 0, none⟩ = some (.int .i64 k) := (by rw [b2.cell (by first | omega | (simp; done) | (simp; omega))]; go_cell)
  have o1_2 : w2.cell? ⟨w.heap.size + 1, 1, none⟩ = some (.int .i64 a) := (by rw [b2.cell (by first | omega | (simp; done) | (simp; omega))]; go_cell)
  have o2_2 : w2.cell? ⟨w.heap.size + 1, 2, none⟩ = some (.int .i64 b) := (by rw [b2.cell (by first | omega | (simp; done) | (simp; omega))]; go_cell)
  have o3_2 : w2.cell? ⟨w.heap.size + 1, 3, none⟩ = some (.int .i64 n) := (by rw [b2.cell (by first | omega | (simp; done) | (simp; omega))]; go_cell)
  have ol_2 : w.heap.size + 1 < w2.heap.size := (by have := b2.size; first | omega | (revert this; simp; done) | (revert this; simp; omega))
  have r0_2 : w2.cell? ⟨w.heap.size + 1 + 1, 0, none⟩ = some (.slice none 0 0) := (by rw [b2.cell (by first | omega | (simp; done) | (simp; omega))]; go_cell)
  have rf0_2 : w2.frozen? ⟨w.heap.size + 1 + 1, 0, none⟩ = false := (by rw [b2.frozen (by first | omega | (simp; done) | (simp; omega))]; (first | go_cell | (simp [World.frozen?, World.alloc]; done) | rfl))
  have rl_2 : w.heap.size + 1 + 1 < w2.heap.size := (by have := b2.size; first | omega | (revert this; simp; done) | (revert this; simp; omega))
  clear x0_1 xl_1 o0_1 o1_1 o2_1 o3_1 ol_1 r0_1 rf0_1 rl_1
  clear b2 d2
  go_wp2_with fail
  refine (HW _).mono ?_
  rintro e w3 ⟨rfl, b3⟩
  have d3 : Below w2.heap.size w2 w3 := (Below.trans (by go_grown) (b3.mono (by first | omega | (simp; done) | (simp; omega))))
  have c3 : Below w.heap.size w w3 := c2.trans (d3.mono c2.size)
  have x0_3 : w3.cell? ⟨w.heap.size, 0, none⟩ = some (.slice ao L.length cap) := (by rw [b3.cell (by first | omega | (simp; done) | (simp; omega))]; go_cell)
  have xl_3 : w.heap.size < w3.heap.size := (by have := b3.size; first | omega | (revert this; simp; done) | (revert this; simp; omega))
  have r0_3 : w3.cell? ⟨w.heap.size + 1 + 1, 0, none⟩ = some (.slice none 0 0) := (by rw [b3.cell (by first | omega | (simp; done) | (simp; omega))]; go_cell)
  have rf0_3 : w3.frozen? ⟨w.heap.size + 1 + 1, 0, none⟩ = false := (by rw [b3.frozen (by first | omega | (simp; done) | (simp; omega))]; (first | go_cell | (simp [World.frozen?, World.alloc]; done) | rfl))
  have rl_3 : w.heap.size + 1 + 1 < w3.heap.size := (by have := b3.size; first | omega | (revert this; simp; done) | (revert this; simp; omega))
  clear x0_2 xl_2 r0_2 rf0_2 rl_2
  clear b3 d3
  go_wp2_with fail
  have hrB := rl_3
  refine (rowsApart_any _ L _ (HR.out.later c3) hlen.out (fun k hk => by have := okL_le (hRT.out.ok hk); omega)).mono ?_
  rintro e w4 ⟨ds, rfl, hO, b4⟩
  have d4 : Below w3.heap.size w3 w4 := (Below.trans (by go_grown) (b4.mono (by first | omega | (simp; done) | (simp; omega))))
  have c4 : Below w.heap.size w w4 := c3.trans (d4.mono c3.size)
  have r0_4 : w4.cell? ⟨w.heap.size + 1 + 1, 0, none⟩ = some (.slice none 0 0) := (by rw [b4.cell (by first | omega | (simp; done) | (simp; omega))]; go_cell)
  have rf0_4 : w4.frozen? ⟨w.heap.size + 1 + 1, 0, none⟩ = false := (by rw [b4.frozen (by first | omega | (simp; done) | (simp; omega))]; (first | go_cell | (simp [World.frozen?, World.alloc]; done) | rfl))
  have rl_4 : w.heap.size + 1 + 1 < w4.heap.size := (by have := b4.size; first | omega | (revert this; simp; done) | (revert this; simp; omega))
  clear r0_3 rf0_3 rl_3
  have hO4 := hid hO
  have hBg : w3.heap.size ≤ w4.heap.size := b4.size
  have hB0 : w.heap.size ≤ w3.heap.size := c3.size
  clear b4 d4 hO
  have hs := stS_row (w := w4.alloc (.cells zeroV 79)) (g := w4.heap.size) (cs := ds) (heap_alloc_new w4 _) (by simp [zeroV]) hO4.out.size hO4.out.one
  have hB5 := hid (BackN.start hO4.out)
  have d5 := below_setRow (B := w4.heap.size) ((Below.refl _ w4).alloc (Nat.le_refl _) (.cells zeroV 79)) (g := w4.heap.size) (Nat.le_refl _) ds
  go_upto_region 5 with fail
  clear hs
  generalize ((w4.alloc (.cells zeroV 79)).setRow w4.heap.size ds) = w5 at *
  have hrg : w.heap.size + 1 + 1 < w4.heap.size := rl_4
  have r0_5 := (d5.cell (p := ⟨w.heap.size + 1 + 1, 0, none⟩) hrg).trans r0_4
  have rf0_5 := (d5.frozen (p := ⟨w.heap.size + 1 + 1, 0, none⟩) hrg).trans rf0_4
  have c5 : Below w.heap.size w w5 := c4.trans (d5.mono c4.size)
  have rl_5 : w.heap.size + 1 + 1 < w5.heap.size := by have := d5.size; omega
  have hg0 : w.heap.size ≤ w4.heap.size := c4.size
  clear r0_4 rf0_4 rl_4 d5 hO4 c4 c3
  generalize w4.heap.size = g at *
  generalize w3.heap.size = B at *
  have hJ : 16 + a.toNat < 24 := by omega
  have hJe : ((16 + a.toNat : Nat) : Int) = 16 + a := by omega
  have CH := fun W ds hB hBw => change_partDo k a b n B g (16 + a.toNat) L ds W hB hJ hBw (L.getD (16 + a.toNat) valD0) rfl (by have := okL_le (hRT.out.ok hJ); omega)
  rw [hJe] at CH
  have hI : 8 + b.toNat < 24 := by omega
  have hIe : ((8 + b.toNat : Nat) : Int) = 8 + b := by omega
  have CH2 := fun W ds hB hBw => change_partBack k a b n B g (8 + b.toNat) (L.set (16 + a.toNat) (0, dropL (L.getD (16 + a.toNat) valD0).2 b)) ds W hB hI hBw (L.getD (8 + b.toNat) valD0) (by rw [getD_set (by rw [hlen.out]; exact hJ), if_neg (by omega)]) (by have := okL_le (hRT.out.ok hI); omega)
  rw [hIe] at CH2
  have hk0 := bondKey_any k a b n
  rw [keyOf_in (by omega) (by omega) ha.1 ha.2, show (2 : Int) * 8 + a = 16 + a from by omega] at hk0
  have ho0 := bondOther_any k a b n
  rw [keyOf_in (by omega) (by omega) hb.1 hb.2, show (1 : Int) * 8 + b = 8 + b from by omega] at ho0
  have hr0 := partRight_any k a b n
  rw [hsr.out] at hr0
  go_region_with (first
    | (go_at_call 262; refine (hk0 _).mono ?_; rintro e w6 ⟨rfl, b6⟩; have d6 : Below w5.heap.size w5 w6 := (Below.trans (by go_grown) (b6.mono (by first | omega | (simp; done) | (simp; omega)))); have c6 : Below w.heap.size w w6 := c5.trans (d6.mono c5.size); have r0_6 : w6.cell? ⟨w.heap.size + 1 + 1, 0, none⟩ = some (.slice none 0 0) := (by rw [b6.cell (by first | omega | (simp; done) | (simp; omega))]; go_cell); have rf0_6 : w6.frozen? ⟨w.heap.size + 1 + 1, 0, none⟩ = false := (by rw [b6.frozen (by first | omega | (simp; done) | (simp; omega))]; (first | go_cell | (simp [World.frozen?, World.alloc]; done) | rfl)); have rl_6 : w.heap.size + 1 + 1 < w6.heap.size := (by have := b6.size; first | omega | (revert this; simp; done) | (revert this; simp; omega)); clear r0_5 rf0_5 rl_5; have hB6 := hid (hB5.out.later d6))
    | (go_at_call 36; refine (CH _ _ hB6.out (by have := hB6.out.lt; omega)).mono ?_; rintro e w7 ⟨rfl, ⟨ds7, hB7⟩, b7⟩))
  all_goals
    have HB7 := hid hB7
    have r0_7 := (b7.cell (p := ⟨w.heap.size + 1 + 1, 0, none⟩) hrg).trans r0_6
    have rf0_7 := (b7.frozen (p := ⟨w.heap.size + 1 + 1, 0, none⟩) hrg).trans rf0_6
    have c7 : Below w.heap.size w w7 := c6.trans (b7.mono hg0)
    have rl_7 : w.heap.size + 1 + 1 < w7.heap.size := Nat.lt_of_lt_of_le rl_6 b7.size
    clear hB7 b7 r0_6 rf0_6 rl_6 hB6 c6 b6 d6 c5 hB5
    go_upto_region 6 with fail
    go_region_with (first
      | (go_at_call 263; refine (ho0 _).mono ?_; rintro e w8 ⟨rfl, b8⟩; have d8 : Below w7.heap.size w7 w8 := (Below.trans (by go_grown) (b8.mono (by first | omega | (simp; done) | (simp; omega)))); have c8 : Below w.heap.size w w8 := c7.trans (d8.mono c7.size); have r0_8 : w8.cell? ⟨w.heap.size + 1 + 1, 0, none⟩ = some (.slice none 0 0) := (by rw [b8.cell (by first | omega | (simp; done) | (simp; omega))]; go_cell); have rf0_8 : w8.frozen? ⟨w.heap.size + 1 + 1, 0, none⟩ = false := (by rw [b8.frozen (by first | omega | (simp; done) | (simp; omega))]; (first | go_cell | (simp [World.frozen?, World.alloc]; done) | rfl)); have rl_8 : w.heap.size + 1 + 1 < w8.heap.size := (by have := b8.size; first | omega | (revert this; simp; done) | (revert this; simp; omega)); clear r0_7 rf0_7 rl_7; have hB8 := hid (HB7.out.later d8))
      | (go_at_call 36; refine (CH2 _ _ hB8.out (by have := hB8.out.lt; omega)).mono ?_; rintro e w9 ⟨rfl, ⟨ds9, hB9⟩, b9⟩; have HB9 := hid hB9; clear hB9))
    all_goals
      have r0_9 := (b9.cell (p := ⟨w.heap.size + 1 + 1, 0, none⟩) hrg).trans r0_8
      have rf0_9 := (b9.frozen (p := ⟨w.heap.size + 1 + 1, 0, none⟩) hrg).trans rf0_8
      have c9 : Below w.heap.size w w9 := c8.trans (b9.mono (by omega))
      have rl_9 : w.heap.size + 1 + 1 < w9.heap.size := Nat.lt_of_lt_of_le rl_8 b9.size
      clear b9 r0_8 rf0_8 rl_8 hB8 c8 b8 d8 c7 HB7
      go_upto_region 7 with fail
      go_region_with (first
        | (go_at_call 269; refine (hr0 _).mono ?_; rintro e w10 ⟨rfl, b10⟩; have d10 : Below w9.heap.size w9 w10 := (Below.trans (by go_grown) (b10.mono (by first | omega | (simp; done) | (simp; omega)))); have c10 : Below w.heap.size w w10 := c9.trans (d10.mono c9.size); have r0_10 : w10.cell? ⟨w.heap.size + 1 + 1, 0, none⟩ = some (.slice none 0 0) := (by rw [b10.cell (by first | omega | (simp; done) | (simp; omega))]; go_cell); have rf0_10 : w10.frozen? ⟨w.heap.size + 1 + 1, 0, none⟩ = false := (by rw [b10.frozen (by first | omega | (simp; done) | (simp; omega))]; (first | go_cell | (simp [World.frozen?, World.alloc]; done) | rfl)); have rl_10 : w.heap.size + 1 + 1 < w10.heap.size := (by have := b10.size; first | omega | (revert this; simp; done) | (revert this; simp; omega)); clear r0_9 rf0_9 rl_9; have hB10 := hid (HB9.out.later d10)))
      all_goals
        have hF := hid ((hB10.out.other (p := ⟨w.heap.size + 1 + 1, 0, none⟩) (by show w.heap.size + 1 + 1 < B; omega) (by show w.heap.size + 1 + 1 ≠ g; omega) (.slice (some ⟨g, 0, none⟩) 24 24)).mono hB0)
        have e0 : (w10.setCell ⟨w.heap.size + 1 + 1, 0, none⟩ (.slice (some ⟨g, 0, none⟩) 24 24)).cell? ⟨w.heap.size + 1 + 1, 0, none⟩ = some (.slice (some ⟨g, 0, none⟩) 24 24) := by go_cell
        have c11 := hid (c10.setCell (p := ⟨w.heap.size + 1 + 1, 0, none⟩) (by show w.heap.size ≤ w.heap.size + 1 + 1; omega) (.slice (some ⟨g, 0, none⟩) 24 24))
        go_wp2
        refine bodyPost_ret (v := .tuple #[.agg #[.slice (some ⟨g, 0, none⟩) 24 24], .bool true]) (by simp [results, Tryz.results8, go_sem, e0]) rfl ⟨⟨g, _, rfl, hF.out, hg0⟩, c11.out⟩
end Go.Proofs.YtkmhnjgncnoddaaGreat

/- Part: impl.GraphDo of what is no write, and of any: contracts. -/
namespace Go.Proofs.YtkmhnjgncnoddaaGreat
open Go.RowKit
attribute [local go_sem ↓] Go.wp_at_zero Go.wp_at_succ
attribute [local go_sem ↓] ldS_open stS_open ixS_open zeroR

set_option maxRecDepth 100000 in
set_option maxHeartbeats 4000000 in
theorem implGDo_no (va : Value) (L : List ValD) (k a b n : Int) (w : World) (h : RdG w va L) (hok : okG L = true) (h1 : ¬ setOk k a b n) (h2 : ¬ bindOk k a b n) (h3 : ¬ partOk k a b n) :
    Calls Tryz.prog 8 #[.agg #[va], .agg #[.int .i64 k, .int .i64 a, .int .i64 b, .int .i64 n]] w fun e w' => (∃ g ds, e = .returned (.tuple #[.agg #[.slice (some ⟨g, 0, none⟩) 24 24], .bool false]) ∧ BackN w' w.heap.size g (L) ds ∧ w.heap.size ≤ g) ∧ Below w.heap.size w w' := by
  have hmf : ∀ (fn : Fn) (first cap : Array Value) (w : World), (Instr.makeFunc fn first cap).run Tryz.prog w = .ok (.func fn first cap) w := fun _ _ _ _ => rfl
  have HW := fun w => writeOf_no h1 h2 h3 w
  have hm1 := method_noKey
  have hm2 := method_noOther
  have hm3 := method_noRight
  clear h1 h2 h3
  have hlen := hid (okG_true hok).1
  have hRT := hid (okG_true hok).2.1
  have HG := fun (v : Value) (W : World) (hr : RdG W v L) => implGOk_is (c := true) hok v W hr
  clear hok
  have HR := hid h
  obtain ⟨ao, cap, hv, -⟩ := h
  subst hv
  go_enter Tryz.func8, Tryz.ntmps8
  go_wp2_with fail
  have x0_1 : (((w.alloc (.cells #[.slice ao L.length cap] 25)).alloc (.cells #[.int .i64 k, .int .i64 a, .int .i64 b, .int .i64 n] 27)).alloc (.cells #[.slice none 0 0] 25)).cell? ⟨w.heap.size, 0, none⟩ = some (.slice ao L.length cap) := by go_cell
  have xl_1 : w.heap.size < (((w.alloc (.cells #[.slice ao L.length cap] 25)).alloc (.cells #[.int .i64 k, .int .i64 a, .int .i64 b, .int .i64 n] 27)).alloc (.cells #[.slice none 0 0] 25)).heap.size := by first | (simp; done) | (simp; omega)
  have o0_1 : (((w.alloc (.cells #[.slice ao L.length cap] 25)).alloc (.cells #[.int .i64 k, .int .i64 a, .int .i64 b, .int .i64 n] 27)).alloc (.cells #[.slice none 0 0] 25)).cell? ⟨w.heap.size + 1, 0, none⟩ = some (.int .i64 k) := by go_cell
  have o1_1 : (((w.alloc (.cells #[.slice ao L.length cap] 25)).alloc (.cells #[.int .i64 k, .int .i64 a, .int .i64 b, .int .i64 n] 27)).alloc (.cells #[.slice none 0 0] 25)).cell? ⟨w.heap.size + 1, 1, none⟩ = some (.int .i64 a) := by go_cell
  have o2_1 : (((w.alloc (.cells #[.slice ao L.length cap] 25)).alloc (.cells #[.int .i64 k, .int .i64 a, .int .i64 b, .int .i64 n] 27)).alloc (.cells #[.slice none 0 0] 25)).cell? ⟨w.heap.size + 1, 2, none⟩ = some (.int .i64 b) := by go_cell
  have o3_1 : (((w.alloc (.cells #[.slice ao L.length cap] 25)).alloc (.cells #[.int .i64 k, .int .i64 a, .int .i64 b, .int .i64 n] 27)).alloc (.cells #[.slice none 0 0] 25)).cell? ⟨w.heap.size + 1, 3, none⟩ = some (.int .i64 n) := by go_cell
  have ol_1 : w.heap.size + 1 < (((w.alloc (.cells #[.slice ao L.length cap] 25)).alloc (.cells #[.int .i64 k, .int .i64 a, .int .i64 b, .int .i64 n] 27)).alloc (.cells #[.slice none 0 0] 25)).heap.size := by first | (simp; done) | (simp; omega)
  have r0_1 : (((w.alloc (.cells #[.slice ao L.length cap] 25)).alloc (.cells #[.int .i64 k, .int .i64 a, .int .i64 b, .int .i64 n] 27)).alloc (.cells #[.slice none 0 0] 25)).cell? ⟨w.heap.size + 1 + 1, 0, none⟩ = some (.slice none 0 0) := by go_cell
  have rf0_1 : (((w.alloc (.cells #[.slice ao L.length cap] 25)).alloc (.cells #[.int .i64 k, .int .i64 a, .int .i64 b, .int .i64 n] 27)).alloc (.cells #[.slice none 0 0] 25)).frozen? ⟨w.heap.size + 1 + 1, 0, none⟩ = false := by (first | go_cell | (simp [World.frozen?, World.alloc]; done) | rfl)
  have rl_1 : w.heap.size + 1 + 1 < (((w.alloc (.cells #[.slice ao L.length cap] 25)).alloc (.cells #[.int .i64 k, .int .i64 a, .int .i64 b, .int .i64 n] 27)).alloc (.cells #[.slice none 0 0] 25)).heap.size := by first | (simp; done) | (simp; omega)
  have c1 : Below w.heap.size w (((w.alloc (.cells #[.slice ao L.length cap] 25)).alloc (.cells #[.int .i64 k, .int .i64 a, .int .i64 b, .int .i64 n] 27)).alloc (.cells #[.slice none 0 0] 25)) := by go_grown
  have s1 : (((w.alloc (.cells #[.slice ao L.length cap] 25)).alloc (.cells #[.int .i64 k, .int .i64 a, .int .i64 b, .int .i64 n] 27)).alloc (.cells #[.slice none 0 0] 25)).heap.size = w.heap.size + 3 := by simp
  generalize (((w.alloc (.cells #[.slice ao L.length cap] 25)).alloc (.cells #[.int .i64 k, .int .i64 a, .int .i64 b, .int .i64 n] 27)).alloc (.cells #[.slice none 0 0] 25)) = w1 at x0_1 xl_1 o0_1 o1_1 o2_1 o3_1 ol_1 r0_1 rf0_1 rl_1 c1 s1 ⊢
  have qx0_1 := cell_regrown x0_1
  have qo0_1 := cell_regrown o0_1
  have qo1_1 := cell_regrown o1_1
  have qo2_1 := cell_regrown o2_1
  have qo3_1 := cell_regrown o3_1
  have qr0_1 := cell_regrown r0_1
  refine (HG _ _ (HR.out.later c1)).mono ?_
  rintro e w2 ⟨rfl, b2⟩
  have d2 : Below w1.heap.size w1 w2 := (Below.trans (by go_grown) (b2.mono (by first | omega | (simp; done) | (simp; omega))))
  have c2 : Below w.heap.size w w2 := c1.trans (d2.mono c1.size)
  have x0_2 : w2.cell? ⟨w.heap.size, 0, none⟩ = some (.slice ao L.length cap) := (by rw [b2.cell (by first | omega | (simp; done) | (simp; omega))]; go_cell)
  have xl_2 : w.heap.size < w2.heap.size := (by have := b2.size; first | omega | (revert this; simp; done) | (revert this; simp; omega))
  have o0_2 : w2.cell? ⟨w.heap.size + 1, 0, none⟩ = some (.int .i64 k) := (by rw [b2.cell (by first | omega | (simp; done) | (simp; omega))]; go_cell)
  have o1_2 : w2.cell? ⟨w.heap.size + 1, 1, none⟩ = some (.int .i64 a) := (by rw [b2.cell (by first | omega | (simp; done) | (simp; omega))]; go_cell)
  have o2_2 : w2.cell? ⟨w.heap.size + 1, 2, none⟩ = some (.int .i64 b) := (by rw [b2.cell (by first | omega | (simp; done) | (simp; omega))]; go_cell)
  have o3_2 : w2.cell? ⟨w.heap.size + 1, 3, none⟩ = some (.int .i64 n) := (by rw [b2.cell (by first | omega | (simp; done) | (simp; omega))]; go_cell)
  have ol_2 : w.heap.size + 1 < w2.heap.size := (by have := b2.size; first | omega | (revert this; simp; done) | (revert this; simp; omega))
  have r0_2 : w2.cell? ⟨w.heap.size + 1 + 1, 0, none⟩ = some (.slice none 0 0) := (by rw [b2.cell (by first | omega | (simp; done) | (simp; omega))]; go_cell)
  have rf0_2 : w2.frozen? ⟨w.heap.size + 1 + 1, 0, none⟩ = false := (by rw [b2.frozen (by first | omega | (simp; done) | (simp; omega))]; (first | go_cell | (simp [World.frozen?, World.alloc]; done) | rfl))
  have rl_2 : w.heap.size + 1 + 1 < w2.heap.size := (by have := b2.size; first | omega | (revert this; simp; done) | (revert this; simp; omega))
  clear x0_1 xl_1 o0_1 o1_1 o2_1 o3_1 ol_1 r0_1 rf0_1 rl_1
  clear b2 d2
  go_wp2_with fail
  refine (HW _).mono ?_
  rintro e w3 ⟨rfl, b3⟩
  have d3 : Below w2.heap.size w2 w3 := (Below.trans (by go_grown) (b3.mono (by first | omega | (simp; done) | (simp; omega))))
  have c3 : Below w.heap.size w w3 := c2.trans (d3.mono c2.size)
  have x0_3 : w3.cell? ⟨w.heap.size, 0, none⟩ = some (.slice ao L.length cap) := (by rw [b3.cell (by first | omega | (simp; done) | (simp; omega))]; go_cell)
  have xl_3 : w.heap.size < w3.heap.size := (by have := b3.size; first | omega | (revert this; simp; done) | (revert this; simp; omega))
  have r0_3 : w3.cell? ⟨w.heap.size + 1 + 1, 0, none⟩ = some (.slice none 0 0) := (by rw [b3.cell (by first | omega | (simp; done) | (simp; omega))]; go_cell)
  have rf0_3 : w3.frozen? ⟨w.heap.size + 1 + 1, 0, none⟩ = false := (by rw [b3.frozen (by first | omega | (simp; done) | (simp; omega))]; (first | go_cell | (simp [World.frozen?, World.alloc]; done) | rfl))
  have rl_3 : w.heap.size + 1 + 1 < w3.heap.size := (by have := b3.size; first | omega | (revert this; simp; done) | (revert this; simp; omega))
  clear x0_2 xl_2 r0_2 rf0_2 rl_2
  clear b3 d3
  go_wp2_with fail
  have hrB := rl_3
  refine (rowsApart_any _ L _ (HR.out.later c3) hlen.out (fun k hk => by have := okL_le (hRT.out.ok hk); omega)).mono ?_
  rintro e w4 ⟨ds, rfl, hO, b4⟩
  have d4 : Below w3.heap.size w3 w4 := (Below.trans (by go_grown) (b4.mono (by first | omega | (simp; done) | (simp; omega))))
  have c4 : Below w.heap.size w w4 := c3.trans (d4.mono c3.size)
  have r0_4 : w4.cell? ⟨w.heap.size + 1 + 1, 0, none⟩ = some (.slice none 0 0) := (by rw [b4.cell (by first | omega | (simp; done) | (simp; omega))]; go_cell)
  have rf0_4 : w4.frozen? ⟨w.heap.size + 1 + 1, 0, none⟩ = false := (by rw [b4.frozen (by first | omega | (simp; done) | (simp; omega))]; (first | go_cell | (simp [World.frozen?, World.alloc]; done) | rfl))
  have rl_4 : w.heap.size + 1 + 1 < w4.heap.size := (by have := b4.size; first | omega | (revert this; simp; done) | (revert this; simp; omega))
  clear r0_3 rf0_3 rl_3
  have hO4 := hid hO
  have hBg : w3.heap.size ≤ w4.heap.size := b4.size
  have hB0 : w.heap.size ≤ w3.heap.size := c3.size
  clear b4 d4 hO
  have hs := stS_row (w := w4.alloc (.cells zeroV 79)) (g := w4.heap.size) (cs := ds) (heap_alloc_new w4 _) (by simp [zeroV]) hO4.out.size hO4.out.one
  have hB5 := hid (BackN.start hO4.out)
  have d5 := below_setRow (B := w4.heap.size) ((Below.refl _ w4).alloc (Nat.le_refl _) (.cells zeroV 79)) (g := w4.heap.size) (Nat.le_refl _) ds
  go_upto_region 5 with fail
  clear hs
  generalize ((w4.alloc (.cells zeroV 79)).setRow w4.heap.size ds) = w5 at *
  have hrg : w.heap.size + 1 + 1 < w4.heap.size := rl_4
  have r0_5 := (d5.cell (p := ⟨w.heap.size + 1 + 1, 0, none⟩) hrg).trans r0_4
  have rf0_5 := (d5.frozen (p := ⟨w.heap.size + 1 + 1, 0, none⟩) hrg).trans rf0_4
  have c5 : Below w.heap.size w w5 := c4.trans (d5.mono c4.size)
  have rl_5 : w.heap.size + 1 + 1 < w5.heap.size := by have := d5.size; omega
  have hg0 : w.heap.size ≤ w4.heap.size := c4.size
  clear r0_4 rf0_4 rl_4 d5 hO4 c4 c3
  generalize w4.heap.size = g at *
  generalize w3.heap.size = B at *
  go_region_with (first
    | (go_at_call 253; refine (noKey_any _).mono ?_; rintro e w6 ⟨rfl, b6⟩; have d6 : Below w5.heap.size w5 w6 := (Below.trans (by go_grown) (b6.mono (by first | omega | (simp; done) | (simp; omega)))); have c6 : Below w.heap.size w w6 := c5.trans (d6.mono c5.size); have r0_6 : w6.cell? ⟨w.heap.size + 1 + 1, 0, none⟩ = some (.slice none 0 0) := (by rw [b6.cell (by first | omega | (simp; done) | (simp; omega))]; go_cell); have rf0_6 : w6.frozen? ⟨w.heap.size + 1 + 1, 0, none⟩ = false := (by rw [b6.frozen (by first | omega | (simp; done) | (simp; omega))]; (first | go_cell | (simp [World.frozen?, World.alloc]; done) | rfl)); have rl_6 : w.heap.size + 1 + 1 < w6.heap.size := (by have := b6.size; first | omega | (revert this; simp; done) | (revert this; simp; omega)); clear r0_5 rf0_5 rl_5; have hB6 := hid (hB5.out.later d6))
    | (go_at_call 36; refine (change_no _ g (-1) _ (by omega)).mono ?_; rintro e w7 ⟨rfl, b7⟩; have hB7 := hid (hB6.out.later b7)))
  all_goals
    have HB7 := hB7
    have r0_7 := (b7.cell (p := ⟨w.heap.size + 1 + 1, 0, none⟩) rl_6).trans r0_6
    have rf0_7 := (b7.frozen (p := ⟨w.heap.size + 1 + 1, 0, none⟩) rl_6).trans rf0_6
    have c7 : Below w.heap.size w w7 := c6.trans (b7.mono (by omega))
    have rl_7 : w.heap.size + 1 + 1 < w7.heap.size := Nat.lt_of_lt_of_le rl_6 b7.size
    clear hB7 b7 r0_6 rf0_6 rl_6 hB6 c6 b6 d6 c5 hB5
    go_upto_region 6 with fail
    go_region_with (first
      | (go_at_call 254; refine (noOther_any _).mono ?_; rintro e w8 ⟨rfl, b8⟩; have d8 : Below w7.heap.size w7 w8 := (Below.trans (by go_grown) (b8.mono (by first | omega | (simp; done) | (simp; omega)))); have c8 : Below w.heap.size w w8 := c7.trans (d8.mono c7.size); have r0_8 : w8.cell? ⟨w.heap.size + 1 + 1, 0, none⟩ = some (.slice none 0 0) := (by rw [b8.cell (by first | omega | (simp; done) | (simp; omega))]; go_cell); have rf0_8 : w8.frozen? ⟨w.heap.size + 1 + 1, 0, none⟩ = false := (by rw [b8.frozen (by first | omega | (simp; done) | (simp; omega))]; (first | go_cell | (simp [World.frozen?, World.alloc]; done) | rfl)); have rl_8 : w.heap.size + 1 + 1 < w8.heap.size := (by have := b8.size; first | omega | (revert this; simp; done) | (revert this; simp; omega)); clear r0_7 rf0_7 rl_7; have hB8 := hid (HB7.out.later d8))
      | (go_at_call 36; refine (change_no _ g (-1) _ (by omega)).mono ?_; rintro e w9 ⟨rfl, b9⟩; have HB9 := hid (hB8.out.later b9)))
    all_goals
      have r0_9 := (b9.cell (p := ⟨w.heap.size + 1 + 1, 0, none⟩) rl_8).trans r0_8
      have rf0_9 := (b9.frozen (p := ⟨w.heap.size + 1 + 1, 0, none⟩) rl_8).trans rf0_8
      have c9 : Below w.heap.size w w9 := c8.trans (b9.mono (by omega))
      have rl_9 : w.heap.size + 1 + 1 < w9.heap.size := Nat.lt_of_lt_of_le rl_8 b9.size
      clear b9 r0_8 rf0_8 rl_8 hB8 c8 b8 d8 c7 HB7
      go_upto_region 7 with fail
      go_region_with (first
        | (go_at_call 255; refine (noRight_any _).mono ?_; rintro e w10 ⟨rfl, b10⟩; have d10 : Below w9.heap.size w9 w10 := (Below.trans (by go_grown) (b10.mono (by first | omega | (simp; done) | (simp; omega)))); have c10 : Below w.heap.size w w10 := c9.trans (d10.mono c9.size); have r0_10 : w10.cell? ⟨w.heap.size + 1 + 1, 0, none⟩ = some (.slice none 0 0) := (by rw [b10.cell (by first | omega | (simp; done) | (simp; omega))]; go_cell); have rf0_10 : w10.frozen? ⟨w.heap.size + 1 + 1, 0, none⟩ = false := (by rw [b10.frozen (by first | omega | (simp; done) | (simp; omega))]; (first | go_cell | (simp [World.frozen?, World.alloc]; done) | rfl)); have rl_10 : w.heap.size + 1 + 1 < w10.heap.size := (by have := b10.size; first | omega | (revert this; simp; done) | (revert this; simp; omega)); clear r0_9 rf0_9 rl_9; have hB10 := hid (HB9.out.later d10)))
      all_goals
        have hF := hid ((hB10.out.other (p := ⟨w.heap.size + 1 + 1, 0, none⟩) (by show w.heap.size + 1 + 1 < B; omega) (by show w.heap.size + 1 + 1 ≠ g; omega) (.slice (some ⟨g, 0, none⟩) 24 24)).mono hB0)
        have e0 : (w10.setCell ⟨w.heap.size + 1 + 1, 0, none⟩ (.slice (some ⟨g, 0, none⟩) 24 24)).cell? ⟨w.heap.size + 1 + 1, 0, none⟩ = some (.slice (some ⟨g, 0, none⟩) 24 24) := by go_cell
        have c11 := hid (c10.setCell (p := ⟨w.heap.size + 1 + 1, 0, none⟩) (by show w.heap.size ≤ w.heap.size + 1 + 1; omega) (.slice (some ⟨g, 0, none⟩) 24 24))
        go_wp2
        refine bodyPost_ret (v := .tuple #[.agg #[.slice (some ⟨g, 0, none⟩) 24 24], .bool false]) (by simp [results, Tryz.results8, go_sem, e0]) rfl ⟨⟨g, _, rfl, hF.out, hg0⟩, c11.out⟩

/-- impl.GraphDo of a graph that is ok. -/
theorem implGDo_any (va : Value) (L : List ValD) (k a b n : Int) (w : World) (h : RdG w va L) (hok : okG L = true) :
    Calls Tryz.prog 8 #[.agg #[va], .agg #[.int .i64 k, .int .i64 a, .int .i64 b, .int .i64 n]] w fun e w' => (∃ g ds, e = .returned (.tuple #[.agg #[.slice (some ⟨g, 0, none⟩) 24 24], .bool (opOk k a b n)]) ∧ BackN w' w.heap.size g (doG L k a b n) ds ∧ w.heap.size ≤ g) ∧ Below w.heap.size w w' := by
  rcases op_ways k a b n with ⟨hs, e, _⟩ | ⟨hs, e, _⟩ | ⟨hs, e, _⟩ | ⟨h1, h2, h3, e, _⟩
  · rw [e, doG, if_pos hs]
    exact implGDo_set va L k a b n w h hok hs
  · have h1 : ¬ setOk k a b n := fun h => by have := h.1; have := hs.1; omega
    rw [e, doG, if_neg h1, if_pos hs]
    exact implGDo_bind va L k a b n w h hok hs
  · have h1 : ¬ setOk k a b n := fun h => by have := h.1; have := hs.1; omega
    have h2 : ¬ bindOk k a b n := fun h => by have := h.1; have := hs.1; omega
    rw [e, doG, if_neg h1, if_neg h2, if_pos hs]
    exact implGDo_part va L k a b n w h hok hs
  · rw [e, doG, if_neg h1, if_neg h2, if_neg h3]
    exact implGDo_no va L k a b n w h hok h1 h2 h3
end Go.Proofs.YtkmhnjgncnoddaaGreat

/- Part: Plain: two edges put into a list that is ok, in either order; what a list is without the one who was put in. -/
namespace Go.Proofs.YtkmhnjgncnoddaaGreat

/-- l with (who, at'). -/
def putL (l : List (Int × Int)) (who at' : Int) : List (Int × Int) := insL (l.filter (notWho who)) (who, at')
theorem addL_yes {l : List (Int × Int)} {who at' : Int} (h : addB l who at' = true) : addL l who at' = putL l who at' := by
  unfold addL; rw [if_pos h]; rfl
theorem addL_no {l : List (Int × Int)} {who at' : Int} (h : addB l who at' = false) : addL l who at' = [] := by
  unfold addL; rw [if_neg (by rw [h]; decide)]
theorem addB_iff {l : List (Int × Int)} {who at' : Int} : addB l who at' = true ↔ okL l = true ∧ rightB (who, at') = true := by
  simp [addB]
theorem mem_put {l : List (Int × Int)} {who at' : Int} {x : Int × Int} : x ∈ putL l who at' ↔ x = (who, at') ∨ (x ∈ l ∧ x.1 ≠ who) := by
  unfold putL; rw [mem_insL, mem_filter_notWho]
theorem okL_put {l : List (Int × Int)} {who at' : Int} (h : okL l = true) (he : rightB (who, at') = true) : okL (putL l who at') = true := okL_add h he
theorem put_put_ne {l : List (Int × Int)} {who at' other when' : Int} (h : okL l = true) (he : rightB (who, at') = true) (hf : rightB (other, when') = true) (hne : who ≠ other) :
    putL (putL l who at') other when' = putL (putL l other when') who at' := by
  refine okL_ext (okL_put (okL_put h he) hf) (okL_put (okL_put h hf) he) fun x => ?_
  rw [mem_put, mem_put, mem_put, mem_put]
  constructor
  · rintro (rfl | ⟨rfl | ⟨hx, h1⟩, h2⟩)
    · exact .inr ⟨.inl rfl, fun e => hne e.symm⟩
    · exact .inl rfl
    · exact .inr ⟨.inr ⟨hx, h2⟩, h1⟩
  · rintro (rfl | ⟨rfl | ⟨hx, h1⟩, h2⟩)
    · exact .inr ⟨.inl rfl, hne⟩
    · exact .inl rfl
    · exact .inr ⟨.inr ⟨hx, h2⟩, h1⟩
theorem put_put_eq {l : List (Int × Int)} {who at' when' : Int} (h : okL l = true) (he : rightB (who, at') = true) (hf : rightB (who, when') = true) :
    putL (putL l who at') who when' = putL l who when' := by
  refine okL_ext (okL_put (okL_put h he) hf) (okL_put h hf) fun x => ?_
  rw [mem_put, mem_put, mem_put]
  constructor
  · rintro (rfl | ⟨rfl | ⟨hx, h1⟩, h2⟩)
    · exact .inl rfl
    · exact absurd rfl h2
    · exact .inr ⟨hx, h2⟩
  · rintro (rfl | ⟨hx, h1⟩)
    · exact .inl rfl
    · exact .inr ⟨.inr ⟨hx, h1⟩, h1⟩
theorem put_drop {l : List (Int × Int)} {who at' : Int} (h : okL l = true) (he : rightB (who, at') = true) : (putL l who at').filter (notWho who) = l.filter (notWho who) := by
  refine okL_ext (okL_filter _ _ (okL_put h he)) (okL_filter _ _ h) fun x => ?_
  rw [mem_filter_notWho, mem_filter_notWho, mem_put]
  constructor
  · rintro ⟨rfl | ⟨hx, _⟩, h2⟩
    · exact absurd rfl h2
    · exact ⟨hx, h2⟩
  · rintro ⟨hx, h2⟩
    exact ⟨.inr ⟨hx, h2⟩, h2⟩
theorem put_has {l : List (Int × Int)} {who at' : Int} (h : okL l = true) (he : rightB (who, at') = true) : hasL (putL l who at') who = (at', true) :=
  hasL_of_mem (okL_put h he) (mem_put.2 (.inl rfl))
theorem put_other {l : List (Int × Int)} {who at' i : Int} (h : okL l = true) (he : rightB (who, at') = true) (hi : i ≠ who) : hasL (putL l who at') i = hasL l i := by
  cases hh : (hasL l i).2 with
  | true =>
    have hm := hasL_mem hh
    have := hasL_of_mem (okL_put (at' := at') h he) (mem_put.2 (.inr ⟨hm, hi⟩))
    have h2 := hasL_of_mem h hm
    rw [this, h2]
  | false =>
    have hn := hasL_none hh
    rw [hasL_fst hh]
    cases hp : (hasL (putL l who at') i).2 with
    | true =>
      rcases mem_put.1 (hasL_mem hp) with e | ⟨hm, _⟩
      · exact absurd (congrArg Prod.fst e) hi
      · exact absurd rfl (hn _ hm)
    | false => exact hasL_fst hp
theorem put_length {l : List (Int × Int)} {who at' : Int} (h : okL l = true) : (putL l who at').length = if (hasL l who).2 = true then l.length else l.length + 1 := by
  unfold putL
  rw [insL_length]
  cases hh : (hasL l who).2 with
  | true => have := filter_one h hh; simp; omega
  | false => simp [filter_none (hasL_none hh)]
end Go.Proofs.YtkmhnjgncnoddaaGreat

/- Part: A graph that is ok, behind a write: plain facts. -/
namespace Go.Proofs.YtkmhnjgncnoddaaGreat
open Go.RowKit

/-- Each bond is told by both of its ends, as what is in the rows. -/
def Both (L : List ValD) : Prop := ∀ a b : Nat, a < 8 → b < 8 → ∀ t : Int, ((b : Int), t) ∈ (L.getD (16 + a) valD0).2 ↔ ((a : Int), t) ∈ (L.getD (8 + b) valD0).2
theorem okG_iff {L : List ValD} : okG L = true ↔ L.length = 24 ∧ RightTo L 24 ∧ Both L := by
  constructor
  · intro h
    obtain ⟨hl, hR, h1, h2⟩ := okG_true h
    rw [ends_mem hR (by omega) (by omega)] at h1 h2
    refine ⟨hl, hR, fun a b ha hb t => ⟨fun hx => ?_, fun hx => ?_⟩⟩
    · have := h1 a ha _ hx
      simpa using this
    · have := h2 b hb _ hx
      simpa using this
  · rintro ⟨hl, hR, hB⟩
    rw [okG, decide_eq_true hl, rightG_iff.2 hR, Bool.true_and, Bool.true_and, Bool.and_eq_true, endsG_iff, endsG_iff, ends_mem hR (by omega) (by omega), ends_mem hR (by omega) (by omega)]
    refine ⟨fun a ha x hx => ?_, fun a ha x hx => ?_⟩
    · have r := rightB_iff.1 (okL_mem (hR.ok (k := 16 + a) (by omega)) hx)
      refine (hB a x.1.toNat ha (by omega) x.2).1 ?_
      rw [show ((x.1.toNat : Nat) : Int) = x.1 from by omega]
      exact hx
    · have r := rightB_iff.1 (okL_mem (hR.ok (k := 8 + a) (by omega)) hx)
      refine (hB x.1.toNat a (by omega) ha x.2).2 ?_
      rw [show ((x.1.toNat : Nat) : Int) = x.1 from by omega]
      exact hx
theorem RightTo.put {L : List ValD} (h : RightTo L 24) (hl : L.length = 24) {j : Nat} (hj : j < 24) {x : ValD} (hx : okV (j : Int) x.1 x.2 = true) : RightTo (L.set j x) 24 := fun i hi => by
  rw [getD_set (by rw [hl]; exact hj)]
  by_cases e : i = j
  · subst e; rw [if_pos rfl]; exact hx
  · rw [if_neg e]; exact h i hi
theorem okV_kinL {j : Nat} (h8 : 8 ≤ j) (hj : j < 24) {l : List (Int × Int)} (hl : okL l = true) : okV (j : Int) 0 l = true := by
  rw [okV_kin (by omega) (by omega) (by omega), hl]
  rfl
/-- Two rows of a bond, changed alike, leave a graph ok. -/
theorem okG_two {L : List ValD} (h : okG L = true) {a b : Nat} (ha : a < 8) (hb : b < 8) {l m : List (Int × Int)} (hl : okL l = true) (hm : okL m = true)
    (h1 : ∀ x, x.1 ≠ (b : Int) → (x ∈ l ↔ x ∈ (L.getD (16 + a) valD0).2)) (h2 : ∀ x, x.1 ≠ (a : Int) → (x ∈ m ↔ x ∈ (L.getD (8 + b) valD0).2)) (h3 : ∀ t, ((b : Int), t) ∈ l ↔ ((a : Int), t) ∈ m) :
    okG ((L.set (16 + a) (0, l)).set (8 + b) (0, m)) = true := by
  obtain ⟨hL, hR, hB⟩ := okG_iff.1 h
  have hL1 : (L.set (16 + a) (0, l)).length = 24 := by rw [List.length_set]; exact hL
  refine okG_iff.2 ⟨by rw [List.length_set]; exact hL1, (hR.put hL (by omega) (okV_kinL (by omega) (by omega) hl)).put hL1 (by omega) (okV_kinL (by omega) (by omega) hm), fun a' b' ha' hb' t => ?_⟩
  rw [getD_set (by rw [hL1]; omega), getD_set (by rw [hL]; omega), getD_set (by rw [hL1]; omega), getD_set (by rw [hL]; omega)]
  rw [if_neg (show ¬ 16 + a' = 8 + b by omega), if_neg (show ¬ 8 + b' = 16 + a by omega)]
  by_cases e1 : a' = a <;> by_cases e2 : b' = b
  · subst e1; subst e2
    rw [if_pos rfl, if_pos rfl]
    exact h3 t
  · subst e1
    rw [if_pos rfl, if_neg (by omega)]
    rw [show (((0 : Int), l).2) = l from rfl, h1 ((b' : Int), t) (by show (b' : Int) ≠ b; omega)]
    exact hB a' b' ha' hb' t
  · subst e2
    rw [if_neg (by omega), if_pos rfl]
    rw [show (((0 : Int), m).2) = m from rfl, h2 ((a' : Int), t) (by show (a' : Int) ≠ a; omega)]
    exact hB a' b' ha' hb' t
  · rw [if_neg (by omega), if_neg (by omega)]
    exact hB a' b' ha' hb' t
theorem okG_set {L : List ValD} (h : okG L = true) {a : Nat} (ha : a < 8) {n : Int} (h0 : 0 ≤ n) (h1 : n ≤ 1000000) : okG (L.set a (n, [])) = true := by
  obtain ⟨hL, hR, hB⟩ := okG_iff.1 h
  refine okG_iff.2 ⟨by rw [List.length_set]; exact hL, hR.put hL (by omega) (by rw [okV_numD (by omega) (by omega) (by omega) h0 h1]; rfl), fun a' b' ha' hb' t => ?_⟩
  rw [getD_set (by rw [hL]; omega), getD_set (by rw [hL]; omega), if_neg (by omega), if_neg (by omega)]
  exact hB a' b' ha' hb' t
/-- A graph that is ok stays so behind a write. -/
theorem okG_do {L : List ValD} (h : okG L = true) (k a b n : Int) : okG (doG L k a b n) = true := by
  obtain ⟨hL, hR, hB⟩ := okG_iff.1 h
  unfold doG
  split
  · next hs =>
    obtain ⟨_, ha, _, hn⟩ := hs
    exact okG_set h (by omega) hn.1 hn.2
  · split
    · next hs =>
      obtain ⟨_, ha, hb, _, hn⟩ := hs
      have o1 := hR.ok (k := 16 + a.toNat) (by omega)
      have o2 := hR.ok (k := 8 + b.toNat) (by omega)
      have r1 : rightB (b, n) = true := rightB_iff.2 ⟨hb.1, hb.2, hn.1, hn.2⟩
      have r2 : rightB (a, n) = true := rightB_iff.2 ⟨ha.1, ha.2, hn.1, hn.2⟩
      rw [addL_yes (addB_iff.2 ⟨o1, r1⟩), addL_yes (addB_iff.2 ⟨o2, r2⟩)]
      refine okG_two h (by omega) (by omega) (okL_put o1 r1) (okL_put o2 r2) (fun x hx => ?_) (fun x hx => ?_) (fun t => ?_)
      · rw [mem_put]
        have hx' : x.1 ≠ b := by omega
        constructor
        · rintro (rfl | ⟨h1, _⟩)
          · exact absurd rfl hx'
          · exact h1
        · exact fun h1 => .inr ⟨h1, hx'⟩
      · rw [mem_put]
        have hx' : x.1 ≠ a := by omega
        constructor
        · rintro (rfl | ⟨h1, _⟩)
          · exact absurd rfl hx'
          · exact h1
        · exact fun h1 => .inr ⟨h1, hx'⟩
      · rw [mem_put, mem_put]
        have eb : ((b.toNat : Nat) : Int) = b := by omega
        have ea : ((a.toNat : Nat) : Int) = a := by omega
        rw [eb, ea]
        simp
    · split
      · next hs =>
        obtain ⟨_, ha, hb, _, _⟩ := hs
        have o1 := hR.ok (k := 16 + a.toNat) (by omega)
        have o2 := hR.ok (k := 8 + b.toNat) (by omega)
        rw [dropL_yes o1, dropL_yes o2]
        have eb : ((b.toNat : Nat) : Int) = b := by omega
        have ea : ((a.toNat : Nat) : Int) = a := by omega
        refine okG_two h (by omega) (by omega) (okL_filter _ _ o1) (okL_filter _ _ o2) (fun x hx => ?_) (fun x hx => ?_) (fun t => ?_)
        · rw [mem_filter_notWho]
          exact ⟨fun h1 => h1.1, fun h1 => ⟨h1, by omega⟩⟩
        · rw [mem_filter_notWho]
          exact ⟨fun h1 => h1.1, fun h1 => ⟨h1, by omega⟩⟩
        · rw [mem_filter_notWho, mem_filter_notWho, eb, ea]
          simp
      · exact h
/-- A graph behind a write, key by key. -/
theorem doG_ways (L : List ValD) {k a b n : Int} (h : opOk k a b n = true) : ∃ J : Nat, J < 24 ∧ opKey k a b n = (J : Int) ∧
    ((opOther k a b n = -1 ∧ doG L k a b n = L.set J (doN k a b n, doL k a b n (L.getD J valD0).2)) ∨
     (∃ I : Nat, I < 24 ∧ I ≠ J ∧ opOther k a b n = (I : Int) ∧ doG L k a b n = (L.set J (doN k a b n, doL k a b n (L.getD J valD0).2)).set I (0, backL k a b n (L.getD I valD0).2))) := by
  rcases op_ways k a b n with ⟨hs, -, e1, e2⟩ | ⟨hs, -, e1, e2⟩ | ⟨hs, -, e1, e2⟩ | ⟨-, -, -, e, -⟩
  · obtain ⟨_, ha, _⟩ := id hs
    refine ⟨a.toNat, by omega, by rw [e1]; omega, .inl ⟨e2, ?_⟩⟩
    rcases do_ways k a b n (L.getD a.toNat valD0).2 with ⟨_, h1, h2, _⟩ | ⟨h0, _⟩ | ⟨h0, _⟩ | ⟨h0, _⟩
    · rw [doG, if_pos hs, h1, h2]
    · have := h0.1; have := hs.1; omega
    · have := h0.1; have := hs.1; omega
    · exact absurd hs h0
  · obtain ⟨_, ha, hb, _⟩ := id hs
    have h1 : ¬ setOk k a b n := fun h => by have := h.1; have := hs.1; omega
    refine ⟨16 + a.toNat, by omega, by rw [e1]; omega, .inr ⟨8 + b.toNat, by omega, by omega, by rw [e2]; omega, ?_⟩⟩
    have d1 := do_ways k a b n (L.getD (16 + a.toNat) valD0).2
    have d2 := do_ways k a b n (L.getD (8 + b.toNat) valD0).2
    rcases d1 with ⟨h0, _⟩ | ⟨_, x1, x2, _⟩ | ⟨h0, _⟩ | ⟨_, h0, _⟩
    · exact absurd h0 h1
    · rcases d2 with ⟨h0, _⟩ | ⟨_, _, _, x3⟩ | ⟨h0, _⟩ | ⟨_, h0, _⟩
      · exact absurd h0 h1
      · rw [doG, if_neg h1, if_pos hs, x1, x2, x3]
      · have := h0.1; have := hs.1; omega
      · exact absurd hs h0
    · have := h0.1; have := hs.1; omega
    · exact absurd hs h0
  · obtain ⟨_, ha, hb, _⟩ := id hs
    have h1 : ¬ setOk k a b n := fun h => by have := h.1; have := hs.1; omega
    have h2 : ¬ bindOk k a b n := fun h => by have := h.1; have := hs.1; omega
    refine ⟨16 + a.toNat, by omega, by rw [e1]; omega, .inr ⟨8 + b.toNat, by omega, by omega, by rw [e2]; omega, ?_⟩⟩
    have d1 := do_ways k a b n (L.getD (16 + a.toNat) valD0).2
    have d2 := do_ways k a b n (L.getD (8 + b.toNat) valD0).2
    rcases d1 with ⟨h0, _⟩ | ⟨h0, _⟩ | ⟨_, x1, x2, _⟩ | ⟨_, _, h0, _⟩
    · exact absurd h0 h1
    · exact absurd h0 h2
    · rcases d2 with ⟨h0, _⟩ | ⟨h0, _⟩ | ⟨_, _, _, x3⟩ | ⟨_, _, h0, _⟩
      · exact absurd h0 h1
      · exact absurd h0 h2
      · rw [doG, if_neg h1, if_neg h2, if_pos hs, x1, x2, x3]
      · exact absurd hs h0
    · exact absurd hs h0
  · rw [h] at e; cases e
end Go.Proofs.YtkmhnjgncnoddaaGreat

/- Part: spec.EdgeHas and impl.EdgeHas: contracts. -/
namespace Go.Proofs.YtkmhnjgncnoddaaGreat
open Go.RowKit

set_option maxHeartbeats 1000000 in
theorem specHas_any (v : Value) (l : List (Int × Int)) (who : Int) (w : World) (h : Rd w v l) :
    Calls Tryz.prog 108 #[v, .int .i64 who] w fun e w' => e = .returned (.tuple #[.int .i64 (hasL l who).1, .bool (hasL l who).2]) ∧ w' = w := by
  obtain ⟨ao, cap, rfl, hl, hc⟩ := h
  unfold maxLen at hl
  go_enter Tryz.func108, Tryz.ntmps108
  go_wp2
  go_loop [6] (fun i => ∃ k : Nat, k ≤ l.length ∧ i = .int .i64 k ∧ Hid (∀ i, i < k → (l.getD i (0, 0)).1 ≠ who)) (fun i => l.length - (intOf i).toNat)
  case atStart => exact ⟨0, Nat.zero_le _, rfl, fun i hi => absurd hi (Nat.not_lt_zero _)⟩
  case round =>
    obtain ⟨k, hk, rfl, hno⟩ := hrel
    by_cases hlt : k < l.length
    · obtain ⟨b, o, rfl, hb, hcc⟩ := hc (by omega)
      obtain ⟨c0, c1⟩ := hcc k hlt
      clear hcc hc
      by_cases he : (l.getD k (0, 0)).1 = who
      · have hval : Hid (hasL l who = ((l.getD k (0, 0)).2, true)) := hasL_hit hno hlt he
        rw [he] at c0
        clear he
        generalize l.getD k (0, 0) = x at *
        go_wp2
        go_ret2
        exact ⟨by rw [hval.out]; simp, rfl⟩
      · have hnext : Hid (∀ i, i < k + 1 → (l.getD i (0, 0)).1 ≠ who) := fun i hi => by
          by_cases e : i = k
          · rw [e]; exact he
          · exact hno i (by omega)
        have hb' : ((l.getD k (0, 0)).1 == who) = false := beq_eq_false_iff_ne.2 he
        clear he
        generalize l.getD k (0, 0) = x at *
        go_wp2
        go_round
        case rel => exact ⟨k + 1, by omega, by go_num, hnext⟩
        case measure => simp [intOf]; omega
    · have hval : Hid (hasL l who = (0, false)) := hasL_miss (fun i hi => hno i (by omega))
      go_wp2
      go_ret2
      exact ⟨by rw [hval.out]; simp, rfl⟩

end Go.Proofs.YtkmhnjgncnoddaaGreat

/- Part: spec.GraphOk: contract. -/
namespace Go.Proofs.YtkmhnjgncnoddaaGreat
open Go.RowKit
attribute [local go_sem ↓] Go.wp_at_zero Go.wp_at_succ

def formG (L : List ValD) : Bool := decide (L.length = 24) && rightG L
theorem formG_len {L : List ValD} (h : L.length ≠ 24) : formG L = false := by simp [formG, h]
theorem formG_yes {L : List ValD} (hl : L.length = 24) : formG L = rightG L := by simp [formG, hl]
theorem okG_form (L : List ValD) : okG L = (formG L && (endsG L 16 8 && endsG L 8 16)) := rfl

set_option maxRecDepth 100000 in
set_option maxHeartbeats 1000000 in
theorem l3Form_any (va : Value) (L : List ValD) (w : World) (h : RdG w va L) :
    Calls Tryz.prog 48 #[.agg #[va]] w fun e w' => e = .returned (.bool (formG L)) ∧ Below w.heap.size w w' := by
  obtain ⟨ao, cap, rfl, _, hc⟩ := h
  by_cases hl : L.length = 24
  · obtain ⟨b, off, rfl, hlt, hcc⟩ := hc (by omega)
    rw [hl] at hcc ⊢
    rw [formG_yes hl]
    have g1 : Below w.heap.size w (w.alloc (.cells #[.slice (some ⟨b, off, none⟩) 24 cap] 25)) := by go_grown
    have e0 : (w.alloc (.cells #[.slice (some ⟨b, off, none⟩) 24 cap] 25)).cell? ⟨w.heap.size, 0, none⟩ = some (.slice (some ⟨b, off, none⟩) 24 cap) := by go_cell
    have z0 : w.heap.size < (w.alloc (.cells #[.slice (some ⟨b, off, none⟩) 24 cap] 25)).heap.size := by simp
    have hcc := hid hcc
    clear hc
    go_enter Tryz.func48, Tryz.ntmps48
    go_wp2_with fail
    generalize w.alloc (.cells #[.slice (some ⟨b, off, none⟩) 24 cap] 25) = w1 at *
    go_loopw [3] (fun i wr => ∃ k : Nat, k ≤ 24 ∧ i = .int .i64 k ∧ Hid (RightTo L k) ∧ Below w1.heap.size w1 wr) (fun i _ => 24 - (intOf i).toNat)
    case atStart => exact ⟨0, Nat.zero_le _, rfl, RightTo.zero L, Below.refl _ _⟩
    case round =>
      obtain ⟨k, hk, rfl, hpre, hbel⟩ := hrel
      by_cases hlt' : k < 24
      · obtain ⟨h0, u, h1, hr⟩ := hcc.out k hlt'
        have g2 := g1.trans (hbel.mono g1.size)
        rw [← g2.cell (p := ⟨b, off + k * 2, none⟩) hlt] at h0
        rw [← g2.cell (p := ⟨b, off + k * 2 + 1, none⟩) hlt] at h1
        have e1 := (hbel.cell (p := ⟨w.heap.size, 0, none⟩) z0).trans e0
        have HR := hid (hr.later g2)
        obtain ⟨uo, uc, rfl, _⟩ := id hr
        have hyes : Hid (okV (k : Int) (L.getD k valD0).1 (L.getD k valD0).2 = true → RightTo L (k + 1)) := hid (fun h => hpre.out.step h)
        have hno : Hid (okV (k : Int) (L.getD k valD0).1 (L.getD k valD0).2 = false → rightG L = false) := hid (fun h => rightG_no k hlt' h)
        have hsz := hbel.size
        clear hpre g2 hr
        generalize L.getD k valD0 = x at *
        go_wp2_with fail
        refine (specOkV_any (k : Int) x.1 _ x.2 _ (HR.out.later (by go_grown))).mono ?_
        rintro e w2 ⟨rfl, b2⟩
        have c2 := hid (hbel.trans ((show Below wr.heap.size wr w2 from (Below.trans (by go_grown) (b2.mono (by first | omega | (simp; done) | (simp; omega))))).mono hsz))
        clear b2
        cases hok : okV (k : Int) x.1 x.2 with
        | true =>
          have hN := hid (hyes.out hok)
          go_wp2
          go_roundw
          case rel => exact ⟨k + 1, by omega, by go_num, hN, c2⟩
          case measure => simp [intOf]; omega
        | false =>
          have hN := hno.out hok
          go_wp2
          go_ret
          exact ⟨by simp [hN], g1.trans (c2.out.mono g1.size)⟩
      · have hk24 : k = 24 := by omega
        subst hk24
        have hall : rightG L = true := rightG_iff.2 hpre.out
        go_wp2
        go_ret
        exact ⟨by simp [hall], g1.trans (hbel.mono g1.size)⟩
  · rw [formG_len hl]
    have hlI : ((L.length : Int) != 24) = true := by simp; omega
    go_enter Tryz.func48, Tryz.ntmps48
    go_wp2
    go_ret
    exact ⟨by simp, by go_grown⟩

theorem EndsTo.step {L : List ValD} {p q a : Nat} (h : EndsTo L p q a) (hr : ∀ i, i < (L.getD (p + a) valD0).2.length →
    hasL (L.getD (q + ((L.getD (p + a) valD0).2.getD i (0, 0)).1.toNat) valD0).2 (a : Int) = (((L.getD (p + a) valD0).2.getD i (0, 0)).2, true)) : EndsTo L p q (a + 1) := fun j hj => by
  rcases Nat.lt_succ_iff_lt_or_eq.1 hj with hj | rfl
  · exact h j hj
  · exact hr
theorem endsG_no {L : List ValD} {p q a i : Nat} (ha : a < 8) (hi : i < (L.getD (p + a) valD0).2.length)
    (hn : ¬ hasL (L.getD (q + ((L.getD (p + a) valD0).2.getD i (0, 0)).1.toNat) valD0).2 (a : Int) = (((L.getD (p + a) valD0).2.getD i (0, 0)).2, true)) : endsG L p q = false := by
  rw [Bool.eq_false_iff]
  intro e
  exact hn (endsG_iff.1 e a ha i hi)
theorem make_at (kk : Int) (p : Nat) (hk : ∀ a : Int, 0 ≤ a → a < 8 → keyOf kk a = (p : Int) + a) (a : Nat) (ha : a < 8) (w : World) :
    Calls Tryz.prog 101 #[.int .i64 kk, .int .i64 (a : Int)] w fun e w' => e = .returned (.int .i64 ((p + a : Nat) : Int)) ∧ Below w.heap.size w w' := by
  refine (specMake_any kk (a : Int) w).mono ?_
  rintro e w1 ⟨rfl, rfl⟩
  refine ⟨?_, Below.refl _ _⟩
  rw [hk _ (by omega) (by omega)]
  congr 2
theorem make_to (kk : Int) (q : Nat) (hk : ∀ a : Int, 0 ≤ a → a < 8 → keyOf kk a = (q : Int) + a) (who : Int) (h0 : 0 ≤ who) (h1 : who < 8) (w : World) :
    Calls Tryz.prog 101 #[.int .i64 kk, .int .i64 who] w fun e w' => e = .returned (.int .i64 ((q + who.toNat : Nat) : Int)) ∧ Below w.heap.size w w' := by
  refine (specMake_any kk who w).mono ?_
  rintro e w1 ⟨rfl, rfl⟩
  refine ⟨?_, Below.refl _ _⟩
  rw [hk _ h0 h1]
  congr 2
  omega
theorem has_at (v : Value) (l : List (Int × Int)) (who : Int) (w : World) (h : Rd w v l) :
    Calls Tryz.prog 108 #[v, .int .i64 who] w fun e w' => e = .returned (.tuple #[.int .i64 (hasL l who).1, .bool (hasL l who).2]) ∧ Below w.heap.size w w' :=
  (specHas_any v l who w h).mono fun _ _ ⟨he, hw⟩ => ⟨he, hw ▸ Below.refl _ _⟩

set_option maxRecDepth 100000 in
set_option maxHeartbeats 2000000 in
theorem l3Ends_any (b off cap : Nat) (L : List ValD) (w : World) (kk oo : Int) (p q : Nat) (hlt : b < w.heap.size)
    (hcc : ∀ i, i < 24 → w.cell? ⟨b, off + i * 2, none⟩ = some (.int .i64 (L.getD i valD0).1) ∧ ∃ u, w.cell? ⟨b, off + i * 2 + 1, none⟩ = some u ∧ Rd w u (L.getD i valD0).2)
    (hR : RightTo L 24) (hp : p + 8 ≤ 24) (hq : q + 8 ≤ 24)
    (hk : ∀ a : Int, 0 ≤ a → a < 8 → keyOf kk a = (p : Int) + a) (ho : ∀ a : Int, 0 ≤ a → a < 8 → keyOf oo a = (q : Int) + a) :
    Calls Tryz.prog 49 #[.agg #[.slice (some ⟨b, off, none⟩) 24 cap], .int .i64 kk, .int .i64 oo] w fun e w' => e = .returned (.bool (endsG L p q)) ∧ Below w.heap.size w w' := by
  have g1 : Below w.heap.size w (w.alloc (.cells #[.slice (some ⟨b, off, none⟩) 24 cap] 25)) := by go_grown
  have e0 : (w.alloc (.cells #[.slice (some ⟨b, off, none⟩) 24 cap] 25)).cell? ⟨w.heap.size, 0, none⟩ = some (.slice (some ⟨b, off, none⟩) 24 cap) := by go_cell
  have z0 : w.heap.size < (w.alloc (.cells #[.slice (some ⟨b, off, none⟩) 24 cap] 25)).heap.size := by simp
  have hcc := hid hcc
  have hR := hid hR
  have hk := hid hk
  have ho := hid ho
  go_enter Tryz.func49, Tryz.ntmps49
  go_wp2_with fail
  generalize w.alloc (.cells #[.slice (some ⟨b, off, none⟩) 24 cap] 25) = w1 at *
  go_loopw [7] (fun i wr => ∃ a : Nat, a ≤ 8 ∧ i = .int .i64 a ∧ Hid (EndsTo L p q a) ∧ Below w1.heap.size w1 wr) (fun i _ => 8 - (intOf i).toNat)
  case atStart => exact ⟨0, Nat.zero_le _, rfl, fun _ h => absurd h (Nat.not_lt_zero _), Below.refl _ _⟩
  case round =>
    obtain ⟨a, ha, rfl, hpre, hbel⟩ := hrel
    by_cases hlt' : a < 8
    · obtain ⟨_, u, h1, hr⟩ := hcc.out (p + a) (by omega)
      have g2 := g1.trans (hbel.mono g1.size)
      rw [← g2.cell (p := ⟨b, off + (p + a) * 2 + 1, none⟩) hlt] at h1
      have e1 := (hbel.cell (p := ⟨w.heap.size, 0, none⟩) z0).trans e0
      have HR := hid hr
      obtain ⟨uo, uc, rfl, hul, _⟩ := id hr
      unfold maxLen at hul
      have hltI : (a : Int) < 8 := by omega
      have hcm := fun W => make_at kk p hk.out a hlt' W
      have hyes : Hid ((∀ i, i < (L.getD (p + a) valD0).2.length → hasL (L.getD (q + ((L.getD (p + a) valD0).2.getD i (0, 0)).1.toNat) valD0).2 (a : Int) = (((L.getD (p + a) valD0).2.getD i (0, 0)).2, true)) → EndsTo L p q (a + 1)) := hid (fun h => hpre.out.step h)
      have hno : Hid (∀ i, i < (L.getD (p + a) valD0).2.length → ¬ hasL (L.getD (q + ((L.getD (p + a) valD0).2.getD i (0, 0)).1.toNat) valD0).2 (a : Int) = (((L.getD (p + a) valD0).2.getD i (0, 0)).2, true) → endsG L p q = false) := hid (fun i hi hn => endsG_no hlt' hi hn)
      have hok := hid (hR.out.ok (k := p + a) (by omega))
      have hsz := hbel.size
      obtain ⟨r, hr'⟩ : ∃ r, p + a = r := ⟨_, rfl⟩
      have hr24 : r < 24 := by omega
      rw [hr'] at h1 HR hyes hno hok hcm hul
      clear hpre g2 hr hr'
      generalize (L.getD r valD0).2 = x at *
      go_upto_region 4 with fail
      have q1 := cell_regrown e1
      have q2 := cell_regrown h1
      refine wp_region_quiet_below (by kernel_rfl) (by kernel_rfl) ?_
      repeat (first | go_big_quiet_skip | (go_big_quiet_want; go_big_quiet_op; first | go_big_quiet_on | go_big_quiet_call (first | (go_at_call 101; exact Calls.regrown_of (hcm _)))))
      refine wpQuiet_nil ?_
      rintro wq ⟨pq, hwq⟩
      have hq : Below wr.heap.size wr wq := by rw [hwq]; exact below_regrown _ _ _
      clear hwq pq
      have hb2 := hid (hbel.trans (hq.mono hsz))
      clear hq q1 q2 hbel hsz hcm
      generalize wq = w2 at *
      go_wp2_with fail
      go_loopw [9] (fun i wr => ∃ j : Nat, j ≤ x.length ∧ i = .int .i64 j ∧ Hid (∀ i, i < j → hasL (L.getD (q + (x.getD i (0, 0)).1.toNat) valD0).2 (a : Int) = ((x.getD i (0, 0)).2, true)) ∧ Below w1.heap.size w1 wr) (fun i _ => x.length - (intOf i).toNat)
      case atStart => exact ⟨0, Nat.zero_le _, rfl, fun _ h => absurd h (Nat.not_lt_zero _), hb2.out⟩
      case round =>
        clear hb2
        obtain ⟨j, hj, rfl, hpre, hbel⟩ := hrel
        by_cases hjl : j < x.length
        · have g2 := g1.trans (hbel.mono g1.size)
          obtain ⟨ao', cap', hv', _, hc⟩ := HR.out
          obtain ⟨b2, off2, hao, hbl, hcx⟩ := hc (by omega)
          obtain ⟨c0, c1⟩ := hcx j hjl
          have hau : uo = some ⟨b2, off2, none⟩ := by cases hv'; exact hao
          subst hau
          rw [← g2.cell (p := ⟨b2, off2 + j * 2, none⟩) hbl] at c0
          rw [← g2.cell (p := ⟨b2, off2 + j * 2 + 1, none⟩) hbl] at c1
          have hrb := rightB_iff.1 (okL_mem hok.out (getD_mem hjl))
          have hnext : Hid (hasL (L.getD (q + (x.getD j (0, 0)).1.toNat) valD0).2 (a : Int) = ((x.getD j (0, 0)).2, true) → ∀ i, i < j + 1 → hasL (L.getD (q + (x.getD i (0, 0)).1.toNat) valD0).2 (a : Int) = ((x.getD i (0, 0)).2, true)) := hid (fun h i hi => by
            rcases Nat.lt_succ_iff_lt_or_eq.1 hi with hi | rfl
            · exact hpre.out i hi
            · exact h)
          have hbad := hid (hno.out j hjl)
          obtain ⟨y, hy⟩ : ∃ y, x.getD j (0, 0) = y := ⟨_, rfl⟩
          rw [hy] at c0 c1 hrb hnext hbad
          obtain ⟨_, u2, h2, hr2⟩ := hcc.out (q + y.1.toNat) (by omega)
          rw [← g2.cell (p := ⟨b, off + (q + y.1.toNat) * 2 + 1, none⟩) hlt] at h2
          have hcm := fun W => make_to oo q ho.out y.1 hrb.1 hrb.2.1 W
          obtain ⟨J, hJ⟩ : ∃ J, q + y.1.toNat = J := ⟨_, rfl⟩
          have hJ24 : J < 24 := by omega
          have e1 := (hbel.cell (p := ⟨w.heap.size, 0, none⟩) z0).trans e0
          rw [hJ] at h2 hcm hr2 hnext hbad
          have HR2 := hid (hr2.later g2)
          obtain ⟨o2, c2, rfl, _⟩ := id hr2
          generalize (L.getD J valD0).2 = z at *
          have hch := fun (W : World) (h : Rd W (.slice o2 z.length c2) z) => has_at _ z (a : Int) W h
          have hsz := hbel.size
          clear hv' hc hcx hao hy hr2 hrb hJ hpre g2
          generalize hasL z (a : Int) = H at *
          have q1 := cell_regrown e1
          have q2 := cell_regrown h2
          have q3 := cell_regrown c0
          go_upto_region 8 with fail
          refine wp_region_quiet_below (by kernel_rfl) (by kernel_rfl) ?_
          repeat (first | go_big_quiet_skip | (go_big_quiet_want; go_big_quiet_op; first | go_big_quiet_on | go_big_quiet_call (first | (go_at_call 101; exact Calls.regrown_of (hcm _)) | (go_at_call 108; exact Calls.regrown_of (hch _ (HR2.out.later (below_regrown _ _ _)))))))
          refine wpQuiet_nil ?_
          rintro wq ⟨pq, hwq⟩
          have hq : Below wr.heap.size wr wq := by rw [hwq]; exact below_regrown _ _ _
          clear hwq pq
          have hb3 := hid (hbel.trans (hq.mono hsz))
          have c1' := (hq.cell (p := ⟨b2, off2 + j * 2 + 1, none⟩) (block_lt_of_cell c1)).trans c1
          clear hq q1 q2 q3 c0 c1 hcm hch HR2 hbel hsz e1 h2
          obtain ⟨at', has⟩ := H
          cases has with
          | true =>
            by_cases hat : at' = y.2
            · have hN := hid (hnext.out (by rw [hat]))
              have hne : (at' != y.2) = false := by simp [hat]
              go_wp2
              go_roundw
              case rel => exact ⟨j + 1, by omega, by go_num, hN, hb3.out⟩
              case measure => simp [intOf]; omega
            · have hN := hbad.out (fun e => hat (Prod.mk.inj e).1)
              have hne : (at' != y.2) = true := by simp [hat]
              go_wp2
              go_ret
              exact ⟨by simp [hN], g1.trans (hb3.out.mono g1.size)⟩
          | false =>
            have hN := hbad.out (fun e => by cases (Prod.mk.inj e).2)
            go_wp2
            go_ret
            exact ⟨by simp [hN], g1.trans (hb3.out.mono g1.size)⟩
        · have hjx : j = x.length := by omega
          subst hjx
          have hN := hid (hyes.out hpre.out)
          go_wp2
          go_roundw
          case rel => exact ⟨a + 1, by omega, by go_num, hN, hbel⟩
          case measure => simp [intOf]; omega
    · have ha8 : a = 8 := by omega
      subst ha8
      have hall : endsG L p q = true := endsG_iff.2 hpre.out
      go_wp2
      go_ret
      exact ⟨by simp [hall], g1.trans (hbel.mono g1.size)⟩

set_option maxRecDepth 100000 in
set_option maxHeartbeats 1000000 in
theorem specGOk_any (va : Value) (L : List ValD) (w : World) (h : RdG w va L) :
    Calls Tryz.prog 12 #[.agg #[va]] w fun e w' => e = .returned (.bool (okG L)) ∧ Below w.heap.size w w' := by
  have HR := hid h
  obtain ⟨ao, cap, rfl, _, hc⟩ := h
  rw [okG_form]
  have e0 : (w.alloc (.cells #[.slice ao L.length cap] 25)).cell? ⟨w.heap.size, 0, none⟩ = some (.slice ao L.length cap) := by go_cell
  have g1 : Below w.heap.size w (w.alloc (.cells #[.slice ao L.length cap] 25)) := by go_grown
  have z1 : w.heap.size < (w.alloc (.cells #[.slice ao L.length cap] 25)).heap.size := by simp
  go_enter Tryz.func12, Tryz.ntmps12
  cases hf : formG L with
  | false =>
    have CF := fun W (h : RdG W (.slice ao L.length cap) L) => l3Form_any _ L W h
    rw [hf] at CF
    go_wp2_with fail
    refine (CF _ (HR.out.later (by go_grown))).mono ?_
    rintro e w2 ⟨rfl, b2⟩
    have c2 : Below w.heap.size w w2 := (Below.trans (by go_grown) (b2.mono (by first | omega | (simp; done) | (simp; omega))))
    go_wp2
    go_ret
    exact ⟨by simp, c2⟩
  | true =>
    have CF := fun W (h : RdG W (.slice ao L.length cap) L) => l3Form_any _ L W h
    rw [hf] at CF
    have hl : L.length = 24 := by
      rcases Decidable.em (L.length = 24) with h | h
      · exact h
      · rw [formG_len h] at hf; cases hf
    have hR : RightTo L 24 := by rw [formG_yes hl] at hf; exact rightG_iff.1 hf
    obtain ⟨b, off, rfl, hlt, hcc⟩ := hc (by omega)
    rw [hl] at hcc CF HR e0 g1 z1 ⊢
    have hcc := hid hcc
    have hR := hid hR
    clear hc hf hl
    have CE := fun (W : World) (hb : Below w.heap.size w W) => l3Ends_any b off cap L W 2 1 16 8 (Nat.lt_of_lt_of_le hlt hb.size) (fun i hi => by
      obtain ⟨h0, u, h1, hr⟩ := hcc.out i hi
      exact ⟨(hb.cell (p := ⟨b, off + i * 2, none⟩) hlt).trans h0, u, (hb.cell (p := ⟨b, off + i * 2 + 1, none⟩) hlt).trans h1, hr.later hb⟩) hR.out (by omega) (by omega) (fun a h0 h1 => keyOf_in (by omega) (by omega) h0 h1) (fun a h0 h1 => keyOf_in (by omega) (by omega) h0 h1)
    have CF2 := fun (W : World) (hb : Below w.heap.size w W) => l3Ends_any b off cap L W 1 2 8 16 (Nat.lt_of_lt_of_le hlt hb.size) (fun i hi => by
      obtain ⟨h0, u, h1, hr⟩ := hcc.out i hi
      exact ⟨(hb.cell (p := ⟨b, off + i * 2, none⟩) hlt).trans h0, u, (hb.cell (p := ⟨b, off + i * 2 + 1, none⟩) hlt).trans h1, hr.later hb⟩) hR.out (by omega) (by omega) (fun a h0 h1 => keyOf_in (by omega) (by omega) h0 h1) (fun a h0 h1 => keyOf_in (by omega) (by omega) h0 h1)
    go_wp2_with fail
    refine (CF _ (HR.out.later g1)).mono ?_
    rintro e w2 ⟨rfl, b2⟩
    have c2 : Below w.heap.size w w2 := (Below.trans (by go_grown) (b2.mono (by first | omega | (simp; done) | (simp; omega))))
    have e2 := (b2.cell (p := ⟨w.heap.size, 0, none⟩) z1).trans e0
    have z2 : w.heap.size < w2.heap.size := Nat.lt_of_lt_of_le z1 b2.size
    clear b2
    cases h1 : endsG L 16 8 with
    | false =>
      rw [h1] at CE
      go_wp2_with fail
      refine (CE _ c2).mono ?_
      rintro e w3 ⟨rfl, b3⟩
      go_wp2
      go_ret
      exact ⟨by simp [h1], c2.trans (b3.mono c2.size)⟩
    | true =>
      rw [h1] at CE
      go_wp2_with fail
      refine (CE _ c2).mono ?_
      rintro e w3 ⟨rfl, b3⟩
      have c3 := c2.trans (b3.mono c2.size)
      have e3 := (b3.cell (p := ⟨w.heap.size, 0, none⟩) z2).trans e2
      clear e2 e0
      go_wp2_with fail
      refine (CF2 _ c3).mono ?_
      rintro e w4 ⟨rfl, b4⟩
      go_wp2
      go_ret
      exact ⟨by simp [h1], c3.trans (b4.mono c3.size)⟩
end Go.Proofs.YtkmhnjgncnoddaaGreat

/- Part: spec.OpDo, OpBack: contracts. -/
namespace Go.Proofs.YtkmhnjgncnoddaaGreat
open Go.RowKit
attribute [local go_sem ↓] Go.wp_at_zero Go.wp_at_succ

set_option maxRecDepth 100000 in
set_option maxHeartbeats 1000000 in
theorem specKin_bad (k a b n m who : Int) (v : Value) (l : List (Int × Int)) (w : World) (h : Rd w v l) (hok : okL l = false) :
    Calls Tryz.prog 102 #[.agg #[.int .i64 m, v], .agg #[.int .i64 k, .int .i64 a, .int .i64 b, .int .i64 n], .int .i64 who] w fun e w' => ValA w.heap.size w' e 0 [] ∧ Below w.heap.size w w' := by
  have HR := hid h
  obtain ⟨ao, cap, hv, _⟩ := h
  subst hv
  go_enter Tryz.func102, Tryz.ntmps102
  go_wp2_with fail
  have x0_1 : (((w.alloc (.cells #[.int .i64 m, .slice ao l.length cap] 38)).alloc (.cells #[.int .i64 k, .int .i64 a, .int .i64 b, .int .i64 n] 27)).alloc (.cells #[.int .i64 0, .slice none 0 0] 38)).cell? ⟨w.heap.size, 0, none⟩ = some (.int .i64 m) := by go_cell
  have x1_1 : (((w.alloc (.cells #[.int .i64 m, .slice ao l.length cap] 38)).alloc (.cells #[.int .i64 k, .int .i64 a, .int .i64 b, .int .i64 n] 27)).alloc (.cells #[.int .i64 0, .slice none 0 0] 38)).cell? ⟨w.heap.size, 1, none⟩ = some (.slice ao l.length cap) := by go_cell
  have xl_1 : w.heap.size < (((w.alloc (.cells #[.int .i64 m, .slice ao l.length cap] 38)).alloc (.cells #[.int .i64 k, .int .i64 a, .int .i64 b, .int .i64 n] 27)).alloc (.cells #[.int .i64 0, .slice none 0 0] 38)).heap.size := by first | (simp; done) | (simp; omega)
  have o0_1 : (((w.alloc (.cells #[.int .i64 m, .slice ao l.length cap] 38)).alloc (.cells #[.int .i64 k, .int .i64 a, .int .i64 b, .int .i64 n] 27)).alloc (.cells #[.int .i64 0, .slice none 0 0] 38)).cell? ⟨w.heap.size + 1, 0, none⟩ = some (.int .i64 k) := by go_cell
  have o1_1 : (((w.alloc (.cells #[.int .i64 m, .slice ao l.length cap] 38)).alloc (.cells #[.int .i64 k, .int .i64 a, .int .i64 b, .int .i64 n] 27)).alloc (.cells #[.int .i64 0, .slice none 0 0] 38)).cell? ⟨w.heap.size + 1, 1, none⟩ = some (.int .i64 a) := by go_cell
  have o2_1 : (((w.alloc (.cells #[.int .i64 m, .slice ao l.length cap] 38)).alloc (.cells #[.int .i64 k, .int .i64 a, .int .i64 b, .int .i64 n] 27)).alloc (.cells #[.int .i64 0, .slice none 0 0] 38)).cell? ⟨w.heap.size + 1, 2, none⟩ = some (.int .i64 b) := by go_cell
  have o3_1 : (((w.alloc (.cells #[.int .i64 m, .slice ao l.length cap] 38)).alloc (.cells #[.int .i64 k, .int .i64 a, .int .i64 b, .int .i64 n] 27)).alloc (.cells #[.int .i64 0, .slice none 0 0] 38)).cell? ⟨w.heap.size + 1, 3, none⟩ = some (.int .i64 n) := by go_cell
  have ol_1 : w.heap.size + 1 < (((w.alloc (.cells #[.int .i64 m, .slice ao l.length cap] 38)).alloc (.cells #[.int .i64 k, .int .i64 a, .int .i64 b, .int .i64 n] 27)).alloc (.cells #[.int .i64 0, .slice none 0 0] 38)).heap.size := by first | (simp; done) | (simp; omega)
  have r0_1 : (((w.alloc (.cells #[.int .i64 m, .slice ao l.length cap] 38)).alloc (.cells #[.int .i64 k, .int .i64 a, .int .i64 b, .int .i64 n] 27)).alloc (.cells #[.int .i64 0, .slice none 0 0] 38)).cell? ⟨w.heap.size + 1 + 1, 0, none⟩ = some (.int .i64 0) := by go_cell
  have rf0_1 : (((w.alloc (.cells #[.int .i64 m, .slice ao l.length cap] 38)).alloc (.cells #[.int .i64 k, .int .i64 a, .int .i64 b, .int .i64 n] 27)).alloc (.cells #[.int .i64 0, .slice none 0 0] 38)).frozen? ⟨w.heap.size + 1 + 1, 0, none⟩ = false := by (first | go_cell | (simp [World.frozen?, World.alloc]; done) | rfl)
  have r1_1 : (((w.alloc (.cells #[.int .i64 m, .slice ao l.length cap] 38)).alloc (.cells #[.int .i64 k, .int .i64 a, .int .i64 b, .int .i64 n] 27)).alloc (.cells #[.int .i64 0, .slice none 0 0] 38)).cell? ⟨w.heap.size + 1 + 1, 1, none⟩ = some (.slice none 0 0) := by go_cell
  have rf1_1 : (((w.alloc (.cells #[.int .i64 m, .slice ao l.length cap] 38)).alloc (.cells #[.int .i64 k, .int .i64 a, .int .i64 b, .int .i64 n] 27)).alloc (.cells #[.int .i64 0, .slice none 0 0] 38)).frozen? ⟨w.heap.size + 1 + 1, 1, none⟩ = false := by (first | go_cell | (simp [World.frozen?, World.alloc]; done) | rfl)
  have rl_1 : w.heap.size + 1 + 1 < (((w.alloc (.cells #[.int .i64 m, .slice ao l.length cap] 38)).alloc (.cells #[.int .i64 k, .int .i64 a, .int .i64 b, .int .i64 n] 27)).alloc (.cells #[.int .i64 0, .slice none 0 0] 38)).heap.size := by first | (simp; done) | (simp; omega)
  have c1 : Below w.heap.size w (((w.alloc (.cells #[.int .i64 m, .slice ao l.length cap] 38)).alloc (.cells #[.int .i64 k, .int .i64 a, .int .i64 b, .int .i64 n] 27)).alloc (.cells #[.int .i64 0, .slice none 0 0] 38)) := by go_grown
  have s1 : (((w.alloc (.cells #[.int .i64 m, .slice ao l.length cap] 38)).alloc (.cells #[.int .i64 k, .int .i64 a, .int .i64 b, .int .i64 n] 27)).alloc (.cells #[.int .i64 0, .slice none 0 0] 38)).heap.size = w.heap.size + 3 := by simp
  generalize (((w.alloc (.cells #[.int .i64 m, .slice ao l.length cap] 38)).alloc (.cells #[.int .i64 k, .int .i64 a, .int .i64 b, .int .i64 n] 27)).alloc (.cells #[.int .i64 0, .slice none 0 0] 38)) = w1 at x0_1 x1_1 xl_1 o0_1 o1_1 o2_1 o3_1 ol_1 r0_1 rf0_1 r1_1 rf1_1 rl_1 c1 s1 ⊢
  have qx0_1 := cell_regrown x0_1
  have qx1_1 := cell_regrown x1_1
  have qo0_1 := cell_regrown o0_1
  have qo1_1 := cell_regrown o1_1
  have qo2_1 := cell_regrown o2_1
  have qo3_1 := cell_regrown o3_1
  have qr0_1 := cell_regrown r0_1
  have qr1_1 := cell_regrown r1_1
  refine (specOk_any _ l _ (HR.out.later c1)).mono ?_
  rintro e w2 ⟨rfl, b2⟩
  rw [hok]
  have d2 : Below w1.heap.size w1 w2 := (Below.trans (by go_grown) (b2.mono (by first | omega | (simp; done) | (simp; omega))))
  have c2 : Below w.heap.size w w2 := c1.trans (d2.mono c1.size)
  have r0_2 : w2.cell? ⟨w.heap.size + 1 + 1, 0, none⟩ = some (.int .i64 0) := (by rw [b2.cell (by first | omega | (simp; done) | (simp; omega))]; go_cell)
  have rf0_2 : w2.frozen? ⟨w.heap.size + 1 + 1, 0, none⟩ = false := (by rw [b2.frozen (by first | omega | (simp; done) | (simp; omega))]; (first | go_cell | (simp [World.frozen?, World.alloc]; done) | rfl))
  have r1_2 : w2.cell? ⟨w.heap.size + 1 + 1, 1, none⟩ = some (.slice none 0 0) := (by rw [b2.cell (by first | omega | (simp; done) | (simp; omega))]; go_cell)
  have rf1_2 : w2.frozen? ⟨w.heap.size + 1 + 1, 1, none⟩ = false := (by rw [b2.frozen (by first | omega | (simp; done) | (simp; omega))]; (first | go_cell | (simp [World.frozen?, World.alloc]; done) | rfl))
  have rl_2 : w.heap.size + 1 + 1 < w2.heap.size := (by have := b2.size; first | omega | (revert this; simp; done) | (revert this; simp; omega))
  clear r0_1 rf0_1 r1_1 rf1_1 rl_1
  clear b2 d2
  go_wp2
  have e0 : ((w2.setCell ⟨w.heap.size + 1 + 1, 0, none⟩ (.int .i64 0)).setCell ⟨w.heap.size + 1 + 1, 1, none⟩ (.slice none 0 0)).cell? ⟨w.heap.size + 1 + 1, 0, none⟩ = some (.int .i64 0) := by go_cell
  have e1 : ((w2.setCell ⟨w.heap.size + 1 + 1, 0, none⟩ (.int .i64 0)).setCell ⟨w.heap.size + 1 + 1, 1, none⟩ (.slice none 0 0)).cell? ⟨w.heap.size + 1 + 1, 1, none⟩ = some (.slice none 0 0) := by go_cell
  refine bodyPost_ret (v := .agg #[.int .i64 0, .slice none 0 0]) (by simp [results, Tryz.results102, go_sem, e0, e1]) rfl ⟨valA_nil _ _ _, (c2.setCell (p := ⟨w.heap.size + 1 + 1, 0, none⟩) (by show w.heap.size ≤ w.heap.size + 1 + 1; omega) _).setCell (p := ⟨w.heap.size + 1 + 1, 1, none⟩) (by show w.heap.size ≤ w.heap.size + 1 + 1; omega) _⟩

set_option maxRecDepth 100000 in
set_option maxHeartbeats 1000000 in
theorem specKin_bind (a b n m who : Int) (v : Value) (l : List (Int × Int)) (w : World) (h : Rd w v l) (hll : l.length ≤ 1099511627776) (hok : okL l = true) :
    Calls Tryz.prog 102 #[.agg #[.int .i64 m, v], .agg #[.int .i64 2, .int .i64 a, .int .i64 b, .int .i64 n], .int .i64 who] w fun e w' => ValA w.heap.size w' e 0 (insL (l.filter (notWho who)) (who, n)) ∧ Below w.heap.size w w' := by
  have HR := hid h
  obtain ⟨ao, cap, hv, _⟩ := h
  subst hv
  go_enter Tryz.func102, Tryz.ntmps102
  go_wp2_with fail
  have x0_1 : (((w.alloc (.cells #[.int .i64 m, .slice ao l.length cap] 38)).alloc (.cells #[.int .i64 2, .int .i64 a, .int .i64 b, .int .i64 n] 27)).alloc (.cells #[.int .i64 0, .slice none 0 0] 38)).cell? ⟨w.heap.size, 0, none⟩ = some (.int .i64 m) := by go_cell
  have x1_1 : (((w.alloc (.cells #[.int .i64 m, .slice ao l.length cap] 38)).alloc (.cells #[.int .i64 2, .int .i64 a, .int .i64 b, .int .i64 n] 27)).alloc (.cells #[.int .i64 0, .slice none 0 0] 38)).cell? ⟨w.heap.size, 1, none⟩ = some (.slice ao l.length cap) := by go_cell
  have xl_1 : w.heap.size < (((w.alloc (.cells #[.int .i64 m, .slice ao l.length cap] 38)).alloc (.cells #[.int .i64 2, .int .i64 a, .int .i64 b, .int .i64 n] 27)).alloc (.cells #[.int .i64 0, .slice none 0 0] 38)).heap.size := by first | (simp; done) | (simp; omega)
  have o0_1 : (((w.alloc (.cells #[.int .i64 m, .slice ao l.length cap] 38)).alloc (.cells #[.int .i64 2, .int .i64 a, .int .i64 b, .int .i64 n] 27)).alloc (.cells #[.int .i64 0, .slice none 0 0] 38)).cell? ⟨w.heap.size + 1, 0, none⟩ = some (.int .i64 2) := by go_cell
  have o1_1 : (((w.alloc (.cells #[.int .i64 m, .slice ao l.length cap] 38)).alloc (.cells #[.int .i64 2, .int .i64 a, .int .i64 b, .int .i64 n] 27)).alloc (.cells #[.int .i64 0, .slice none 0 0] 38)).cell? ⟨w.heap.size + 1, 1, none⟩ = some (.int .i64 a) := by go_cell
  have o2_1 : (((w.alloc (.cells #[.int .i64 m, .slice ao l.length cap] 38)).alloc (.cells #[.int .i64 2, .int .i64 a, .int .i64 b, .int .i64 n] 27)).alloc (.cells #[.int .i64 0, .slice none 0 0] 38)).cell? ⟨w.heap.size + 1, 2, none⟩ = some (.int .i64 b) := by go_cell
  have o3_1 : (((w.alloc (.cells #[.int .i64 m, .slice ao l.length cap] 38)).alloc (.cells #[.int .i64 2, .int .i64 a, .int .i64 b, .int .i64 n] 27)).alloc (.cells #[.int .i64 0, .slice none 0 0] 38)).cell? ⟨w.heap.size + 1, 3, none⟩ = some (.int .i64 n) := by go_cell
  have ol_1 : w.heap.size + 1 < (((w.alloc (.cells #[.int .i64 m, .slice ao l.length cap] 38)).alloc (.cells #[.int .i64 2, .int .i64 a, .int .i64 b, .int .i64 n] 27)).alloc (.cells #[.int .i64 0, .slice none 0 0] 38)).heap.size := by first | (simp; done) | (simp; omega)
  have r0_1 : (((w.alloc (.cells #[.int .i64 m, .slice ao l.length cap] 38)).alloc (.cells #[.int .i64 2, .int .i64 a, .int .i64 b, .int .i64 n] 27)).alloc (.cells #[.int .i64 0, .slice none 0 0] 38)).cell? ⟨w.heap.size + 1 + 1, 0, none⟩ = some (.int .i64 0) := by go_cell
  have rf0_1 : (((w.alloc (.cells #[.int .i64 m, .slice ao l.length cap] 38)).alloc (.cells #[.int .i64 2, .int .i64 a, .int .i64 b, .int .i64 n] 27)).alloc (.cells #[.int .i64 0, .slice none 0 0] 38)).frozen? ⟨w.heap.size + 1 + 1, 0, none⟩ = false := by (first | go_cell | (simp [World.frozen?, World.alloc]; done) | rfl)
  have r1_1 : (((w.alloc (.cells #[.int .i64 m, .slice ao l.length cap] 38)).alloc (.cells #[.int .i64 2, .int .i64 a, .int .i64 b, .int .i64 n] 27)).alloc (.cells #[.int .i64 0, .slice none 0 0] 38)).cell? ⟨w.heap.size + 1 + 1, 1, none⟩ = some (.slice none 0 0) := by go_cell
  have rf1_1 : (((w.alloc (.cells #[.int .i64 m, .slice ao l.length cap] 38)).alloc (.cells #[.int .i64 2, .int .i64 a, .int .i64 b, .int .i64 n] 27)).alloc (.cells #[.int .i64 0, .slice none 0 0] 38)).frozen? ⟨w.heap.size + 1 + 1, 1, none⟩ = false := by (first | go_cell | (simp [World.frozen?, World.alloc]; done) | rfl)
  have rl_1 : w.heap.size + 1 + 1 < (((w.alloc (.cells #[.int .i64 m, .slice ao l.length cap] 38)).alloc (.cells #[.int .i64 2, .int .i64 a, .int .i64 b, .int .i64 n] 27)).alloc (.cells #[.int .i64 0, .slice none 0 0] 38)).heap.size := by first | (simp; done) | (simp; omega)
  have c1 : Below w.heap.size w (((w.alloc (.cells #[.int .i64 m, .slice ao l.length cap] 38)).alloc (.cells #[.int .i64 2, .int .i64 a, .int .i64 b, .int .i64 n] 27)).alloc (.cells #[.int .i64 0, .slice none 0 0] 38)) := by go_grown
  have s1 : (((w.alloc (.cells #[.int .i64 m, .slice ao l.length cap] 38)).alloc (.cells #[.int .i64 2, .int .i64 a, .int .i64 b, .int .i64 n] 27)).alloc (.cells #[.int .i64 0, .slice none 0 0] 38)).heap.size = w.heap.size + 3 := by simp
  generalize (((w.alloc (.cells #[.int .i64 m, .slice ao l.length cap] 38)).alloc (.cells #[.int .i64 2, .int .i64 a, .int .i64 b, .int .i64 n] 27)).alloc (.cells #[.int .i64 0, .slice none 0 0] 38)) = w1 at x0_1 x1_1 xl_1 o0_1 o1_1 o2_1 o3_1 ol_1 r0_1 rf0_1 r1_1 rf1_1 rl_1 c1 s1 ⊢
  have qx0_1 := cell_regrown x0_1
  have qx1_1 := cell_regrown x1_1
  have qo0_1 := cell_regrown o0_1
  have qo1_1 := cell_regrown o1_1
  have qo2_1 := cell_regrown o2_1
  have qo3_1 := cell_regrown o3_1
  have qr0_1 := cell_regrown r0_1
  have qr1_1 := cell_regrown r1_1
  refine (specOk_any _ l _ (HR.out.later c1)).mono ?_
  rintro e w2 ⟨rfl, b2⟩
  rw [hok]
  have d2 : Below w1.heap.size w1 w2 := (Below.trans (by go_grown) (b2.mono (by first | omega | (simp; done) | (simp; omega))))
  have c2 : Below w.heap.size w w2 := c1.trans (d2.mono c1.size)
  have x0_2 : w2.cell? ⟨w.heap.size, 0, none⟩ = some (.int .i64 m) := (by rw [b2.cell (by first | omega | (simp; done) | (simp; omega))]; go_cell)
  have x1_2 : w2.cell? ⟨w.heap.size, 1, none⟩ = some (.slice ao l.length cap) := (by rw [b2.cell (by first | omega | (simp; done) | (simp; omega))]; go_cell)
  have xl_2 : w.heap.size < w2.heap.size := (by have := b2.size; first | omega | (revert this; simp; done) | (revert this; simp; omega))
  have o0_2 : w2.cell? ⟨w.heap.size + 1, 0, none⟩ = some (.int .i64 2) := (by rw [b2.cell (by first | omega | (simp; done) | (simp; omega))]; go_cell)
  have o1_2 : w2.cell? ⟨w.heap.size + 1, 1, none⟩ = some (.int .i64 a) := (by rw [b2.cell (by first | omega | (simp; done) | (simp; omega))]; go_cell)
  have o2_2 : w2.cell? ⟨w.heap.size + 1, 2, none⟩ = some (.int .i64 b) := (by rw [b2.cell (by first | omega | (simp; done) | (simp; omega))]; go_cell)
  have o3_2 : w2.cell? ⟨w.heap.size + 1, 3, none⟩ = some (.int .i64 n) := (by rw [b2.cell (by first | omega | (simp; done) | (simp; omega))]; go_cell)
  have ol_2 : w.heap.size + 1 < w2.heap.size := (by have := b2.size; first | omega | (revert this; simp; done) | (revert this; simp; omega))
  have r0_2 : w2.cell? ⟨w.heap.size + 1 + 1, 0, none⟩ = some (.int .i64 0) := (by rw [b2.cell (by first | omega | (simp; done) | (simp; omega))]; go_cell)
  have rf0_2 : w2.frozen? ⟨w.heap.size + 1 + 1, 0, none⟩ = false := (by rw [b2.frozen (by first | omega | (simp; done) | (simp; omega))]; (first | go_cell | (simp [World.frozen?, World.alloc]; done) | rfl))
  have r1_2 : w2.cell? ⟨w.heap.size + 1 + 1, 1, none⟩ = some (.slice none 0 0) := (by rw [b2.cell (by first | omega | (simp; done) | (simp; omega))]; go_cell)
  have rf1_2 : w2.frozen? ⟨w.heap.size + 1 + 1, 1, none⟩ = false := (by rw [b2.frozen (by first | omega | (simp; done) | (simp; omega))]; (first | go_cell | (simp [World.frozen?, World.alloc]; done) | rfl))
  have rl_2 : w.heap.size + 1 + 1 < w2.heap.size := (by have := b2.size; first | omega | (revert this; simp; done) | (revert this; simp; omega))
  clear x0_1 x1_1 xl_1 o0_1 o1_1 o2_1 o3_1 ol_1 r0_1 rf0_1 r1_1 rf1_1 rl_1
  clear b2 d2
  go_wp2_with fail
  refine (l1Add_any _ l who n _ (HR.out.later c2) hll hok).mono ?_
  rintro e w3 ⟨v', rfl, ho, b3⟩
  have HO := hid ho
  clear ho
  have hz2 : w.heap.size + 1 + 1 < w2.heap.size := rl_2
  have d3 : Below w2.heap.size w2 w3 := (Below.trans (by go_grown) (b3.mono (by first | omega | (simp; done) | (simp; omega))))
  have c3 : Below w.heap.size w w3 := c2.trans (d3.mono c2.size)
  have r0_3 : w3.cell? ⟨w.heap.size + 1 + 1, 0, none⟩ = some (.int .i64 0) := (by rw [b3.cell (by first | omega | (simp; done) | (simp; omega))]; go_cell)
  have rf0_3 : w3.frozen? ⟨w.heap.size + 1 + 1, 0, none⟩ = false := (by rw [b3.frozen (by first | omega | (simp; done) | (simp; omega))]; (first | go_cell | (simp [World.frozen?, World.alloc]; done) | rfl))
  have r1_3 : w3.cell? ⟨w.heap.size + 1 + 1, 1, none⟩ = some (.slice none 0 0) := (by rw [b3.cell (by first | omega | (simp; done) | (simp; omega))]; go_cell)
  have rf1_3 : w3.frozen? ⟨w.heap.size + 1 + 1, 1, none⟩ = false := (by rw [b3.frozen (by first | omega | (simp; done) | (simp; omega))]; (first | go_cell | (simp [World.frozen?, World.alloc]; done) | rfl))
  have rl_3 : w.heap.size + 1 + 1 < w3.heap.size := (by have := b3.size; first | omega | (revert this; simp; done) | (revert this; simp; omega))
  clear r0_2 rf0_2 r1_2 rf1_2 rl_2
  clear b3 d3
  obtain ⟨uo, uc, huv, _⟩ := HO.out.rd
  subst huv
  obtain ⟨q, hq⟩ : ∃ q, insL (l.filter (notWho who)) (who, n) = q := ⟨_, rfl⟩
  have HQ := hid hq
  rw [hq] at HO ⊢
  clear hq
  go_wp2
  have e0 : ((w3.setCell ⟨w.heap.size + 1 + 1, 0, none⟩ (.int .i64 (0))).setCell ⟨w.heap.size + 1 + 1, 1, none⟩ (.slice uo q.length uc)).cell? ⟨w.heap.size + 1 + 1, 0, none⟩ = some (.int .i64 (0)) := by go_cell
  have e1 : ((w3.setCell ⟨w.heap.size + 1 + 1, 0, none⟩ (.int .i64 (0))).setCell ⟨w.heap.size + 1 + 1, 1, none⟩ (.slice uo q.length uc)).cell? ⟨w.heap.size + 1 + 1, 1, none⟩ = some (.slice uo q.length uc) := by go_cell
  have HF := hid (((HO.out.setApart (p := ⟨w.heap.size + 1 + 1, 0, none⟩) (by show w.heap.size + 1 + 1 < _; omega) (.int .i64 (0))).setApart (p := ⟨w.heap.size + 1 + 1, 1, none⟩) (by show w.heap.size + 1 + 1 < _; omega) (.slice uo q.length uc)).mono (B' := w.heap.size) (by omega))
  refine bodyPost_ret (v := .agg #[.int .i64 (0), .slice uo q.length uc]) (by simp [results, Tryz.results102, go_sem, e0, e1]) rfl ⟨⟨_, rfl, by rw [HQ.out]; exact HF.out⟩, (c3.setCell (p := ⟨w.heap.size + 1 + 1, 0, none⟩) (by show w.heap.size ≤ w.heap.size + 1 + 1; omega) _).setCell (p := ⟨w.heap.size + 1 + 1, 1, none⟩) (by show w.heap.size ≤ w.heap.size + 1 + 1; omega) _⟩

set_option maxRecDepth 100000 in
set_option maxHeartbeats 1000000 in
theorem specKin_part (a b n m who : Int) (v : Value) (l : List (Int × Int)) (w : World) (h : Rd w v l) (hll : l.length ≤ 1099511627776) (hok : okL l = true) :
    Calls Tryz.prog 102 #[.agg #[.int .i64 m, v], .agg #[.int .i64 3, .int .i64 a, .int .i64 b, .int .i64 n], .int .i64 who] w fun e w' => ValA w.heap.size w' e 0 (l.filter (notWho who)) ∧ Below w.heap.size w w' := by
  have HR := hid h
  obtain ⟨ao, cap, hv, _⟩ := h
  subst hv
  go_enter Tryz.func102, Tryz.ntmps102
  go_wp2_with fail
  have x0_1 : (((w.alloc (.cells #[.int .i64 m, .slice ao l.length cap] 38)).alloc (.cells #[.int .i64 3, .int .i64 a, .int .i64 b, .int .i64 n] 27)).alloc (.cells #[.int .i64 0, .slice none 0 0] 38)).cell? ⟨w.heap.size, 0, none⟩ = some (.int .i64 m) := by go_cell
  have x1_1 : (((w.alloc (.cells #[.int .i64 m, .slice ao l.length cap] 38)).alloc (.cells #[.int .i64 3, .int .i64 a, .int .i64 b, .int .i64 n] 27)).alloc (.cells #[.int .i64 0, .slice none 0 0] 38)).cell? ⟨w.heap.size, 1, none⟩ = some (.slice ao l.length cap) := by go_cell
  have xl_1 : w.heap.size < (((w.alloc (.cells #[.int .i64 m, .slice ao l.length cap] 38)).alloc (.cells #[.int .i64 3, .int .i64 a, .int .i64 b, .int .i64 n] 27)).alloc (.cells #[.int .i64 0, .slice none 0 0] 38)).heap.size := by first | (simp; done) | (simp; omega)
  have o0_1 : (((w.alloc (.cells #[.int .i64 m, .slice ao l.length cap] 38)).alloc (.cells #[.int .i64 3, .int .i64 a, .int .i64 b, .int .i64 n] 27)).alloc (.cells #[.int .i64 0, .slice none 0 0] 38)).cell? ⟨w.heap.size + 1, 0, none⟩ = some (.int .i64 3) := by go_cell
  have o1_1 : (((w.alloc (.cells #[.int .i64 m, .slice ao l.length cap] 38)).alloc (.cells #[.int .i64 3, .int .i64 a, .int .i64 b, .int .i64 n] 27)).alloc (.cells #[.int .i64 0, .slice none 0 0] 38)).cell? ⟨w.heap.size + 1, 1, none⟩ = some (.int .i64 a) := by go_cell
  have o2_1 : (((w.alloc (.cells #[.int .i64 m, .slice ao l.length cap] 38)).alloc (.cells #[.int .i64 3, .int .i64 a, .int .i64 b, .int .i64 n] 27)).alloc (.cells #[.int .i64 0, .slice none 0 0] 38)).cell? ⟨w.heap.size + 1, 2, none⟩ = some (.int .i64 b) := by go_cell
  have o3_1 : (((w.alloc (.cells #[.int .i64 m, .slice ao l.length cap] 38)).alloc (.cells #[.int .i64 3, .int .i64 a, .int .i64 b, .int .i64 n] 27)).alloc (.cells #[.int .i64 0, .slice none 0 0] 38)).cell? ⟨w.heap.size + 1, 3, none⟩ = some (.int .i64 n) := by go_cell
  have ol_1 : w.heap.size + 1 < (((w.alloc (.cells #[.int .i64 m, .slice ao l.length cap] 38)).alloc (.cells #[.int .i64 3, .int .i64 a, .int .i64 b, .int .i64 n] 27)).alloc (.cells #[.int .i64 0, .slice none 0 0] 38)).heap.size := by first | (simp; done) | (simp; omega)
  have r0_1 : (((w.alloc (.cells #[.int .i64 m, .slice ao l.length cap] 38)).alloc (.cells #[.int .i64 3, .int .i64 a, .int .i64 b, .int .i64 n] 27)).alloc (.cells #[.int .i64 0, .slice none 0 0] 38)).cell? ⟨w.heap.size + 1 + 1, 0, none⟩ = some (.int .i64 0) := by go_cell
  have rf0_1 : (((w.alloc (.cells #[.int .i64 m, .slice ao l.length cap] 38)).alloc (.cells #[.int .i64 3, .int .i64 a, .int .i64 b, .int .i64 n] 27)).alloc (.cells #[.int .i64 0, .slice none 0 0] 38)).frozen? ⟨w.heap.size + 1 + 1, 0, none⟩ = false := by (first | go_cell | (simp [World.frozen?, World.alloc]; done) | rfl)
  have r1_1 : (((w.alloc (.cells #[.int .i64 m, .slice ao l.length cap] 38)).alloc (.cells #[.int .i64 3, .int .i64 a, .int .i64 b, .int .i64 n] 27)).alloc (.cells #[.int .i64 0, .slice none 0 0] 38)).cell? ⟨w.heap.size + 1 + 1, 1, none⟩ = some (.slice none 0 0) := by go_cell
  have rf1_1 : (((w.alloc (.cells #[.int .i64 m, .slice ao l.length cap] 38)).alloc (.cells #[.int .i64 3, .int .i64 a, .int .i64 b, .int .i64 n] 27)).alloc (.cells #[.int .i64 0, .slice none 0 0] 38)).frozen? ⟨w.heap.size + 1 + 1, 1, none⟩ = false := by (first | go_cell | (simp [World.frozen?, World.alloc]; done) | rfl)
  have rl_1 : w.heap.size + 1 + 1 < (((w.alloc (.cells #[.int .i64 m, .slice ao l.length cap] 38)).alloc (.cells #[.int .i64 3, .int .i64 a, .int .i64 b, .int .i64 n] 27)).alloc (.cells #[.int .i64 0, .slice none 0 0] 38)).heap.size := by first | (simp; done) | (simp; omega)
  have c1 : Below w.heap.size w (((w.alloc (.cells #[.int .i64 m, .slice ao l.length cap] 38)).alloc (.cells #[.int .i64 3, .int .i64 a, .int .i64 b, .int .i64 n] 27)).alloc (.cells #[.int .i64 0, .slice none 0 0] 38)) := by go_grown
  have s1 : (((w.alloc (.cells #[.int .i64 m, .slice ao l.length cap] 38)).alloc (.cells #[.int .i64 3, .int .i64 a, .int .i64 b, .int .i64 n] 27)).alloc (.cells #[.int .i64 0, .slice none 0 0] 38)).heap.size = w.heap.size + 3 := by simp
  generalize (((w.alloc (.cells #[.int .i64 m, .slice ao l.length cap] 38)).alloc (.cells #[.int .i64 3, .int .i64 a, .int .i64 b, .int .i64 n] 27)).alloc (.cells #[.int .i64 0, .slice none 0 0] 38)) = w1 at x0_1 x1_1 xl_1 o0_1 o1_1 o2_1 o3_1 ol_1 r0_1 rf0_1 r1_1 rf1_1 rl_1 c1 s1 ⊢
  have qx0_1 := cell_regrown x0_1
  have qx1_1 := cell_regrown x1_1
  have qo0_1 := cell_regrown o0_1
  have qo1_1 := cell_regrown o1_1
  have qo2_1 := cell_regrown o2_1
  have qo3_1 := cell_regrown o3_1
  have qr0_1 := cell_regrown r0_1
  have qr1_1 := cell_regrown r1_1
  refine (specOk_any _ l _ (HR.out.later c1)).mono ?_
  rintro e w2 ⟨rfl, b2⟩
  rw [hok]
  have d2 : Below w1.heap.size w1 w2 := (Below.trans (by go_grown) (b2.mono (by first | omega | (simp; done) | (simp; omega))))
  have c2 : Below w.heap.size w w2 := c1.trans (d2.mono c1.size)
  have x0_2 : w2.cell? ⟨w.heap.size, 0, none⟩ = some (.int .i64 m) := (by rw [b2.cell (by first | omega | (simp; done) | (simp; omega))]; go_cell)
  have x1_2 : w2.cell? ⟨w.heap.size, 1, none⟩ = some (.slice ao l.length cap) := (by rw [b2.cell (by first | omega | (simp; done) | (simp; omega))]; go_cell)
  have xl_2 : w.heap.size < w2.heap.size := (by have := b2.size; first | omega | (revert this; simp; done) | (revert this; simp; omega))
  have o0_2 : w2.cell? ⟨w.heap.size + 1, 0, none⟩ = some (.int .i64 3) := (by rw [b2.cell (by first | omega | (simp; done) | (simp; omega))]; go_cell)
  have o1_2 : w2.cell? ⟨w.heap.size + 1, 1, none⟩ = some (.int .i64 a) := (by rw [b2.cell (by first | omega | (simp; done) | (simp; omega))]; go_cell)
  have o2_2 : w2.cell? ⟨w.heap.size + 1, 2, none⟩ = some (.int .i64 b) := (by rw [b2.cell (by first | omega | (simp; done) | (simp; omega))]; go_cell)
  have o3_2 : w2.cell? ⟨w.heap.size + 1, 3, none⟩ = some (.int .i64 n) := (by rw [b2.cell (by first | omega | (simp; done) | (simp; omega))]; go_cell)
  have ol_2 : w.heap.size + 1 < w2.heap.size := (by have := b2.size; first | omega | (revert this; simp; done) | (revert this; simp; omega))
  have r0_2 : w2.cell? ⟨w.heap.size + 1 + 1, 0, none⟩ = some (.int .i64 0) := (by rw [b2.cell (by first | omega | (simp; done) | (simp; omega))]; go_cell)
  have rf0_2 : w2.frozen? ⟨w.heap.size + 1 + 1, 0, none⟩ = false := (by rw [b2.frozen (by first | omega | (simp; done) | (simp; omega))]; (first | go_cell | (simp [World.frozen?, World.alloc]; done) | rfl))
  have r1_2 : w2.cell? ⟨w.heap.size + 1 + 1, 1, none⟩ = some (.slice none 0 0) := (by rw [b2.cell (by first | omega | (simp; done) | (simp; omega))]; go_cell)
  have rf1_2 : w2.frozen? ⟨w.heap.size + 1 + 1, 1, none⟩ = false := (by rw [b2.frozen (by first | omega | (simp; done) | (simp; omega))]; (first | go_cell | (simp [World.frozen?, World.alloc]; done) | rfl))
  have rl_2 : w.heap.size + 1 + 1 < w2.heap.size := (by have := b2.size; first | omega | (revert this; simp; done) | (revert this; simp; omega))
  clear x0_1 x1_1 xl_1 o0_1 o1_1 o2_1 o3_1 ol_1 r0_1 rf0_1 r1_1 rf1_1 rl_1
  clear b2 d2
  go_wp2_with fail
  refine (l1Drop_any _ l who _ (HR.out.later c2) hll).mono ?_
  rintro e w3 ⟨v', rfl, ho, _, b3⟩
  have HO := hid ho
  clear ho
  have hz2 : w.heap.size + 1 + 1 < w2.heap.size := rl_2
  have d3 : Below w2.heap.size w2 w3 := (Below.trans (by go_grown) (b3.mono (by first | omega | (simp; done) | (simp; omega))))
  have c3 : Below w.heap.size w w3 := c2.trans (d3.mono c2.size)
  have r0_3 : w3.cell? ⟨w.heap.size + 1 + 1, 0, none⟩ = some (.int .i64 0) := (by rw [b3.cell (by first | omega | (simp; done) | (simp; omega))]; go_cell)
  have rf0_3 : w3.frozen? ⟨w.heap.size + 1 + 1, 0, none⟩ = false := (by rw [b3.frozen (by first | omega | (simp; done) | (simp; omega))]; (first | go_cell | (simp [World.frozen?, World.alloc]; done) | rfl))
  have r1_3 : w3.cell? ⟨w.heap.size + 1 + 1, 1, none⟩ = some (.slice none 0 0) := (by rw [b3.cell (by first | omega | (simp; done) | (simp; omega))]; go_cell)
  have rf1_3 : w3.frozen? ⟨w.heap.size + 1 + 1, 1, none⟩ = false := (by rw [b3.frozen (by first | omega | (simp; done) | (simp; omega))]; (first | go_cell | (simp [World.frozen?, World.alloc]; done) | rfl))
  have rl_3 : w.heap.size + 1 + 1 < w3.heap.size := (by have := b3.size; first | omega | (revert this; simp; done) | (revert this; simp; omega))
  clear r0_2 rf0_2 r1_2 rf1_2 rl_2
  clear b3 d3
  obtain ⟨uo, uc, huv, _⟩ := HO.out.rd
  subst huv
  obtain ⟨q, hq⟩ : ∃ q, l.filter (notWho who) = q := ⟨_, rfl⟩
  have HQ := hid hq
  rw [hq] at HO ⊢
  clear hq
  go_wp2
  have e0 : ((w3.setCell ⟨w.heap.size + 1 + 1, 0, none⟩ (.int .i64 (0))).setCell ⟨w.heap.size + 1 + 1, 1, none⟩ (.slice uo q.length uc)).cell? ⟨w.heap.size + 1 + 1, 0, none⟩ = some (.int .i64 (0)) := by go_cell
  have e1 : ((w3.setCell ⟨w.heap.size + 1 + 1, 0, none⟩ (.int .i64 (0))).setCell ⟨w.heap.size + 1 + 1, 1, none⟩ (.slice uo q.length uc)).cell? ⟨w.heap.size + 1 + 1, 1, none⟩ = some (.slice uo q.length uc) := by go_cell
  have HF := hid (((HO.out.setApart (p := ⟨w.heap.size + 1 + 1, 0, none⟩) (by show w.heap.size + 1 + 1 < _; omega) (.int .i64 (0))).setApart (p := ⟨w.heap.size + 1 + 1, 1, none⟩) (by show w.heap.size + 1 + 1 < _; omega) (.slice uo q.length uc)).mono (B' := w.heap.size) (by omega))
  refine bodyPost_ret (v := .agg #[.int .i64 (0), .slice uo q.length uc]) (by simp [results, Tryz.results102, go_sem, e0, e1]) rfl ⟨⟨_, rfl, by rw [HQ.out]; exact HF.out⟩, (c3.setCell (p := ⟨w.heap.size + 1 + 1, 0, none⟩) (by show w.heap.size ≤ w.heap.size + 1 + 1; omega) _).setCell (p := ⟨w.heap.size + 1 + 1, 1, none⟩) (by show w.heap.size ≤ w.heap.size + 1 + 1; omega) _⟩

theorem rightB_bind {k a b n : Int} (h : bindOk k a b n) : rightB (a, n) = true ∧ rightB (b, n) = true := by
  obtain ⟨_, h1, h2, _, h3, h4⟩ := h
  exact ⟨rightB_iff.2 ⟨h1.1, h1.2, h3, h4⟩, rightB_iff.2 ⟨h2.1, h2.2, h3, h4⟩⟩
/-- l3Kin of an ok bond. -/
theorem specKin_any (k a b n m who : Int) (v : Value) (l : List (Int × Int)) (w : World) (h : Rd w v l) (hll : l.length ≤ 1099511627776) (hw : who = a ∨ who = b) (hk : bindOk k a b n ∨ partOk k a b n) :
    Calls Tryz.prog 102 #[.agg #[.int .i64 m, v], .agg #[.int .i64 k, .int .i64 a, .int .i64 b, .int .i64 n], .int .i64 who] w fun e w' => ValA w.heap.size w' e 0 (if bindOk k a b n then addL l who n else dropL l who) ∧ Below w.heap.size w w' := by
  rcases hk with hk | hk
  · rw [if_pos hk]
    cases hok : okL l with
    | false =>
      have e : addL l who n = [] := by simp [addL, addB, hok]
      rw [e]
      exact specKin_bad k a b n m who v l w h hok
    | true =>
      have hr : rightB (who, n) = true := by
        rcases hw with rfl | rfl
        · exact (rightB_bind hk).1
        · exact (rightB_bind hk).2
      have e : addL l who n = insL (l.filter (notWho who)) (who, n) := by simp [addL, addB, hok, hr]
      rw [e]
      obtain ⟨rfl, _⟩ := hk
      exact specKin_bind a b n m who v l w h hll hok
  · have hnb : ¬ bindOk k a b n := fun h2 => by have := hk.1; have := h2.1; omega
    rw [if_neg hnb]
    cases hok : okL l with
    | false =>
      have e : dropL l who = [] := by simp [dropL, hok]
      rw [e]
      exact specKin_bad k a b n m who v l w h hok
    | true =>
      have e : dropL l who = l.filter (notWho who) := by simp [dropL, hok]
      rw [e]
      obtain ⟨rfl, _⟩ := hk
      exact specKin_part a b n m who v l w h hll hok

end Go.Proofs.YtkmhnjgncnoddaaGreat

/- Part: spec.OpDo: contract. -/
namespace Go.Proofs.YtkmhnjgncnoddaaGreat
open Go.RowKit
attribute [local go_sem ↓] Go.wp_at_zero Go.wp_at_succ

set_option maxRecDepth 100000 in
set_option maxHeartbeats 1000000 in
theorem specDo_no (k a b n m : Int) (v : Value) (l : List (Int × Int)) (w : World) (h : Rd w v l) (_ : l.length ≤ 1099511627776) (HOK : opOk k a b n = false) :
    Calls Tryz.prog 40 #[.agg #[.int .i64 m, v], .agg #[.int .i64 k, .int .i64 a, .int .i64 b, .int .i64 n]] w fun e w' => ValA w.heap.size w' e (0) ([]) ∧ Below w.heap.size w w' := by
  have HS := fun w => specOpOk_any k a b n w
  rw [HOK] at HS
  clear HOK
  obtain ⟨ao, cap, hv, _⟩ := h
  subst hv
  go_enter Tryz.func40, Tryz.ntmps40
  go_wp2_with fail
  have x0_1 : (((w.alloc (.cells #[.int .i64 m, .slice ao l.length cap] 38)).alloc (.cells #[.int .i64 k, .int .i64 a, .int .i64 b, .int .i64 n] 27)).alloc (.cells #[.int .i64 0, .slice none 0 0] 38)).cell? ⟨w.heap.size, 0, none⟩ = some (.int .i64 m) := by go_cell
  have x1_1 : (((w.alloc (.cells #[.int .i64 m, .slice ao l.length cap] 38)).alloc (.cells #[.int .i64 k, .int .i64 a, .int .i64 b, .int .i64 n] 27)).alloc (.cells #[.int .i64 0, .slice none 0 0] 38)).cell? ⟨w.heap.size, 1, none⟩ = some (.slice ao l.length cap) := by go_cell
  have xl_1 : w.heap.size < (((w.alloc (.cells #[.int .i64 m, .slice ao l.length cap] 38)).alloc (.cells #[.int .i64 k, .int .i64 a, .int .i64 b, .int .i64 n] 27)).alloc (.cells #[.int .i64 0, .slice none 0 0] 38)).heap.size := by first | (simp; done) | (simp; omega)
  have o0_1 : (((w.alloc (.cells #[.int .i64 m, .slice ao l.length cap] 38)).alloc (.cells #[.int .i64 k, .int .i64 a, .int .i64 b, .int .i64 n] 27)).alloc (.cells #[.int .i64 0, .slice none 0 0] 38)).cell? ⟨w.heap.size + 1, 0, none⟩ = some (.int .i64 k) := by go_cell
  have o1_1 : (((w.alloc (.cells #[.int .i64 m, .slice ao l.length cap] 38)).alloc (.cells #[.int .i64 k, .int .i64 a, .int .i64 b, .int .i64 n] 27)).alloc (.cells #[.int .i64 0, .slice none 0 0] 38)).cell? ⟨w.heap.size + 1, 1, none⟩ = some (.int .i64 a) := by go_cell
  have o2_1 : (((w.alloc (.cells #[.int .i64 m, .slice ao l.length cap] 38)).alloc (.cells #[.int .i64 k, .int .i64 a, .int .i64 b, .int .i64 n] 27)).alloc (.cells #[.int .i64 0, .slice none 0 0] 38)).cell? ⟨w.heap.size + 1, 2, none⟩ = some (.int .i64 b) := by go_cell
  have o3_1 : (((w.alloc (.cells #[.int .i64 m, .slice ao l.length cap] 38)).alloc (.cells #[.int .i64 k, .int .i64 a, .int .i64 b, .int .i64 n] 27)).alloc (.cells #[.int .i64 0, .slice none 0 0] 38)).cell? ⟨w.heap.size + 1, 3, none⟩ = some (.int .i64 n) := by go_cell
  have ol_1 : w.heap.size + 1 < (((w.alloc (.cells #[.int .i64 m, .slice ao l.length cap] 38)).alloc (.cells #[.int .i64 k, .int .i64 a, .int .i64 b, .int .i64 n] 27)).alloc (.cells #[.int .i64 0, .slice none 0 0] 38)).heap.size := by first | (simp; done) | (simp; omega)
  have r0_1 : (((w.alloc (.cells #[.int .i64 m, .slice ao l.length cap] 38)).alloc (.cells #[.int .i64 k, .int .i64 a, .int .i64 b, .int .i64 n] 27)).alloc (.cells #[.int .i64 0, .slice none 0 0] 38)).cell? ⟨w.heap.size + 1 + 1, 0, none⟩ = some (.int .i64 0) := by go_cell
  have rf0_1 : (((w.alloc (.cells #[.int .i64 m, .slice ao l.length cap] 38)).alloc (.cells #[.int .i64 k, .int .i64 a, .int .i64 b, .int .i64 n] 27)).alloc (.cells #[.int .i64 0, .slice none 0 0] 38)).frozen? ⟨w.heap.size + 1 + 1, 0, none⟩ = false := by (first | go_cell | (simp [World.frozen?, World.alloc]; done) | rfl)
  have r1_1 : (((w.alloc (.cells #[.int .i64 m, .slice ao l.length cap] 38)).alloc (.cells #[.int .i64 k, .int .i64 a, .int .i64 b, .int .i64 n] 27)).alloc (.cells #[.int .i64 0, .slice none 0 0] 38)).cell? ⟨w.heap.size + 1 + 1, 1, none⟩ = some (.slice none 0 0) := by go_cell
  have rf1_1 : (((w.alloc (.cells #[.int .i64 m, .slice ao l.length cap] 38)).alloc (.cells #[.int .i64 k, .int .i64 a, .int .i64 b, .int .i64 n] 27)).alloc (.cells #[.int .i64 0, .slice none 0 0] 38)).frozen? ⟨w.heap.size + 1 + 1, 1, none⟩ = false := by (first | go_cell | (simp [World.frozen?, World.alloc]; done) | rfl)
  have rl_1 : w.heap.size + 1 + 1 < (((w.alloc (.cells #[.int .i64 m, .slice ao l.length cap] 38)).alloc (.cells #[.int .i64 k, .int .i64 a, .int .i64 b, .int .i64 n] 27)).alloc (.cells #[.int .i64 0, .slice none 0 0] 38)).heap.size := by first | (simp; done) | (simp; omega)
  have c1 : Below w.heap.size w (((w.alloc (.cells #[.int .i64 m, .slice ao l.length cap] 38)).alloc (.cells #[.int .i64 k, .int .i64 a, .int .i64 b, .int .i64 n] 27)).alloc (.cells #[.int .i64 0, .slice none 0 0] 38)) := by go_grown
  have s1 : (((w.alloc (.cells #[.int .i64 m, .slice ao l.length cap] 38)).alloc (.cells #[.int .i64 k, .int .i64 a, .int .i64 b, .int .i64 n] 27)).alloc (.cells #[.int .i64 0, .slice none 0 0] 38)).heap.size = w.heap.size + 3 := by simp
  generalize (((w.alloc (.cells #[.int .i64 m, .slice ao l.length cap] 38)).alloc (.cells #[.int .i64 k, .int .i64 a, .int .i64 b, .int .i64 n] 27)).alloc (.cells #[.int .i64 0, .slice none 0 0] 38)) = w1 at x0_1 x1_1 xl_1 o0_1 o1_1 o2_1 o3_1 ol_1 r0_1 rf0_1 r1_1 rf1_1 rl_1 c1 s1 ⊢
  have qx0_1 := cell_regrown x0_1
  have qx1_1 := cell_regrown x1_1
  have qo0_1 := cell_regrown o0_1
  have qo1_1 := cell_regrown o1_1
  have qo2_1 := cell_regrown o2_1
  have qo3_1 := cell_regrown o3_1
  have qr0_1 := cell_regrown r0_1
  have qr1_1 := cell_regrown r1_1
  refine (HS _).mono ?_
  rintro e w2 ⟨rfl, b2⟩
  have d2 : Below w1.heap.size w1 w2 := (Below.trans (by go_grown) (b2.mono (by first | omega | (simp; done) | (simp; omega))))
  have c2 : Below w.heap.size w w2 := c1.trans (d2.mono c1.size)
  have x0_2 : w2.cell? ⟨w.heap.size, 0, none⟩ = some (.int .i64 m) := (by rw [b2.cell (by first | omega | (simp; done) | (simp; omega))]; go_cell)
  have x1_2 : w2.cell? ⟨w.heap.size, 1, none⟩ = some (.slice ao l.length cap) := (by rw [b2.cell (by first | omega | (simp; done) | (simp; omega))]; go_cell)
  have xl_2 : w.heap.size < w2.heap.size := (by have := b2.size; first | omega | (revert this; simp; done) | (revert this; simp; omega))
  have o0_2 : w2.cell? ⟨w.heap.size + 1, 0, none⟩ = some (.int .i64 k) := (by rw [b2.cell (by first | omega | (simp; done) | (simp; omega))]; go_cell)
  have o1_2 : w2.cell? ⟨w.heap.size + 1, 1, none⟩ = some (.int .i64 a) := (by rw [b2.cell (by first | omega | (simp; done) | (simp; omega))]; go_cell)
  have o2_2 : w2.cell? ⟨w.heap.size + 1, 2, none⟩ = some (.int .i64 b) := (by rw [b2.cell (by first | omega | (simp; done) | (simp; omega))]; go_cell)
  have o3_2 : w2.cell? ⟨w.heap.size + 1, 3, none⟩ = some (.int .i64 n) := (by rw [b2.cell (by first | omega | (simp; done) | (simp; omega))]; go_cell)
  have ol_2 : w.heap.size + 1 < w2.heap.size := (by have := b2.size; first | omega | (revert this; simp; done) | (revert this; simp; omega))
  have r0_2 : w2.cell? ⟨w.heap.size + 1 + 1, 0, none⟩ = some (.int .i64 0) := (by rw [b2.cell (by first | omega | (simp; done) | (simp; omega))]; go_cell)
  have rf0_2 : w2.frozen? ⟨w.heap.size + 1 + 1, 0, none⟩ = false := (by rw [b2.frozen (by first | omega | (simp; done) | (simp; omega))]; (first | go_cell | (simp [World.frozen?, World.alloc]; done) | rfl))
  have r1_2 : w2.cell? ⟨w.heap.size + 1 + 1, 1, none⟩ = some (.slice none 0 0) := (by rw [b2.cell (by first | omega | (simp; done) | (simp; omega))]; go_cell)
  have rf1_2 : w2.frozen? ⟨w.heap.size + 1 + 1, 1, none⟩ = false := (by rw [b2.frozen (by first | omega | (simp; done) | (simp; omega))]; (first | go_cell | (simp [World.frozen?, World.alloc]; done) | rfl))
  have rl_2 : w.heap.size + 1 + 1 < w2.heap.size := (by have := b2.size; first | omega | (revert this; simp; done) | (revert this; simp; omega))
  clear x0_1 x1_1 xl_1 o0_1 o1_1 o2_1 o3_1 ol_1 r0_1 rf0_1 r1_1 rf1_1 rl_1
  clear b2 d2
  go_wp2_with fail
  have e0 : ((w2.setCell ⟨w.heap.size + 1 + 1, 0, none⟩ (.int .i64 (0))).setCell ⟨w.heap.size + 1 + 1, 1, none⟩ (.slice none 0 0)).cell? ⟨w.heap.size + 1 + 1, 0, none⟩ = some (.int .i64 (0)) := by go_cell
  have e1 : ((w2.setCell ⟨w.heap.size + 1 + 1, 0, none⟩ (.int .i64 (0))).setCell ⟨w.heap.size + 1 + 1, 1, none⟩ (.slice none 0 0)).cell? ⟨w.heap.size + 1 + 1, 1, none⟩ = some (.slice none 0 0) := by go_cell
  refine bodyPost_ret (v := .agg #[.int .i64 (0), .slice none 0 0]) (by simp [results, Tryz.results40, go_sem, e0, e1]) rfl ⟨valA_nil _ _ _, (c2.setCell (p := ⟨w.heap.size + 1 + 1, 0, none⟩) (by show w.heap.size ≤ w.heap.size + 1 + 1; omega) _).setCell (p := ⟨w.heap.size + 1 + 1, 1, none⟩) (by show w.heap.size ≤ w.heap.size + 1 + 1; omega) _⟩

set_option maxRecDepth 100000 in
set_option maxHeartbeats 1000000 in
theorem specDo_set (k a b n m : Int) (v : Value) (l : List (Int × Int)) (w : World) (h : Rd w v l) (_ : l.length ≤ 1099511627776) (hs : setOk k a b n) (HOK : opOk k a b n = true) :
    Calls Tryz.prog 40 #[.agg #[.int .i64 m, v], .agg #[.int .i64 k, .int .i64 a, .int .i64 b, .int .i64 n]] w fun e w' => ValA w.heap.size w' e (n) ([]) ∧ Below w.heap.size w w' := by
  have HS := fun w => specOpOk_any k a b n w
  rw [HOK] at HS
  clear HOK
  obtain ⟨ao, cap, hv, _⟩ := h
  subst hv
  obtain ⟨rfl, -⟩ := hs
  go_enter Tryz.func40, Tryz.ntmps40
  go_wp2_with fail
  have x0_1 : (((w.alloc (.cells #[.int .i64 m, .slice ao l.length cap] 38)).alloc (.cells #[.int .i64 1, .int .i64 a, .int .i64 b, .int .i64 n] 27)).alloc (.cells #[.int .i64 0, .slice none 0 0] 38)).cell? ⟨w.heap.size, 0, none⟩ = some (.int .i64 m) := by go_cell
  have x1_1 : (((w.alloc (.cells #[.int .i64 m, .slice ao l.length cap] 38)).alloc (.cells #[.int .i64 1, .int .i64 a, .int .i64 b, .int .i64 n] 27)).alloc (.cells #[.int .i64 0, .slice none 0 0] 38)).cell? ⟨w.heap.size, 1, none⟩ = some (.slice ao l.length cap) := by go_cell
  have xl_1 : w.heap.size < (((w.alloc (.cells #[.int .i64 m, .slice ao l.length cap] 38)).alloc (.cells #[.int .i64 1, .int .i64 a, .int .i64 b, .int .i64 n] 27)).alloc (.cells #[.int .i64 0, .slice none 0 0] 38)).heap.size := by first | (simp; done) | (simp; omega)
  have o0_1 : (((w.alloc (.cells #[.int .i64 m, .slice ao l.length cap] 38)).alloc (.cells #[.int .i64 1, .int .i64 a, .int .i64 b, .int .i64 n] 27)).alloc (.cells #[.int .i64 0, .slice none 0 0] 38)).cell? ⟨w.heap.size + 1, 0, none⟩ = some (.int .i64 1) := by go_cell
  have o1_1 : (((w.alloc (.cells #[.int .i64 m, .slice ao l.length cap] 38)).alloc (.cells #[.int .i64 1, .int .i64 a, .int .i64 b, .int .i64 n] 27)).alloc (.cells #[.int .i64 0, .slice none 0 0] 38)).cell? ⟨w.heap.size + 1, 1, none⟩ = some (.int .i64 a) := by go_cell
  have o2_1 : (((w.alloc (.cells #[.int .i64 m, .slice ao l.length cap] 38)).alloc (.cells #[.int .i64 1, .int .i64 a, .int .i64 b, .int .i64 n] 27)).alloc (.cells #[.int .i64 0, .slice none 0 0] 38)).cell? ⟨w.heap.size + 1, 2, none⟩ = some (.int .i64 b) := by go_cell
  have o3_1 : (((w.alloc (.cells #[.int .i64 m, .slice ao l.length cap] 38)).alloc (.cells #[.int .i64 1, .int .i64 a, .int .i64 b, .int .i64 n] 27)).alloc (.cells #[.int .i64 0, .slice none 0 0] 38)).cell? ⟨w.heap.size + 1, 3, none⟩ = some (.int .i64 n) := by go_cell
  have ol_1 : w.heap.size + 1 < (((w.alloc (.cells #[.int .i64 m, .slice ao l.length cap] 38)).alloc (.cells #[.int .i64 1, .int .i64 a, .int .i64 b, .int .i64 n] 27)).alloc (.cells #[.int .i64 0, .slice none 0 0] 38)).heap.size := by first | (simp; done) | (simp; omega)
  have r0_1 : (((w.alloc (.cells #[.int .i64 m, .slice ao l.length cap] 38)).alloc (.cells #[.int .i64 1, .int .i64 a, .int .i64 b, .int .i64 n] 27)).alloc (.cells #[.int .i64 0, .slice none 0 0] 38)).cell? ⟨w.heap.size + 1 + 1, 0, none⟩ = some (.int .i64 0) := by go_cell
  have rf0_1 : (((w.alloc (.cells #[.int .i64 m, .slice ao l.length cap] 38)).alloc (.cells #[.int .i64 1, .int .i64 a, .int .i64 b, .int .i64 n] 27)).alloc (.cells #[.int .i64 0, .slice none 0 0] 38)).frozen? ⟨w.heap.size + 1 + 1, 0, none⟩ = false := by (first | go_cell | (simp [World.frozen?, World.alloc]; done) | rfl)
  have r1_1 : (((w.alloc (.cells #[.int .i64 m, .slice ao l.length cap] 38)).alloc (.cells #[.int .i64 1, .int .i64 a, .int .i64 b, .int .i64 n] 27)).alloc (.cells #[.int .i64 0, .slice none 0 0] 38)).cell? ⟨w.heap.size + 1 + 1, 1, none⟩ = some (.slice none 0 0) := by go_cell
  have rf1_1 : (((w.alloc (.cells #[.int .i64 m, .slice ao l.length cap] 38)).alloc (.cells #[.int .i64 1, .int .i64 a, .int .i64 b, .int .i64 n] 27)).alloc (.cells #[.int .i64 0, .slice none 0 0] 38)).frozen? ⟨w.heap.size + 1 + 1, 1, none⟩ = false := by (first | go_cell | (simp [World.frozen?, World.alloc]; done) | rfl)
  have rl_1 : w.heap.size + 1 + 1 < (((w.alloc (.cells #[.int .i64 m, .slice ao l.length cap] 38)).alloc (.cells #[.int .i64 1, .int .i64 a, .int .i64 b, .int .i64 n] 27)).alloc (.cells #[.int .i64 0, .slice none 0 0] 38)).heap.size := by first | (simp; done) | (simp; omega)
  have c1 : Below w.heap.size w (((w.alloc (.cells #[.int .i64 m, .slice ao l.length cap] 38)).alloc (.cells #[.int .i64 1, .int .i64 a, .int .i64 b, .int .i64 n] 27)).alloc (.cells #[.int .i64 0, .slice none 0 0] 38)) := by go_grown
  have s1 : (((w.alloc (.cells #[.int .i64 m, .slice ao l.length cap] 38)).alloc (.cells #[.int .i64 1, .int .i64 a, .int .i64 b, .int .i64 n] 27)).alloc (.cells #[.int .i64 0, .slice none 0 0] 38)).heap.size = w.heap.size + 3 := by simp
  generalize (((w.alloc (.cells #[.int .i64 m, .slice ao l.length cap] 38)).alloc (.cells #[.int .i64 1, .int .i64 a, .int .i64 b, .int .i64 n] 27)).alloc (.cells #[.int .i64 0, .slice none 0 0] 38)) = w1 at x0_1 x1_1 xl_1 o0_1 o1_1 o2_1 o3_1 ol_1 r0_1 rf0_1 r1_1 rf1_1 rl_1 c1 s1 ⊢
  have qx0_1 := cell_regrown x0_1
  have qx1_1 := cell_regrown x1_1
  have qo0_1 := cell_regrown o0_1
  have qo1_1 := cell_regrown o1_1
  have qo2_1 := cell_regrown o2_1
  have qo3_1 := cell_regrown o3_1
  have qr0_1 := cell_regrown r0_1
  have qr1_1 := cell_regrown r1_1
  refine (HS _).mono ?_
  rintro e w2 ⟨rfl, b2⟩
  have d2 : Below w1.heap.size w1 w2 := (Below.trans (by go_grown) (b2.mono (by first | omega | (simp; done) | (simp; omega))))
  have c2 : Below w.heap.size w w2 := c1.trans (d2.mono c1.size)
  have x0_2 : w2.cell? ⟨w.heap.size, 0, none⟩ = some (.int .i64 m) := (by rw [b2.cell (by first | omega | (simp; done) | (simp; omega))]; go_cell)
  have x1_2 : w2.cell? ⟨w.heap.size, 1, none⟩ = some (.slice ao l.length cap) := (by rw [b2.cell (by first | omega | (simp; done) | (simp; omega))]; go_cell)
  have xl_2 : w.heap.size < w2.heap.size := (by have := b2.size; first | omega | (revert this; simp; done) | (revert this; simp; omega))
  have o0_2 : w2.cell? ⟨w.heap.size + 1, 0, none⟩ = some (.int .i64 1) := (by rw [b2.cell (by first | omega | (simp; done) | (simp; omega))]; go_cell)
  have o1_2 : w2.cell? ⟨w.heap.size + 1, 1, none⟩ = some (.int .i64 a) := (by rw [b2.cell (by first | omega | (simp; done) | (simp; omega))]; go_cell)
  have o2_2 : w2.cell? ⟨w.heap.size + 1, 2, none⟩ = some (.int .i64 b) := (by rw [b2.cell (by first | omega | (simp; done) | (simp; omega))]; go_cell)
  have o3_2 : w2.cell? ⟨w.heap.size + 1, 3, none⟩ = some (.int .i64 n) := (by rw [b2.cell (by first | omega | (simp; done) | (simp; omega))]; go_cell)
  have ol_2 : w.heap.size + 1 < w2.heap.size := (by have := b2.size; first | omega | (revert this; simp; done) | (revert this; simp; omega))
  have r0_2 : w2.cell? ⟨w.heap.size + 1 + 1, 0, none⟩ = some (.int .i64 0) := (by rw [b2.cell (by first | omega | (simp; done) | (simp; omega))]; go_cell)
  have rf0_2 : w2.frozen? ⟨w.heap.size + 1 + 1, 0, none⟩ = false := (by rw [b2.frozen (by first | omega | (simp; done) | (simp; omega))]; (first | go_cell | (simp [World.frozen?, World.alloc]; done) | rfl))
  have r1_2 : w2.cell? ⟨w.heap.size + 1 + 1, 1, none⟩ = some (.slice none 0 0) := (by rw [b2.cell (by first | omega | (simp; done) | (simp; omega))]; go_cell)
  have rf1_2 : w2.frozen? ⟨w.heap.size + 1 + 1, 1, none⟩ = false := (by rw [b2.frozen (by first | omega | (simp; done) | (simp; omega))]; (first | go_cell | (simp [World.frozen?, World.alloc]; done) | rfl))
  have rl_2 : w.heap.size + 1 + 1 < w2.heap.size := (by have := b2.size; first | omega | (revert this; simp; done) | (revert this; simp; omega))
  clear x0_1 x1_1 xl_1 o0_1 o1_1 o2_1 o3_1 ol_1 r0_1 rf0_1 r1_1 rf1_1 rl_1
  clear b2 d2
  go_wp2_with fail
  have e0 : ((w2.setCell ⟨w.heap.size + 1 + 1, 0, none⟩ (.int .i64 (n))).setCell ⟨w.heap.size + 1 + 1, 1, none⟩ (.slice none 0 0)).cell? ⟨w.heap.size + 1 + 1, 0, none⟩ = some (.int .i64 (n)) := by go_cell
  have e1 : ((w2.setCell ⟨w.heap.size + 1 + 1, 0, none⟩ (.int .i64 (n))).setCell ⟨w.heap.size + 1 + 1, 1, none⟩ (.slice none 0 0)).cell? ⟨w.heap.size + 1 + 1, 1, none⟩ = some (.slice none 0 0) := by go_cell
  refine bodyPost_ret (v := .agg #[.int .i64 (n), .slice none 0 0]) (by simp [results, Tryz.results40, go_sem, e0, e1]) rfl ⟨valA_nil _ _ _, (c2.setCell (p := ⟨w.heap.size + 1 + 1, 0, none⟩) (by show w.heap.size ≤ w.heap.size + 1 + 1; omega) _).setCell (p := ⟨w.heap.size + 1 + 1, 1, none⟩) (by show w.heap.size ≤ w.heap.size + 1 + 1; omega) _⟩

set_option maxRecDepth 100000 in
set_option maxHeartbeats 1000000 in
theorem specDo_bind (k a b n m : Int) (v : Value) (l : List (Int × Int)) (w : World) (h : Rd w v l) (hll : l.length ≤ 1099511627776) (hs : bindOk k a b n) (HOK : opOk k a b n = true) :
    Calls Tryz.prog 40 #[.agg #[.int .i64 m, v], .agg #[.int .i64 k, .int .i64 a, .int .i64 b, .int .i64 n]] w fun e w' => ValA w.heap.size w' e (0) (addL l b n) ∧ Below w.heap.size w w' := by
  have HS := fun w => specOpOk_any k a b n w
  rw [HOK] at HS
  clear HOK
  have HR := hid h
  obtain ⟨ao, cap, hv, _⟩ := h
  subst hv
  have HC := hid (show (∀ (v : Value) (w : World), Rd w v l → Calls Tryz.prog 102 #[.agg #[.int .i64 m, v], .agg #[.int .i64 k, .int .i64 a, .int .i64 b, .int .i64 n], .int .i64 b] w fun e w' => ValA w.heap.size w' e 0 (addL l b n) ∧ Below w.heap.size w w') from fun v w hr => by
    have := specKin_any k a b n m b v l w hr hll (Or.inr rfl) (Or.inl hs)
    rwa [if_pos hs] at this)
  obtain ⟨rfl, -⟩ := hs
  obtain ⟨q, hq⟩ : ∃ q, addL l b n = q := ⟨_, rfl⟩
  have HQ := hid hq
  rw [hq] at HC
  clear hq
  go_enter Tryz.func40, Tryz.ntmps40
  go_wp2_with fail
  have x0_1 : (((w.alloc (.cells #[.int .i64 m, .slice ao l.length cap] 38)).alloc (.cells #[.int .i64 2, .int .i64 a, .int .i64 b, .int .i64 n] 27)).alloc (.cells #[.int .i64 0, .slice none 0 0] 38)).cell? ⟨w.heap.size, 0, none⟩ = some (.int .i64 m) := by go_cell
  have x1_1 : (((w.alloc (.cells #[.int .i64 m, .slice ao l.length cap] 38)).alloc (.cells #[.int .i64 2, .int .i64 a, .int .i64 b, .int .i64 n] 27)).alloc (.cells #[.int .i64 0, .slice none 0 0] 38)).cell? ⟨w.heap.size, 1, none⟩ = some (.slice ao l.length cap) := by go_cell
  have xl_1 : w.heap.size < (((w.alloc (.cells #[.int .i64 m, .slice ao l.length cap] 38)).alloc (.cells #[.int .i64 2, .int .i64 a, .int .i64 b, .int .i64 n] 27)).alloc (.cells #[.int .i64 0, .slice none 0 0] 38)).heap.size := by first | (simp; done) | (simp; omega)
  have o0_1 : (((w.alloc (.cells #[.int .i64 m, .slice ao l.length cap] 38)).alloc (.cells #[.int .i64 2, .int .i64 a, .int .i64 b, .int .i64 n] 27)).alloc (.cells #[.int .i64 0, .slice none 0 0] 38)).cell? ⟨w.heap.size + 1, 0, none⟩ = some (.int .i64 2) := by go_cell
  have o1_1 : (((w.alloc (.cells #[.int .i64 m, .slice ao l.length cap] 38)).alloc (.cells #[.int .i64 2, .int .i64 a, .int .i64 b, .int .i64 n] 27)).alloc (.cells #[.int .i64 0, .slice none 0 0] 38)).cell? ⟨w.heap.size + 1, 1, none⟩ = some (.int .i64 a) := by go_cell
  have o2_1 : (((w.alloc (.cells #[.int .i64 m, .slice ao l.length cap] 38)).alloc (.cells #[.int .i64 2, .int .i64 a, .int .i64 b, .int .i64 n] 27)).alloc (.cells #[.int .i64 0, .slice none 0 0] 38)).cell? ⟨w.heap.size + 1, 2, none⟩ = some (.int .i64 b) := by go_cell
  have o3_1 : (((w.alloc (.cells #[.int .i64 m, .slice ao l.length cap] 38)).alloc (.cells #[.int .i64 2, .int .i64 a, .int .i64 b, .int .i64 n] 27)).alloc (.cells #[.int .i64 0, .slice none 0 0] 38)).cell? ⟨w.heap.size + 1, 3, none⟩ = some (.int .i64 n) := by go_cell
  have ol_1 : w.heap.size + 1 < (((w.alloc (.cells #[.int .i64 m, .slice ao l.length cap] 38)).alloc (.cells #[.int .i64 2, .int .i64 a, .int .i64 b, .int .i64 n] 27)).alloc (.cells #[.int .i64 0, .slice none 0 0] 38)).heap.size := by first | (simp; done) | (simp; omega)
  have r0_1 : (((w.alloc (.cells #[.int .i64 m, .slice ao l.length cap] 38)).alloc (.cells #[.int .i64 2, .int .i64 a, .int .i64 b, .int .i64 n] 27)).alloc (.cells #[.int .i64 0, .slice none 0 0] 38)).cell? ⟨w.heap.size + 1 + 1, 0, none⟩ = some (.int .i64 0) := by go_cell
  have rf0_1 : (((w.alloc (.cells #[.int .i64 m, .slice ao l.length cap] 38)).alloc (.cells #[.int .i64 2, .int .i64 a, .int .i64 b, .int .i64 n] 27)).alloc (.cells #[.int .i64 0, .slice none 0 0] 38)).frozen? ⟨w.heap.size + 1 + 1, 0, none⟩ = false := by (first | go_cell | (simp [World.frozen?, World.alloc]; done) | rfl)
  have r1_1 : (((w.alloc (.cells #[.int .i64 m, .slice ao l.length cap] 38)).alloc (.cells #[.int .i64 2, .int .i64 a, .int .i64 b, .int .i64 n] 27)).alloc (.cells #[.int .i64 0, .slice none 0 0] 38)).cell? ⟨w.heap.size + 1 + 1, 1, none⟩ = some (.slice none 0 0) := by go_cell
  have rf1_1 : (((w.alloc (.cells #[.int .i64 m, .slice ao l.length cap] 38)).alloc (.cells #[.int .i64 2, .int .i64 a, .int .i64 b, .int .i64 n] 27)).alloc (.cells #[.int .i64 0, .slice none 0 0] 38)).frozen? ⟨w.heap.size + 1 + 1, 1, none⟩ = false := by (first | go_cell | (simp [World.frozen?, World.alloc]; done) | rfl)
  have rl_1 : w.heap.size + 1 + 1 < (((w.alloc (.cells #[.int .i64 m, .slice ao l.length cap] 38)).alloc (.cells #[.int .i64 2, .int .i64 a, .int .i64 b, .int .i64 n] 27)).alloc (.cells #[.int .i64 0, .slice none 0 0] 38)).heap.size := by first | (simp; done) | (simp; omega)
  have c1 : Below w.heap.size w (((w.alloc (.cells #[.int .i64 m, .slice ao l.length cap] 38)).alloc (.cells #[.int .i64 2, .int .i64 a, .int .i64 b, .int .i64 n] 27)).alloc (.cells #[.int .i64 0, .slice none 0 0] 38)) := by go_grown
  have s1 : (((w.alloc (.cells #[.int .i64 m, .slice ao l.length cap] 38)).alloc (.cells #[.int .i64 2, .int .i64 a, .int .i64 b, .int .i64 n] 27)).alloc (.cells #[.int .i64 0, .slice none 0 0] 38)).heap.size = w.heap.size + 3 := by simp
  generalize (((w.alloc (.cells #[.int .i64 m, .slice ao l.length cap] 38)).alloc (.cells #[.int .i64 2, .int .i64 a, .int .i64 b, .int .i64 n] 27)).alloc (.cells #[.int .i64 0, .slice none 0 0] 38)) = w1 at x0_1 x1_1 xl_1 o0_1 o1_1 o2_1 o3_1 ol_1 r0_1 rf0_1 r1_1 rf1_1 rl_1 c1 s1 ⊢
  have qx0_1 := cell_regrown x0_1
  have qx1_1 := cell_regrown x1_1
  have qo0_1 := cell_regrown o0_1
  have qo1_1 := cell_regrown o1_1
  have qo2_1 := cell_regrown o2_1
  have qo3_1 := cell_regrown o3_1
  have qr0_1 := cell_regrown r0_1
  have qr1_1 := cell_regrown r1_1
  refine (HS _).mono ?_
  rintro e w2 ⟨rfl, b2⟩
  have d2 : Below w1.heap.size w1 w2 := (Below.trans (by go_grown) (b2.mono (by first | omega | (simp; done) | (simp; omega))))
  have c2 : Below w.heap.size w w2 := c1.trans (d2.mono c1.size)
  have x0_2 : w2.cell? ⟨w.heap.size, 0, none⟩ = some (.int .i64 m) := (by rw [b2.cell (by first | omega | (simp; done) | (simp; omega))]; go_cell)
  have x1_2 : w2.cell? ⟨w.heap.size, 1, none⟩ = some (.slice ao l.length cap) := (by rw [b2.cell (by first | omega | (simp; done) | (simp; omega))]; go_cell)
  have xl_2 : w.heap.size < w2.heap.size := (by have := b2.size; first | omega | (revert this; simp; done) | (revert this; simp; omega))
  have o0_2 : w2.cell? ⟨w.heap.size + 1, 0, none⟩ = some (.int .i64 2) := (by rw [b2.cell (by first | omega | (simp; done) | (simp; omega))]; go_cell)
  have o1_2 : w2.cell? ⟨w.heap.size + 1, 1, none⟩ = some (.int .i64 a) := (by rw [b2.cell (by first | omega | (simp; done) | (simp; omega))]; go_cell)
  have o2_2 : w2.cell? ⟨w.heap.size + 1, 2, none⟩ = some (.int .i64 b) := (by rw [b2.cell (by first | omega | (simp; done) | (simp; omega))]; go_cell)
  have o3_2 : w2.cell? ⟨w.heap.size + 1, 3, none⟩ = some (.int .i64 n) := (by rw [b2.cell (by first | omega | (simp; done) | (simp; omega))]; go_cell)
  have ol_2 : w.heap.size + 1 < w2.heap.size := (by have := b2.size; first | omega | (revert this; simp; done) | (revert this; simp; omega))
  have r0_2 : w2.cell? ⟨w.heap.size + 1 + 1, 0, none⟩ = some (.int .i64 0) := (by rw [b2.cell (by first | omega | (simp; done) | (simp; omega))]; go_cell)
  have rf0_2 : w2.frozen? ⟨w.heap.size + 1 + 1, 0, none⟩ = false := (by rw [b2.frozen (by first | omega | (simp; done) | (simp; omega))]; (first | go_cell | (simp [World.frozen?, World.alloc]; done) | rfl))
  have r1_2 : w2.cell? ⟨w.heap.size + 1 + 1, 1, none⟩ = some (.slice none 0 0) := (by rw [b2.cell (by first | omega | (simp; done) | (simp; omega))]; go_cell)
  have rf1_2 : w2.frozen? ⟨w.heap.size + 1 + 1, 1, none⟩ = false := (by rw [b2.frozen (by first | omega | (simp; done) | (simp; omega))]; (first | go_cell | (simp [World.frozen?, World.alloc]; done) | rfl))
  have rl_2 : w.heap.size + 1 + 1 < w2.heap.size := (by have := b2.size; first | omega | (revert this; simp; done) | (revert this; simp; omega))
  clear x0_1 x1_1 xl_1 o0_1 o1_1 o2_1 o3_1 ol_1 r0_1 rf0_1 r1_1 rf1_1 rl_1
  clear b2 d2
  go_wp2_with fail
  refine (HC.out _ _ (HR.out.later c2)).mono ?_
  rintro e w3 ⟨⟨v', rfl, ho⟩, b3⟩
  have HO := hid ho
  clear ho
  have hz2 : w.heap.size + 1 + 1 < w2.heap.size := rl_2
  have d3 : Below w2.heap.size w2 w3 := (Below.trans (by go_grown) (b3.mono (by first | omega | (simp; done) | (simp; omega))))
  have c3 : Below w.heap.size w w3 := c2.trans (d3.mono c2.size)
  have r0_3 : w3.cell? ⟨w.heap.size + 1 + 1, 0, none⟩ = some (.int .i64 0) := (by rw [b3.cell (by first | omega | (simp; done) | (simp; omega))]; go_cell)
  have rf0_3 : w3.frozen? ⟨w.heap.size + 1 + 1, 0, none⟩ = false := (by rw [b3.frozen (by first | omega | (simp; done) | (simp; omega))]; (first | go_cell | (simp [World.frozen?, World.alloc]; done) | rfl))
  have r1_3 : w3.cell? ⟨w.heap.size + 1 + 1, 1, none⟩ = some (.slice none 0 0) := (by rw [b3.cell (by first | omega | (simp; done) | (simp; omega))]; go_cell)
  have rf1_3 : w3.frozen? ⟨w.heap.size + 1 + 1, 1, none⟩ = false := (by rw [b3.frozen (by first | omega | (simp; done) | (simp; omega))]; (first | go_cell | (simp [World.frozen?, World.alloc]; done) | rfl))
  have rl_3 : w.heap.size + 1 + 1 < w3.heap.size := (by have := b3.size; first | omega | (revert this; simp; done) | (revert this; simp; omega))
  clear r0_2 rf0_2 r1_2 rf1_2 rl_2
  clear b3 d3
  obtain ⟨uo, uc, huv, _⟩ := HO.out.rd
  subst huv
  go_wp2
  have e0 : ((w3.setCell ⟨w.heap.size + 1 + 1, 0, none⟩ (.int .i64 (0))).setCell ⟨w.heap.size + 1 + 1, 1, none⟩ (.slice uo q.length uc)).cell? ⟨w.heap.size + 1 + 1, 0, none⟩ = some (.int .i64 (0)) := by go_cell
  have e1 : ((w3.setCell ⟨w.heap.size + 1 + 1, 0, none⟩ (.int .i64 (0))).setCell ⟨w.heap.size + 1 + 1, 1, none⟩ (.slice uo q.length uc)).cell? ⟨w.heap.size + 1 + 1, 1, none⟩ = some (.slice uo q.length uc) := by go_cell
  have HF := hid (((HO.out.setApart (p := ⟨w.heap.size + 1 + 1, 0, none⟩) (by show w.heap.size + 1 + 1 < _; omega) (.int .i64 (0))).setApart (p := ⟨w.heap.size + 1 + 1, 1, none⟩) (by show w.heap.size + 1 + 1 < _; omega) (.slice uo q.length uc)).mono (B' := w.heap.size) (by omega))
  refine bodyPost_ret (v := .agg #[.int .i64 (0), .slice uo q.length uc]) (by simp [results, Tryz.results40, go_sem, e0, e1]) rfl ⟨⟨_, rfl, by rw [HQ.out]; exact HF.out⟩, (c3.setCell (p := ⟨w.heap.size + 1 + 1, 0, none⟩) (by show w.heap.size ≤ w.heap.size + 1 + 1; omega) _).setCell (p := ⟨w.heap.size + 1 + 1, 1, none⟩) (by show w.heap.size ≤ w.heap.size + 1 + 1; omega) _⟩

set_option maxRecDepth 100000 in
set_option maxHeartbeats 1000000 in
theorem specDo_part (k a b n m : Int) (v : Value) (l : List (Int × Int)) (w : World) (h : Rd w v l) (hll : l.length ≤ 1099511627776) (hs : partOk k a b n) (HOK : opOk k a b n = true) :
    Calls Tryz.prog 40 #[.agg #[.int .i64 m, v], .agg #[.int .i64 k, .int .i64 a, .int .i64 b, .int .i64 n]] w fun e w' => ValA w.heap.size w' e (0) (dropL l b) ∧ Below w.heap.size w w' := by
  have HS := fun w => specOpOk_any k a b n w
  rw [HOK] at HS
  clear HOK
  have HR := hid h
  obtain ⟨ao, cap, hv, _⟩ := h
  subst hv
  have HC := hid (show (∀ (v : Value) (w : World), Rd w v l → Calls Tryz.prog 102 #[.agg #[.int .i64 m, v], .agg #[.int .i64 k, .int .i64 a, .int .i64 b, .int .i64 n], .int .i64 b] w fun e w' => ValA w.heap.size w' e 0 (dropL l b) ∧ Below w.heap.size w w') from fun v w hr => by
    have := specKin_any k a b n m b v l w hr hll (Or.inr rfl) (Or.inr hs)
    rwa [if_neg (fun h2 => by have := hs.1; have := h2.1; omega)] at this)
  obtain ⟨rfl, -⟩ := hs
  obtain ⟨q, hq⟩ : ∃ q, dropL l b = q := ⟨_, rfl⟩
  have HQ := hid hq
  rw [hq] at HC
  clear hq
  go_enter Tryz.func40, Tryz.ntmps40
  go_wp2_with fail
  have x0_1 : (((w.alloc (.cells #[.int .i64 m, .slice ao l.length cap] 38)).alloc (.cells #[.int .i64 3, .int .i64 a, .int .i64 b, .int .i64 n] 27)).alloc (.cells #[.int .i64 0, .slice none 0 0] 38)).cell? ⟨w.heap.size, 0, none⟩ = some (.int .i64 m) := by go_cell
  have x1_1 : (((w.alloc (.cells #[.int .i64 m, .slice ao l.length cap] 38)).alloc (.cells #[.int .i64 3, .int .i64 a, .int .i64 b, .int .i64 n] 27)).alloc (.cells #[.int .i64 0, .slice none 0 0] 38)).cell? ⟨w.heap.size, 1, none⟩ = some (.slice ao l.length cap) := by go_cell
  have xl_1 : w.heap.size < (((w.alloc (.cells #[.int .i64 m, .slice ao l.length cap] 38)).alloc (.cells #[.int .i64 3, .int .i64 a, .int .i64 b, .int .i64 n] 27)).alloc (.cells #[.int .i64 0, .slice none 0 0] 38)).heap.size := by first | (simp; done) | (simp; omega)
  have o0_1 : (((w.alloc (.cells #[.int .i64 m, .slice ao l.length cap] 38)).alloc (.cells #[.int .i64 3, .int .i64 a, .int .i64 b, .int .i64 n] 27)).alloc (.cells #[.int .i64 0, .slice none 0 0] 38)).cell? ⟨w.heap.size + 1, 0, none⟩ = some (.int .i64 3) := by go_cell
  have o1_1 : (((w.alloc (.cells #[.int .i64 m, .slice ao l.length cap] 38)).alloc (.cells #[.int .i64 3, .int .i64 a, .int .i64 b, .int .i64 n] 27)).alloc (.cells #[.int .i64 0, .slice none 0 0] 38)).cell? ⟨w.heap.size + 1, 1, none⟩ = some (.int .i64 a) := by go_cell
  have o2_1 : (((w.alloc (.cells #[.int .i64 m, .slice ao l.length cap] 38)).alloc (.cells #[.int .i64 3, .int .i64 a, .int .i64 b, .int .i64 n] 27)).alloc (.cells #[.int .i64 0, .slice none 0 0] 38)).cell? ⟨w.heap.size + 1, 2, none⟩ = some (.int .i64 b) := by go_cell
  have o3_1 : (((w.alloc (.cells #[.int .i64 m, .slice ao l.length cap] 38)).alloc (.cells #[.int .i64 3, .int .i64 a, .int .i64 b, .int .i64 n] 27)).alloc (.cells #[.int .i64 0, .slice none 0 0] 38)).cell? ⟨w.heap.size + 1, 3, none⟩ = some (.int .i64 n) := by go_cell
  have ol_1 : w.heap.size + 1 < (((w.alloc (.cells #[.int .i64 m, .slice ao l.length cap] 38)).alloc (.cells #[.int .i64 3, .int .i64 a, .int .i64 b, .int .i64 n] 27)).alloc (.cells #[.int .i64 0, .slice none 0 0] 38)).heap.size := by first | (simp; done) | (simp; omega)
  have r0_1 : (((w.alloc (.cells #[.int .i64 m, .slice ao l.length cap] 38)).alloc (.cells #[.int .i64 3, .int .i64 a, .int .i64 b, .int .i64 n] 27)).alloc (.cells #[.int .i64 0, .slice none 0 0] 38)).cell? ⟨w.heap.size + 1 + 1, 0, none⟩ = some (.int .i64 0) := by go_cell
  have rf0_1 : (((w.alloc (.cells #[.int .i64 m, .slice ao l.length cap] 38)).alloc (.cells #[.int .i64 3, .int .i64 a, .int .i64 b, .int .i64 n] 27)).alloc (.cells #[.int .i64 0, .slice none 0 0] 38)).frozen? ⟨w.heap.size + 1 + 1, 0, none⟩ = false := by (first | go_cell | (simp [World.frozen?, World.alloc]; done) | rfl)
  have r1_1 : (((w.alloc (.cells #[.int .i64 m, .slice ao l.length cap] 38)).alloc (.cells #[.int .i64 3, .int .i64 a, .int .i64 b, .int .i64 n] 27)).alloc (.cells #[.int .i64 0, .slice none 0 0] 38)).cell? ⟨w.heap.size + 1 + 1, 1, none⟩ = some (.slice none 0 0) := by go_cell
  have rf1_1 : (((w.alloc (.cells #[.int .i64 m, .slice ao l.length cap] 38)).alloc (.cells #[.int .i64 3, .int .i64 a, .int .i64 b, .int .i64 n] 27)).alloc (.cells #[.int .i64 0, .slice none 0 0] 38)).frozen? ⟨w.heap.size + 1 + 1, 1, none⟩ = false := by (first | go_cell | (simp [World.frozen?, World.alloc]; done) | rfl)
  have rl_1 : w.heap.size + 1 + 1 < (((w.alloc (.cells #[.int .i64 m, .slice ao l.length cap] 38)).alloc (.cells #[.int .i64 3, .int .i64 a, .int .i64 b, .int .i64 n] 27)).alloc (.cells #[.int .i64 0, .slice none 0 0] 38)).heap.size := by first | (simp; done) | (simp; omega)
  have c1 : Below w.heap.size w (((w.alloc (.cells #[.int .i64 m, .slice ao l.length cap] 38)).alloc (.cells #[.int .i64 3, .int .i64 a, .int .i64 b, .int .i64 n] 27)).alloc (.cells #[.int .i64 0, .slice none 0 0] 38)) := by go_grown
  have s1 : (((w.alloc (.cells #[.int .i64 m, .slice ao l.length cap] 38)).alloc (.cells #[.int .i64 3, .int .i64 a, .int .i64 b, .int .i64 n] 27)).alloc (.cells #[.int .i64 0, .slice none 0 0] 38)).heap.size = w.heap.size + 3 := by simp
  generalize (((w.alloc (.cells #[.int .i64 m, .slice ao l.length cap] 38)).alloc (.cells #[.int .i64 3, .int .i64 a, .int .i64 b, .int .i64 n] 27)).alloc (.cells #[.int .i64 0, .slice none 0 0] 38)) = w1 at x0_1 x1_1 xl_1 o0_1 o1_1 o2_1 o3_1 ol_1 r0_1 rf0_1 r1_1 rf1_1 rl_1 c1 s1 ⊢
  have qx0_1 := cell_regrown x0_1
  have qx1_1 := cell_regrown x1_1
  have qo0_1 := cell_regrown o0_1
  have qo1_1 := cell_regrown o1_1
  have qo2_1 := cell_regrown o2_1
  have qo3_1 := cell_regrown o3_1
  have qr0_1 := cell_regrown r0_1
  have qr1_1 := cell_regrown r1_1
  refine (HS _).mono ?_
  rintro e w2 ⟨rfl, b2⟩
  have d2 : Below w1.heap.size w1 w2 := (Below.trans (by go_grown) (b2.mono (by first | omega | (simp; done) | (simp; omega))))
  have c2 : Below w.heap.size w w2 := c1.trans (d2.mono c1.size)
  have x0_2 : w2.cell? ⟨w.heap.size, 0, none⟩ = some (.int .i64 m) := (by rw [b2.cell (by first | omega | (simp; done) | (simp; omega))]; go_cell)
  have x1_2 : w2.cell? ⟨w.heap.size, 1, none⟩ = some (.slice ao l.length cap) := (by rw [b2.cell (by first | omega | (simp; done) | (simp; omega))]; go_cell)
  have xl_2 : w.heap.size < w2.heap.size := (by have := b2.size; first | omega | (revert this; simp; done) | (revert this; simp; omega))
  have o0_2 : w2.cell? ⟨w.heap.size + 1, 0, none⟩ = some (.int .i64 3) := (by rw [b2.cell (by first | omega | (simp; done) | (simp; omega))]; go_cell)
  have o1_2 : w2.cell? ⟨w.heap.size + 1, 1, none⟩ = some (.int .i64 a) := (by rw [b2.cell (by first | omega | (simp; done) | (simp; omega))]; go_cell)
  have o2_2 : w2.cell? ⟨w.heap.size + 1, 2, none⟩ = some (.int .i64 b) := (by rw [b2.cell (by first | omega | (simp; done) | (simp; omega))]; go_cell)
  have o3_2 : w2.cell? ⟨w.heap.size + 1, 3, none⟩ = some (.int .i64 n) := (by rw [b2.cell (by first | omega | (simp; done) | (simp; omega))]; go_cell)
  have ol_2 : w.heap.size + 1 < w2.heap.size := (by have := b2.size; first | omega | (revert this; simp; done) | (revert this; simp; omega))
  have r0_2 : w2.cell? ⟨w.heap.size + 1 + 1, 0, none⟩ = some (.int .i64 0) := (by rw [b2.cell (by first | omega | (simp; done) | (simp; omega))]; go_cell)
  have rf0_2 : w2.frozen? ⟨w.heap.size + 1 + 1, 0, none⟩ = false := (by rw [b2.frozen (by first | omega | (simp; done) | (simp; omega))]; (first | go_cell | (simp [World.frozen?, World.alloc]; done) | rfl))
  have r1_2 : w2.cell? ⟨w.heap.size + 1 + 1, 1, none⟩ = some (.slice none 0 0) := (by rw [b2.cell (by first | omega | (simp; done) | (simp; omega))]; go_cell)
  have rf1_2 : w2.frozen? ⟨w.heap.size + 1 + 1, 1, none⟩ = false := (by rw [b2.frozen (by first | omega | (simp; done) | (simp; omega))]; (first | go_cell | (simp [World.frozen?, World.alloc]; done) | rfl))
  have rl_2 : w.heap.size + 1 + 1 < w2.heap.size := (by have := b2.size; first | omega | (revert this; simp; done) | (revert this; simp; omega))
  clear x0_1 x1_1 xl_1 o0_1 o1_1 o2_1 o3_1 ol_1 r0_1 rf0_1 r1_1 rf1_1 rl_1
  clear b2 d2
  go_wp2_with fail
  refine (HC.out _ _ (HR.out.later c2)).mono ?_
  rintro e w3 ⟨⟨v', rfl, ho⟩, b3⟩
  have HO := hid ho
  clear ho
  have hz2 : w.heap.size + 1 + 1 < w2.heap.size := rl_2
  have d3 : Below w2.heap.size w2 w3 := (Below.trans (by go_grown) (b3.mono (by first | omega | (simp; done) | (simp; omega))))
  have c3 : Below w.heap.size w w3 := c2.trans (d3.mono c2.size)
  have r0_3 : w3.cell? ⟨w.heap.size + 1 + 1, 0, none⟩ = some (.int .i64 0) := (by rw [b3.cell (by first | omega | (simp; done) | (simp; omega))]; go_cell)
  have rf0_3 : w3.frozen? ⟨w.heap.size + 1 + 1, 0, none⟩ = false := (by rw [b3.frozen (by first | omega | (simp; done) | (simp; omega))]; (first | go_cell | (simp [World.frozen?, World.alloc]; done) | rfl))
  have r1_3 : w3.cell? ⟨w.heap.size + 1 + 1, 1, none⟩ = some (.slice none 0 0) := (by rw [b3.cell (by first | omega | (simp; done) | (simp; omega))]; go_cell)
  have rf1_3 : w3.frozen? ⟨w.heap.size + 1 + 1, 1, none⟩ = false := (by rw [b3.frozen (by first | omega | (simp; done) | (simp; omega))]; (first | go_cell | (simp [World.frozen?, World.alloc]; done) | rfl))
  have rl_3 : w.heap.size + 1 + 1 < w3.heap.size := (by have := b3.size; first | omega | (revert this; simp; done) | (revert this; simp; omega))
  clear r0_2 rf0_2 r1_2 rf1_2 rl_2
  clear b3 d3
  obtain ⟨uo, uc, huv, _⟩ := HO.out.rd
  subst huv
  go_wp2
  have e0 : ((w3.setCell ⟨w.heap.size + 1 + 1, 0, none⟩ (.int .i64 (0))).setCell ⟨w.heap.size + 1 + 1, 1, none⟩ (.slice uo q.length uc)).cell? ⟨w.heap.size + 1 + 1, 0, none⟩ = some (.int .i64 (0)) := by go_cell
  have e1 : ((w3.setCell ⟨w.heap.size + 1 + 1, 0, none⟩ (.int .i64 (0))).setCell ⟨w.heap.size + 1 + 1, 1, none⟩ (.slice uo q.length uc)).cell? ⟨w.heap.size + 1 + 1, 1, none⟩ = some (.slice uo q.length uc) := by go_cell
  have HF := hid (((HO.out.setApart (p := ⟨w.heap.size + 1 + 1, 0, none⟩) (by show w.heap.size + 1 + 1 < _; omega) (.int .i64 (0))).setApart (p := ⟨w.heap.size + 1 + 1, 1, none⟩) (by show w.heap.size + 1 + 1 < _; omega) (.slice uo q.length uc)).mono (B' := w.heap.size) (by omega))
  refine bodyPost_ret (v := .agg #[.int .i64 (0), .slice uo q.length uc]) (by simp [results, Tryz.results40, go_sem, e0, e1]) rfl ⟨⟨_, rfl, by rw [HQ.out]; exact HF.out⟩, (c3.setCell (p := ⟨w.heap.size + 1 + 1, 0, none⟩) (by show w.heap.size ≤ w.heap.size + 1 + 1; omega) _).setCell (p := ⟨w.heap.size + 1 + 1, 1, none⟩) (by show w.heap.size ≤ w.heap.size + 1 + 1; omega) _⟩

theorem specDo_any (k a b n m : Int) (v : Value) (l : List (Int × Int)) (w : World) (h : Rd w v l) (hll : l.length ≤ 1099511627776) :
    Calls Tryz.prog 40 #[.agg #[.int .i64 m, v], .agg #[.int .i64 k, .int .i64 a, .int .i64 b, .int .i64 n]] w fun e w' => ValA w.heap.size w' e (doN k a b n) (doL k a b n l) ∧ Below w.heap.size w w' := by
  have ht : setOk k a b n → opOk k a b n = true := fun h => by simp [opOk, h]
  have hb : bindOk k a b n → opOk k a b n = true := fun h => by simp [opOk, h]
  have hp : partOk k a b n → opOk k a b n = true := fun h => by simp [opOk, h]
  rcases do_ways k a b n l with ⟨hs, e1, e2, -⟩ | ⟨hs, e1, e2, -⟩ | ⟨hs, e1, e2, -⟩ | ⟨h1, h2, h3, e1, e2, -⟩ <;> rw [e1, e2]
  · exact specDo_set k a b n m v l w h hll hs (ht hs)
  · exact specDo_bind k a b n m v l w h hll hs (hb hs)
  · exact specDo_part k a b n m v l w h hll hs (hp hs)
  · exact specDo_no k a b n m v l w h hll (by simp [opOk, h1, h2, h3])

end Go.Proofs.YtkmhnjgncnoddaaGreat
