/- The law's own helpers of Done and of lists of such: contracts. Written by a program (gk.py). -/
import Derived.Test.YtefhpbcdjgllnaaGreatGrA
import Derived.Deep.RegionHeld3
import Derived.Lib.QuietBelow
namespace Go.Proofs.YtefhpbcdjgllnaaGreat
open Go.RowKit
attribute [local go_sem ↓] Go.wp_at_zero Go.wp_at_succ

set_option maxHeartbeats 1000000 in
theorem eqReq_all (p0 p1 p2 t0 t1 t2 : Int) (w : World) :
    Calls Tryz.prog 99 #[.agg #[.int .i64 p0, .int .i64 p1, .int .i64 p2], .agg #[.int .i64 t0, .int .i64 t1, .int .i64 t2]] w fun e w' => e = .returned (.bool (decide (p0 = t0) && decide (p1 = t1) && decide (p2 = t2))) ∧ Below w.heap.size w w' := by
  go_enter Tryz.func99, Tryz.ntmps99
  go_wp2
  all_goals
    go_ret
    exact ⟨by simp_all, by go_grown⟩

set_option maxHeartbeats 1000000 in
theorem toReq_all (p0 p1 p2 : Int) (w : World) :
    Calls Tryz.prog 76 #[.agg #[.int .i64 p0, .int .i64 p1, .int .i64 p2]] w fun e w' => e = .returned (.agg #[.int .i64 p0, .int .i64 p1, .int .i64 p2]) ∧ Below w.heap.size w w' := by
  go_enter Tryz.func76, Tryz.ntmps76
  go_wp2
  refine bodyPost_ret (v := .agg #[.int .i64 p0, .int .i64 p1, .int .i64 p2]) (by simp [results, Tryz.results76, go_sem]) rfl ⟨rfl, ?_⟩
  go_grown

set_option maxHeartbeats 2000000 in
theorem eqDone_any (p0 p1 p2 p3 p4 p5 t0 t1 t2 t3 t4 t5 : Int) (w : World) :
    Calls Tryz.prog 66 #[.agg #[.int .i64 p0, .int .i64 p1, .int .i64 p2, .int .i64 p3, .int .i64 p4, .int .i64 p5], .agg #[.int .i64 t0, .int .i64 t1, .int .i64 t2, .int .i64 t3, .int .i64 t4, .int .i64 t5]] w fun e w' => e = .returned (.bool (eqK ([p0, p1, p2, p3, p4, p5], []) ([t0, t1, t2, t3, t4, t5], []))) ∧ Below w.heap.size w w' := by
  go_enter Tryz.func66, Tryz.ntmps66
  go_wp2_with fail
  generalize hW1 : ((w.alloc (.cells #[.int .i64 p0, .int .i64 p1, .int .i64 p2, .int .i64 p3, .int .i64 p4, .int .i64 p5] 91)).alloc (.cells #[.int .i64 t0, .int .i64 t1, .int .i64 t2, .int .i64 t3, .int .i64 t4, .int .i64 t5] 91)) = w1
  have a0_1 : w1.cell? ⟨w.heap.size, 0, none⟩ = some (.int .i64 p0) := by subst hW1; go_cell
  have a1_1 : w1.cell? ⟨w.heap.size, 1, none⟩ = some (.int .i64 p1) := by subst hW1; go_cell
  have a2_1 : w1.cell? ⟨w.heap.size, 2, none⟩ = some (.int .i64 p2) := by subst hW1; go_cell
  have a3_1 : w1.cell? ⟨w.heap.size, 3, none⟩ = some (.int .i64 p3) := by subst hW1; go_cell
  have a4_1 : w1.cell? ⟨w.heap.size, 4, none⟩ = some (.int .i64 p4) := by subst hW1; go_cell
  have a5_1 : w1.cell? ⟨w.heap.size, 5, none⟩ = some (.int .i64 p5) := by subst hW1; go_cell
  have al_1 : w.heap.size < w1.heap.size := by subst hW1; first | (simp; done) | (simp; omega)
  have b0_1 : w1.cell? ⟨w.heap.size + 1, 0, none⟩ = some (.int .i64 t0) := by subst hW1; go_cell
  have b1_1 : w1.cell? ⟨w.heap.size + 1, 1, none⟩ = some (.int .i64 t1) := by subst hW1; go_cell
  have b2_1 : w1.cell? ⟨w.heap.size + 1, 2, none⟩ = some (.int .i64 t2) := by subst hW1; go_cell
  have b3_1 : w1.cell? ⟨w.heap.size + 1, 3, none⟩ = some (.int .i64 t3) := by subst hW1; go_cell
  have b4_1 : w1.cell? ⟨w.heap.size + 1, 4, none⟩ = some (.int .i64 t4) := by subst hW1; go_cell
  have b5_1 : w1.cell? ⟨w.heap.size + 1, 5, none⟩ = some (.int .i64 t5) := by subst hW1; go_cell
  have bl_1 : w.heap.size + 1 < w1.heap.size := by subst hW1; first | (simp; done) | (simp; omega)
  have c1 : Below w.heap.size w w1 := by subst hW1; go_grown
  have s1 : w1.heap.size = w.heap.size + 2 := by subst hW1; simp
  clear hW1
  have qa0_1 := cell_regrown a0_1
  have qa1_1 := cell_regrown a1_1
  have qa2_1 := cell_regrown a2_1
  have qa3_1 := cell_regrown a3_1
  have qa4_1 := cell_regrown a4_1
  have qa5_1 := cell_regrown a5_1
  have qb0_1 := cell_regrown b0_1
  have qb1_1 := cell_regrown b1_1
  have qb2_1 := cell_regrown b2_1
  have qb3_1 := cell_regrown b3_1
  have qb4_1 := cell_regrown b4_1
  have qb5_1 := cell_regrown b5_1
  refine (eqReq_all p0 p1 p2 t0 t1 t2 _).mono ?_
  rintro e w2 ⟨rfl, b2⟩
  have d2 : Below w1.heap.size w1 w2 := (Below.trans (by go_grown) (b2.mono (by first | omega | (simp; done) | (simp; omega))))
  have c2 : Below w.heap.size w w2 := c1.trans (d2.mono c1.size)
  have a0_2 : w2.cell? ⟨w.heap.size, 0, none⟩ = some (.int .i64 p0) := (by rw [b2.cell (by first | omega | (simp; done) | (simp; omega))]; go_cell)
  have a1_2 : w2.cell? ⟨w.heap.size, 1, none⟩ = some (.int .i64 p1) := (by rw [b2.cell (by first | omega | (simp; done) | (simp; omega))]; go_cell)
  have a2_2 : w2.cell? ⟨w.heap.size, 2, none⟩ = some (.int .i64 p2) := (by rw [b2.cell (by first | omega | (simp; done) | (simp; omega))]; go_cell)
  have a3_2 : w2.cell? ⟨w.heap.size, 3, none⟩ = some (.int .i64 p3) := (by rw [b2.cell (by first | omega | (simp; done) | (simp; omega))]; go_cell)
  have a4_2 : w2.cell? ⟨w.heap.size, 4, none⟩ = some (.int .i64 p4) := (by rw [b2.cell (by first | omega | (simp; done) | (simp; omega))]; go_cell)
  have a5_2 : w2.cell? ⟨w.heap.size, 5, none⟩ = some (.int .i64 p5) := (by rw [b2.cell (by first | omega | (simp; done) | (simp; omega))]; go_cell)
  have al_2 : w.heap.size < w2.heap.size := (by have := b2.size; first | omega | (revert this; simp; done) | (revert this; simp; omega))
  have b0_2 : w2.cell? ⟨w.heap.size + 1, 0, none⟩ = some (.int .i64 t0) := (by rw [b2.cell (by first | omega | (simp; done) | (simp; omega))]; go_cell)
  have b1_2 : w2.cell? ⟨w.heap.size + 1, 1, none⟩ = some (.int .i64 t1) := (by rw [b2.cell (by first | omega | (simp; done) | (simp; omega))]; go_cell)
  have b2_2 : w2.cell? ⟨w.heap.size + 1, 2, none⟩ = some (.int .i64 t2) := (by rw [b2.cell (by first | omega | (simp; done) | (simp; omega))]; go_cell)
  have b3_2 : w2.cell? ⟨w.heap.size + 1, 3, none⟩ = some (.int .i64 t3) := (by rw [b2.cell (by first | omega | (simp; done) | (simp; omega))]; go_cell)
  have b4_2 : w2.cell? ⟨w.heap.size + 1, 4, none⟩ = some (.int .i64 t4) := (by rw [b2.cell (by first | omega | (simp; done) | (simp; omega))]; go_cell)
  have b5_2 : w2.cell? ⟨w.heap.size + 1, 5, none⟩ = some (.int .i64 t5) := (by rw [b2.cell (by first | omega | (simp; done) | (simp; omega))]; go_cell)
  have bl_2 : w.heap.size + 1 < w2.heap.size := (by have := b2.size; first | omega | (revert this; simp; done) | (revert this; simp; omega))
  clear a0_1 a1_1 a2_1 a3_1 a4_1 a5_1 al_1 b0_1 b1_1 b2_1 b3_1 b4_1 b5_1 bl_1
  have bb := c2
  clear b2 d2
  go_wp2
  all_goals
    go_ret
    exact ⟨by first | (simp_all [eqK]; done) | (simp_all [eqK]; omega), by first | exact bb | go_grown⟩

set_option maxRecDepth 100000 in
set_option maxHeartbeats 2000000 in
theorem eqDoneS_any (va vb : Value) (la lb : List KD) (w : World) (ha : RdM 6 6 false w va la) (hb : RdM 6 6 false w vb lb) :
    Calls Tryz.prog 33 #[va, vb] w fun e w' => e = .returned (.bool (eqM la lb)) ∧ Below w.heap.size w w' := by
  obtain ⟨aa, ca, rfl, hla, hca⟩ := ha
  obtain ⟨ab, cb, rfl, hlb, hcb⟩ := hb
  unfold maxLen at hla hlb
  by_cases hne : ((la.length : Int) != (lb.length : Int)) = true
  · have : la ≠ lb := fun h => by simp [h] at hne
    go_enter Tryz.func33, Tryz.ntmps33
    go_wp2
    go_ret
    exact ⟨by simp [eqM_no this], Below.refl _ _⟩
  · have hlen : la.length = lb.length := by simp at hne; omega
    have HL : Hid (la.length = lb.length) := hlen
    clear hlen
    go_enter Tryz.func33, Tryz.ntmps33
    go_wp2
    go_loopw [5] (fun i wr => ∃ k : Nat, k ≤ la.length ∧ i = .int .i64 k ∧ Hid (la.take k = lb.take k) ∧ Below w.heap.size w wr) (fun i _ => la.length - (intOf i).toNat)
    case atStart => exact ⟨0, Nat.zero_le _, rfl, rfl, Below.refl _ _⟩
    case round =>
      obtain ⟨k, hk, rfl, hpre, hbel⟩ := hrel
      by_cases hlt : k < la.length
      · obtain ⟨ba, oa, rfl, hba, hcca⟩ := hca (by omega)
        obtain ⟨bb, ob, rfl, hbb, hccb⟩ := hcb (by have := HL.out; omega)
        have hkb : (k : Int) < (lb.length : Int) := by have := HL.out; omega
        obtain ⟨p0, p1, p2, p3, p4, p5, hx, c0, c1, c2, c3, c4, c5⟩ := atK_6n ((hcca k hlt).later hba hbel)
        obtain ⟨t0, t1, t2, t3, t4, t5, hy, d0, d1, d2, d3, d4, d5⟩ := atK_6n ((hccb k (by have := HL.out; omega)).later hbb hbel)
        have hnext : Hid (la.getD k kd0 = lb.getD k kd0 → la.take (k + 1) = lb.take (k + 1)) := hid (fun h => take_more la lb kd0 k hlt (by have := HL.out; omega) hpre h)
        have hdiff : Hid (¬ la.getD k kd0 = lb.getD k kd0 → eqM la lb = false) := hid (fun h => eqM_no (fun e => h (by rw [e])))
        rw [hx, hy] at hnext hdiff
        have hsz := hbel.size
        clear hcca hccb hca hcb hx hy
        have r0 := cell_regrown c0
        have r1 := cell_regrown c1
        have r2 := cell_regrown c2
        have r3 := cell_regrown c3
        have r4 := cell_regrown c4
        have r5 := cell_regrown c5
        have s0 := cell_regrown d0
        have s1 := cell_regrown d1
        have s2 := cell_regrown d2
        have s3 := cell_regrown d3
        have s4 := cell_regrown d4
        have s5 := cell_regrown d5
        cases hxy : eqK ([p0, p1, p2, p3, p4, p5], []) ([t0, t1, t2, t3, t4, t5], []) with
        | true =>
          have hN := hid (hnext.out (eqK_iff.1 hxy))
          clear hnext hdiff
          have hcal := fun (W : World) => eqDone_any p0 p1 p2 p3 p4 p5 t0 t1 t2 t3 t4 t5 W
          rw [hxy] at hcal
          go_wp2_with fail
          refine wp_region_quiet_below (by kernel_rfl) (by kernel_rfl) ?_
          repeat (first | go_big_quiet_skip | (go_big_quiet_want; go_big_quiet_op; first | go_big_quiet_on | go_big_quiet_call (first | (go_at_call 66; exact Calls.regrown_of (hcal _)))))
          refine wpQuiet_nil ?_
          rintro wq ⟨pq, hwq⟩
          have hq : Below wr.heap.size wr wq := by rw [hwq]; exact below_regrown _ _ _
          clear hwq pq
          go_wp2
          go_roundw
          case rel => exact ⟨k + 1, by omega, by go_num, hN, hbel.trans (hq.mono hsz)⟩
          case measure => simp [intOf]; omega
        | false =>
          have hN := hid (hdiff.out (fun e => by rw [eqK_iff.2 e] at hxy; cases hxy))
          clear hnext hdiff
          have hcal := fun (W : World) => eqDone_any p0 p1 p2 p3 p4 p5 t0 t1 t2 t3 t4 t5 W
          rw [hxy] at hcal
          go_wp2_with fail
          refine wp_region_quiet_below (by kernel_rfl) (by kernel_rfl) ?_
          repeat (first | go_big_quiet_skip | (go_big_quiet_want; go_big_quiet_op; first | go_big_quiet_on | go_big_quiet_call (first | (go_at_call 66; exact Calls.regrown_of (hcal _)))))
          refine wpQuiet_nil ?_
          rintro wq ⟨pq, hwq⟩
          have hq : Below wr.heap.size wr wq := by rw [hwq]; exact below_regrown _ _ _
          clear hwq pq
          go_wp2
          go_ret
          exact ⟨by simp [hN.out], hbel.trans (hq.mono hsz)⟩
      · have hall : eqM la lb = true := eqM_yes (by have h1 := HL.out; have h2 := hpre.out; rwa [List.take_of_length_le (by omega), List.take_of_length_le (by omega)] at h2)
        go_wp2
        go_ret
        exact ⟨by simp [hall], hbel⟩

end Go.Proofs.YtefhpbcdjgllnaaGreat
