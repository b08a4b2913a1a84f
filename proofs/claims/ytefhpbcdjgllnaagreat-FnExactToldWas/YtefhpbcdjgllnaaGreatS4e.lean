/- spec.l4Dones: contract. Written by a program (gss.py). -/
import Derived.Test.YtefhpbcdjgllnaaGreatYa
import Derived.Test.YtefhpbcdjgllnaaGreatKw
import Derived.Test.YtefhpbcdjgllnaaGreatGrA
import Derived.BigQuiet
import Derived.Lib.QuietBelow
namespace Go.Proofs.YtefhpbcdjgllnaaGreat
open Go.RowKit
attribute [local go_sem ↓] Go.wp_at_zero Go.wp_at_succ

set_option maxRecDepth 100000 in
set_option maxHeartbeats 16000000 in
theorem specDones_any (p f st : Int) (v0 v1 v2 v3 v4 : Value) (R D : List KD) (w : World) (hR : RdM 3 2 true w v0 R) (hD : RdM 6 6 false w v1 D) (h24 : R.length = 24) (hp : 0 ≤ p) :
    Calls Tryz.prog 42 #[.agg #[.int .i64 p, .int .i64 f, .int .i64 st, v0, v1, v2, v3, v4]] w fun e w' => e = .returned (.bool (donesB p R D)) ∧ Below w.heap.size w w' := by
  obtain ⟨ar, cr, rfl, hlr, hcr⟩ := hR
  obtain ⟨ad, cd, rfl, hld, hcd⟩ := hD
  obtain ⟨br, or', rfl, hbr, hccr⟩ := hcr (by omega)
  rw [h24] at hccr ⊢
  clear hlr h24 hcr
  unfold maxLen at hld
  have HCR := hid hccr
  have HCD := hid hcd
  have HBR := hid hbr
  clear hccr hcd hbr
  go_enter Tryz.func42, Tryz.ntmps42
  go_wp2
  generalize hW1 : (w.alloc (.cells #[.int .i64 p, .int .i64 f, .int .i64 st, .slice (some ⟨br, or', none⟩) 24 cr, .slice ad D.length cd, v2, v3, v4] 43)) = w1
  have a0_1 : w1.cell? ⟨w.heap.size, 0, none⟩ = some (.int .i64 p) := by subst hW1; go_cell
  have a1_1 : w1.cell? ⟨w.heap.size, 1, none⟩ = some (.int .i64 f) := by subst hW1; go_cell
  have a2_1 : w1.cell? ⟨w.heap.size, 2, none⟩ = some (.int .i64 st) := by subst hW1; go_cell
  have a3_1 : w1.cell? ⟨w.heap.size, 3, none⟩ = some (.slice (some ⟨br, or', none⟩) 24 cr) := by subst hW1; go_cell
  have a4_1 : w1.cell? ⟨w.heap.size, 4, none⟩ = some (.slice ad D.length cd) := by subst hW1; go_cell
  have a5_1 : w1.cell? ⟨w.heap.size, 5, none⟩ = some (v2) := by subst hW1; go_cell
  have a6_1 : w1.cell? ⟨w.heap.size, 6, none⟩ = some (v3) := by subst hW1; go_cell
  have a7_1 : w1.cell? ⟨w.heap.size, 7, none⟩ = some (v4) := by subst hW1; go_cell
  have al_1 : w.heap.size < w1.heap.size := by subst hW1; first | (simp; done) | (simp; omega)
  have c1 : Below w.heap.size w w1 := by subst hW1; go_grown
  have s1 : w1.heap.size = w.heap.size + 1 := by subst hW1; simp
  clear hW1
  have qa0_1 := cell_regrown a0_1
  have qa1_1 := cell_regrown a1_1
  have qa2_1 := cell_regrown a2_1
  have qa3_1 := cell_regrown a3_1
  have qa4_1 := cell_regrown a4_1
  have qa5_1 := cell_regrown a5_1
  have qa6_1 := cell_regrown a6_1
  have qa7_1 := cell_regrown a7_1
  clear qa0_1 qa1_1 qa2_1 qa3_1 qa4_1 qa5_1 qa6_1 qa7_1
  go_loopw [3] (fun i wr => ∃ k : Nat, k ≤ D.length ∧ i = .int .i64 k ∧ Hid (DonesTo p R D k) ∧ Hid (Below w1.heap.size w1 wr)) (fun i _ => D.length - (intOf i).toNat)
  case atStart => exact ⟨0, Nat.zero_le _, rfl, hid (fun j hj => absurd hj (Nat.not_lt_zero j)), hid (Below.refl _ _)⟩
  case round =>
    obtain ⟨k, hk, rfl, hpre, hbel⟩ := hrel
    obtain ⟨w50, hw50⟩ : ∃ y, y = wr := ⟨_, rfl⟩
    subst hw50
    have b50 := hbel.out
    have d50 : Below w1.heap.size w1 w50 := (Below.trans (by go_grown) (b50.mono (by first | omega | (simp; done) | (simp; omega))))
    have c50 : Below w.heap.size w w50 := c1.trans (d50.mono c1.size)
    have a0_50 : w50.cell? ⟨w.heap.size, 0, none⟩ = some (.int .i64 p) := (by rw [b50.cell (by first | omega | (simp; done) | (simp; omega))]; go_cell)
    have a1_50 : w50.cell? ⟨w.heap.size, 1, none⟩ = some (.int .i64 f) := (by rw [b50.cell (by first | omega | (simp; done) | (simp; omega))]; go_cell)
    have a2_50 : w50.cell? ⟨w.heap.size, 2, none⟩ = some (.int .i64 st) := (by rw [b50.cell (by first | omega | (simp; done) | (simp; omega))]; go_cell)
    have a3_50 : w50.cell? ⟨w.heap.size, 3, none⟩ = some (.slice (some ⟨br, or', none⟩) 24 cr) := (by rw [b50.cell (by first | omega | (simp; done) | (simp; omega))]; go_cell)
    have a4_50 : w50.cell? ⟨w.heap.size, 4, none⟩ = some (.slice ad D.length cd) := (by rw [b50.cell (by first | omega | (simp; done) | (simp; omega))]; go_cell)
    have a5_50 : w50.cell? ⟨w.heap.size, 5, none⟩ = some (v2) := (by rw [b50.cell (by first | omega | (simp; done) | (simp; omega))]; go_cell)
    have a6_50 : w50.cell? ⟨w.heap.size, 6, none⟩ = some (v3) := (by rw [b50.cell (by first | omega | (simp; done) | (simp; omega))]; go_cell)
    have a7_50 : w50.cell? ⟨w.heap.size, 7, none⟩ = some (v4) := (by rw [b50.cell (by first | omega | (simp; done) | (simp; omega))]; go_cell)
    have al_50 : w.heap.size < w50.heap.size := (by have := b50.size; first | omega | (revert this; simp; done) | (revert this; simp; omega))
    clear a0_1 a1_1 a2_1 a3_1 a4_1 a5_1 a6_1 a7_1 al_1
    clear b50
    have HB1 := hid (show Below w1.heap.size w1 w50 from hbel.out)
    clear d50
    by_cases hlt : k < D.length
    · obtain ⟨bd, od, rfl, hbd, hccd⟩ := HCD.out (by omega)
      have hki : (k : Int) < (D.length : Int) := by omega
      obtain ⟨d0, d1, d2, d3, d4, d5, hx, e0, e1, e2, e3, e4, e5⟩ := atK_6n ((hccd k hlt).later hbd c50)
      have HX := hid hx
      have HPV := hid (fun q (hq : q + 1 = k) => (show ∃ d, colK D q 0 = d ∧ w50.cell? ⟨bd, od + q * 6, none⟩ = some (.int .i64 d) from by
        obtain ⟨t0, t1, t2, t3, t4, t5, ht, z0, _⟩ := atK_6n ((hccd q (by omega)).later hbd c50)
        exact ⟨t0, by rw [colK, ht]; rfl, z0⟩))
      have HRW := hid (fun j (hj : j < 24) => (show ∃ d, colK R j 0 = d ∧ w50.cell? ⟨br, or' + j * 3, none⟩ = some (.int .i64 d) from by
        obtain ⟨t0, t1, tl, tu, ht, z0, _⟩ := atK_2k ((HCR.out j hj).later HBR.out c50)
        exact ⟨t0, by rw [colK, ht]; rfl, z0⟩))
      have hcol : ∀ c, colK D k c = [d0, d1, d2, d3, d4, d5].getD c 0 := fun c => by rw [colK, HX.out]
      have HNO : Hid (¬ DoneAt p R D k → donesB p R D = false) := hid (donesB_no hlt)
      have HAT : Hid (DoneAt p R D k ↔ (0 ≤ d0 ∧ d0 < 2 ∧ 0 ≤ d1 ∧ 0 ≤ d2 ∧ partOf d3 = p ∧ (d5 = 0 ∨ d5 = 3) ∧ 0 ≤ d4 ∧ d4 ≤ verAt R d3 ∧ ¬ (d4 = 0 ∧ d5 = 0) ∧ (0 < k → colK D (k - 1) 0 < d0))) := hid (by
        unfold DoneAt
        simp only [hcol]
        exact Iff.rfl)
      have HLT := hid hlt
      clear hx hcol hccd hlt
      go_wp2_with fail
      generalize hW51 : (w50.alloc (.cells #[.int .i64 d0, .int .i64 d1, .int .i64 d2, .int .i64 d3, .int .i64 d4, .int .i64 d5] 91)) = w51
      have m0_51 : w51.cell? ⟨w50.heap.size, 0, none⟩ = some (.int .i64 d0) := by subst hW51; go_cell
      have m1_51 : w51.cell? ⟨w50.heap.size, 1, none⟩ = some (.int .i64 d1) := by subst hW51; go_cell
      have m2_51 : w51.cell? ⟨w50.heap.size, 2, none⟩ = some (.int .i64 d2) := by subst hW51; go_cell
      have m3_51 : w51.cell? ⟨w50.heap.size, 3, none⟩ = some (.int .i64 d3) := by subst hW51; go_cell
      have m4_51 : w51.cell? ⟨w50.heap.size, 4, none⟩ = some (.int .i64 d4) := by subst hW51; go_cell
      have m5_51 : w51.cell? ⟨w50.heap.size, 5, none⟩ = some (.int .i64 d5) := by subst hW51; go_cell
      have ml_51 : w50.heap.size < w51.heap.size := by subst hW51; simp
      have d51 : Below w50.heap.size w50 w51 := by subst hW51; go_grown
      clear hW51
      have c51 : Below w.heap.size w w51 := c50.trans (d51.mono c50.size)
      have a0_51 : w51.cell? ⟨w.heap.size, 0, none⟩ = some (.int .i64 p) := (by rw [d51.cell (by first | omega | (simp; done) | (simp; omega))]; go_cell)
      have a1_51 : w51.cell? ⟨w.heap.size, 1, none⟩ = some (.int .i64 f) := (by rw [d51.cell (by first | omega | (simp; done) | (simp; omega))]; go_cell)
      have a2_51 : w51.cell? ⟨w.heap.size, 2, none⟩ = some (.int .i64 st) := (by rw [d51.cell (by first | omega | (simp; done) | (simp; omega))]; go_cell)
      have a3_51 : w51.cell? ⟨w.heap.size, 3, none⟩ = some (.slice (some ⟨br, or', none⟩) 24 cr) := (by rw [d51.cell (by first | omega | (simp; done) | (simp; omega))]; go_cell)
      have a4_51 : w51.cell? ⟨w.heap.size, 4, none⟩ = some (.slice (some ⟨bd, od, none⟩) D.length cd) := (by rw [d51.cell (by first | omega | (simp; done) | (simp; omega))]; go_cell)
      have a5_51 : w51.cell? ⟨w.heap.size, 5, none⟩ = some (v2) := (by rw [d51.cell (by first | omega | (simp; done) | (simp; omega))]; go_cell)
      have a6_51 : w51.cell? ⟨w.heap.size, 6, none⟩ = some (v3) := (by rw [d51.cell (by first | omega | (simp; done) | (simp; omega))]; go_cell)
      have a7_51 : w51.cell? ⟨w.heap.size, 7, none⟩ = some (v4) := (by rw [d51.cell (by first | omega | (simp; done) | (simp; omega))]; go_cell)
      have al_51 : w.heap.size < w51.heap.size := (by have := d51.size; omega)
      clear a0_50 a1_50 a2_50 a3_50 a4_50 a5_50 a6_50 a7_50 al_50
      clear e0 e1 e2 e3 e4 e5 a1_51 a2_51 a5_51 a6_51 a7_51
      have HD51 := hid d51
      have ra0 := cell_regrown a0_51
      have ra3 := cell_regrown a3_51
      have ra4 := cell_regrown a4_51
      have rd0 := cell_regrown m0_51
      have rd1 := cell_regrown m1_51
      have rd2 := cell_regrown m2_51
      have rd3 := cell_regrown m3_51
      have rd4 := cell_regrown m4_51
      have rd5 := cell_regrown m5_51
      have HPRE := hid hpre.out
      clear hpre
      refine wp_region_quiet_below (by kernel_rfl) (by kernel_rfl) ?_
      dsimp only [List.append]
      repeat (first | go_big_quiet_skip | (go_big_quiet_want; go_big_quiet_op; first | go_big_quiet_on | go_big_quiet_call (first | (go_at_call 20; exact Calls.regrown_of ((specShard_any _ _).mono fun _ _ h => ⟨h.1, by rw [h.2]; exact Below.refl _ _⟩)))))
      by_cases h0 : d0 < 0
      case pos =>
        first
          | (have gq : decide (d0 < 0) = true := by simp; omega
             rw [gq]; clear gq)
          | (have gq : decide (d0 < 0) = true := by simp; omega
             simp only [gq]; clear gq)
        have hno := HNO.out (fun z => by have := HAT.out.1 z; omega)
        clear HNO HAT HPRE HX HPV HRW HCD HCR HB1 HD51 HBR HLT
        repeat (first | go_big_quiet_skip | (go_big_quiet_want; go_big_quiet_op; first | go_big_quiet_on | go_big_quiet_call (first | (go_at_call 20; exact Calls.regrown_of ((specShard_any _ _).mono fun _ _ h => ⟨h.1, by rw [h.2]; exact Below.refl _ _⟩)))))
        refine wpQuiet_nil ?_
        rintro wq ⟨pq, hwq⟩
        have hq : Below w51.heap.size w51 wq := by rw [hwq]; exact below_regrown _ _ _
        clear hwq pq
        have cq := c51.trans (hq.mono c51.size)
        go_wp2
        go_ret
        exact ⟨by first | (simp; done) | simp [hno], cq⟩
      first
        | (have gq : decide (d0 < 0) = false := by simp; omega
           rw [gq]; clear gq)
        | (have gq : decide (d0 < 0) = false := by simp; omega
           simp only [gq]; clear gq)
      repeat (first | go_big_quiet_skip | (go_big_quiet_want; go_big_quiet_op; first | go_big_quiet_on | go_big_quiet_call (first | (go_at_call 20; exact Calls.regrown_of ((specShard_any _ _).mono fun _ _ h => ⟨h.1, by rw [h.2]; exact Below.refl _ _⟩)))))
      by_cases h1 : 2 ≤ d0
      case pos =>
        first
          | (have gq : decide (d0 ≥ 2) = true := by simp; omega
             rw [gq]; clear gq)
          | (have gq : decide (2 ≤ d0) = true := by simp; omega
             rw [gq]; clear gq)
          | (have gq : decide (d0 ≥ 2) = true := by simp; omega
             simp only [gq]; clear gq)
          | (have gq : decide (2 ≤ d0) = true := by simp; omega
             simp only [gq]; clear gq)
        have hno := HNO.out (fun z => by have := HAT.out.1 z; omega)
        clear HNO HAT HPRE HX HPV HRW HCD HCR HB1 HD51 HBR HLT
        repeat (first | go_big_quiet_skip | (go_big_quiet_want; go_big_quiet_op; first | go_big_quiet_on | go_big_quiet_call (first | (go_at_call 20; exact Calls.regrown_of ((specShard_any _ _).mono fun _ _ h => ⟨h.1, by rw [h.2]; exact Below.refl _ _⟩)))))
        refine wpQuiet_nil ?_
        rintro wq ⟨pq, hwq⟩
        have hq : Below w51.heap.size w51 wq := by rw [hwq]; exact below_regrown _ _ _
        clear hwq pq
        have cq := c51.trans (hq.mono c51.size)
        go_wp2
        go_ret
        exact ⟨by first | (simp; done) | simp [hno], cq⟩
      first
        | (have gq : decide (d0 ≥ 2) = false := by simp; omega
           rw [gq]; clear gq)
        | (have gq : decide (2 ≤ d0) = false := by simp; omega
           rw [gq]; clear gq)
        | (have gq : decide (d0 ≥ 2) = false := by simp; omega
           simp only [gq]; clear gq)
        | (have gq : decide (2 ≤ d0) = false := by simp; omega
           simp only [gq]; clear gq)
      repeat (first | go_big_quiet_skip | (go_big_quiet_want; go_big_quiet_op; first | go_big_quiet_on | go_big_quiet_call (first | (go_at_call 20; exact Calls.regrown_of ((specShard_any _ _).mono fun _ _ h => ⟨h.1, by rw [h.2]; exact Below.refl _ _⟩)))))
      by_cases h2 : d1 < 0
      case pos =>
        first
          | (have gq : decide (d1 < 0) = true := by simp; omega
             rw [gq]; clear gq)
          | (have gq : decide (d1 < 0) = true := by simp; omega
             simp only [gq]; clear gq)
        have hno := HNO.out (fun z => by have := HAT.out.1 z; omega)
        clear HNO HAT HPRE HX HPV HRW HCD HCR HB1 HD51 HBR HLT
        repeat (first | go_big_quiet_skip | (go_big_quiet_want; go_big_quiet_op; first | go_big_quiet_on | go_big_quiet_call (first | (go_at_call 20; exact Calls.regrown_of ((specShard_any _ _).mono fun _ _ h => ⟨h.1, by rw [h.2]; exact Below.refl _ _⟩)))))
        refine wpQuiet_nil ?_
        rintro wq ⟨pq, hwq⟩
        have hq : Below w51.heap.size w51 wq := by rw [hwq]; exact below_regrown _ _ _
        clear hwq pq
        have cq := c51.trans (hq.mono c51.size)
        go_wp2
        go_ret
        exact ⟨by first | (simp; done) | simp [hno], cq⟩
      first
        | (have gq : decide (d1 < 0) = false := by simp; omega
           rw [gq]; clear gq)
        | (have gq : decide (d1 < 0) = false := by simp; omega
           simp only [gq]; clear gq)
      repeat (first | go_big_quiet_skip | (go_big_quiet_want; go_big_quiet_op; first | go_big_quiet_on | go_big_quiet_call (first | (go_at_call 20; exact Calls.regrown_of ((specShard_any _ _).mono fun _ _ h => ⟨h.1, by rw [h.2]; exact Below.refl _ _⟩)))))
      by_cases h3 : d2 < 0
      case pos =>
        first
          | (have gq : decide (d2 < 0) = true := by simp; omega
             rw [gq]; clear gq)
          | (have gq : decide (d2 < 0) = true := by simp; omega
             simp only [gq]; clear gq)
        have hno := HNO.out (fun z => by have := HAT.out.1 z; omega)
        clear HNO HAT HPRE HX HPV HRW HCD HCR HB1 HD51 HBR HLT
        repeat (first | go_big_quiet_skip | (go_big_quiet_want; go_big_quiet_op; first | go_big_quiet_on | go_big_quiet_call (first | (go_at_call 20; exact Calls.regrown_of ((specShard_any _ _).mono fun _ _ h => ⟨h.1, by rw [h.2]; exact Below.refl _ _⟩)))))
        refine wpQuiet_nil ?_
        rintro wq ⟨pq, hwq⟩
        have hq : Below w51.heap.size w51 wq := by rw [hwq]; exact below_regrown _ _ _
        clear hwq pq
        have cq := c51.trans (hq.mono c51.size)
        go_wp2
        go_ret
        exact ⟨by first | (simp; done) | simp [hno], cq⟩
      first
        | (have gq : decide (d2 < 0) = false := by simp; omega
           rw [gq]; clear gq)
        | (have gq : decide (d2 < 0) = false := by simp; omega
           simp only [gq]; clear gq)
      repeat (first | go_big_quiet_skip | (go_big_quiet_want; go_big_quiet_op; first | go_big_quiet_on | go_big_quiet_call (first | (go_at_call 20; exact Calls.regrown_of ((specShard_any _ _).mono fun _ _ h => ⟨h.1, by rw [h.2]; exact Below.refl _ _⟩)))))
      by_cases h4 : ¬ partOf d3 = p
      case pos =>
        first
          | (have gq : (partOf d3 != p) = true := by simp; omega
             rw [gq]; clear gq)
          | (have gq : (!decide (partOf d3 = p)) = true := by simp; omega
             rw [gq]; clear gq)
          | (have gq : (!partOf d3 == p) = true := by simp; omega
             rw [gq]; clear gq)
          | (have gq : (partOf d3 != p) = true := by simp; omega
             simp only [gq]; clear gq)
          | (have gq : (!decide (partOf d3 = p)) = true := by simp; omega
             simp only [gq]; clear gq)
          | (have gq : (!partOf d3 == p) = true := by simp; omega
             simp only [gq]; clear gq)
        have hno := HNO.out (fun z => by have := HAT.out.1 z; omega)
        clear HNO HAT HPRE HX HPV HRW HCD HCR HB1 HD51 HBR HLT
        repeat (first | go_big_quiet_skip | (go_big_quiet_want; go_big_quiet_op; first | go_big_quiet_on | go_big_quiet_call (first | (go_at_call 20; exact Calls.regrown_of ((specShard_any _ _).mono fun _ _ h => ⟨h.1, by rw [h.2]; exact Below.refl _ _⟩)))))
        refine wpQuiet_nil ?_
        rintro wq ⟨pq, hwq⟩
        have hq : Below w51.heap.size w51 wq := by rw [hwq]; exact below_regrown _ _ _
        clear hwq pq
        have cq := c51.trans (hq.mono c51.size)
        go_wp2
        go_ret
        exact ⟨by first | (simp; done) | simp [hno], cq⟩
      first
        | (have gq : (partOf d3 != p) = false := by simp; omega
           rw [gq]; clear gq)
        | (have gq : (!decide (partOf d3 = p)) = false := by simp; omega
           rw [gq]; clear gq)
        | (have gq : (!partOf d3 == p) = false := by simp; omega
           rw [gq]; clear gq)
        | (have gq : (partOf d3 != p) = false := by simp; omega
           simp only [gq]; clear gq)
        | (have gq : (!decide (partOf d3 = p)) = false := by simp; omega
           simp only [gq]; clear gq)
        | (have gq : (!partOf d3 == p) = false := by simp; omega
           simp only [gq]; clear gq)
      repeat (first | go_big_quiet_skip | (go_big_quiet_want; go_big_quiet_op; first | go_big_quiet_on | go_big_quiet_call (first | (go_at_call 20; exact Calls.regrown_of ((specShard_any _ _).mono fun _ _ h => ⟨h.1, by rw [h.2]; exact Below.refl _ _⟩)))))
      have hpk := partOf_key (show partOf d3 = p from by omega) hp
      obtain ⟨j, rfl⟩ := Int.eq_ofNat_of_zero_le hpk.1
      have hj24 : j < 24 := by omega
      obtain ⟨ver, hver, hvc⟩ := HRW.out j hj24
      have HVR : Hid (verAt R (j : Int) = ver) := hid (by unfold verAt; simpa using hver)
      have hvc1 := (HD51.out.cell (p := ⟨br, or' + j * 3, none⟩) (Nat.lt_of_lt_of_le HBR.out c50.size)).trans hvc
      have rv := cell_regrown hvc1
      have hji : (j : Int) < 24 := by omega
      clear hver hvc hpk
      by_cases h5a : ¬ d5 = 0
      case pos =>
        first
          | (have gq : (d5 != 0) = true := by simp; omega
             rw [gq]; clear gq)
          | (have gq : (!decide (d5 = 0)) = true := by simp; omega
             rw [gq]; clear gq)
          | (have gq : (!d5 == 0) = true := by simp; omega
             rw [gq]; clear gq)
          | (have gq : (d5 != 0) = true := by simp; omega
             simp only [gq]; clear gq)
          | (have gq : (!decide (d5 = 0)) = true := by simp; omega
             simp only [gq]; clear gq)
          | (have gq : (!d5 == 0) = true := by simp; omega
             simp only [gq]; clear gq)
        repeat (first | go_big_quiet_skip | (go_big_quiet_want; go_big_quiet_op; first | go_big_quiet_on | go_big_quiet_call (first | (go_at_call 20; exact Calls.regrown_of ((specShard_any _ _).mono fun _ _ h => ⟨h.1, by rw [h.2]; exact Below.refl _ _⟩)))))
        by_cases h5b : ¬ d5 = 3
        case pos =>
          first
            | (have gq : (d5 != 3) = true := by simp; omega
               rw [gq]; clear gq)
            | (have gq : (!decide (d5 = 3)) = true := by simp; omega
               rw [gq]; clear gq)
            | (have gq : (!d5 == 3) = true := by simp; omega
               rw [gq]; clear gq)
            | (have gq : (d5 != 3) = true := by simp; omega
               simp only [gq]; clear gq)
            | (have gq : (!decide (d5 = 3)) = true := by simp; omega
               simp only [gq]; clear gq)
            | (have gq : (!d5 == 3) = true := by simp; omega
               simp only [gq]; clear gq)
          have hno := HNO.out (fun z => by have := HAT.out.1 z; have := HVR.out; omega)
          clear HNO HAT HPRE HX HPV HRW HCD HCR HB1 HD51 HBR HLT HVR
          repeat (first | go_big_quiet_skip | (go_big_quiet_want; go_big_quiet_op; first | go_big_quiet_on | go_big_quiet_call (first | (go_at_call 20; exact Calls.regrown_of ((specShard_any _ _).mono fun _ _ h => ⟨h.1, by rw [h.2]; exact Below.refl _ _⟩)))))
          refine wpQuiet_nil ?_
          rintro wq ⟨pq, hwq⟩
          have hq : Below w51.heap.size w51 wq := by rw [hwq]; exact below_regrown _ _ _
          clear hwq pq
          have cq := c51.trans (hq.mono c51.size)
          go_wp2
          go_ret
          exact ⟨by first | (simp; done) | simp [hno], cq⟩
        first
          | (have gq : (d5 != 3) = false := by simp; omega
             rw [gq]; clear gq)
          | (have gq : (!decide (d5 = 3)) = false := by simp; omega
             rw [gq]; clear gq)
          | (have gq : (!d5 == 3) = false := by simp; omega
             rw [gq]; clear gq)
          | (have gq : (d5 != 3) = false := by simp; omega
             simp only [gq]; clear gq)
          | (have gq : (!decide (d5 = 3)) = false := by simp; omega
             simp only [gq]; clear gq)
          | (have gq : (!d5 == 3) = false := by simp; omega
             simp only [gq]; clear gq)
        repeat (first | go_big_quiet_skip | (go_big_quiet_want; go_big_quiet_op; first | go_big_quiet_on | go_big_quiet_call (first | (go_at_call 20; exact Calls.regrown_of ((specShard_any _ _).mono fun _ _ h => ⟨h.1, by rw [h.2]; exact Below.refl _ _⟩)))))
        by_cases h6 : d4 < 0
        case pos =>
          first
            | (have gq : decide (d4 < 0) = true := by simp; omega
               rw [gq]; clear gq)
            | (have gq : decide (d4 < 0) = true := by simp; omega
               simp only [gq]; clear gq)
          have hno := HNO.out (fun z => by have := HAT.out.1 z; have := HVR.out; omega)
          clear HNO HAT HPRE HX HPV HRW HCD HCR HB1 HD51 HBR HLT HVR
          repeat (first | go_big_quiet_skip | (go_big_quiet_want; go_big_quiet_op; first | go_big_quiet_on | go_big_quiet_call (first | (go_at_call 20; exact Calls.regrown_of ((specShard_any _ _).mono fun _ _ h => ⟨h.1, by rw [h.2]; exact Below.refl _ _⟩)))))
          refine wpQuiet_nil ?_
          rintro wq ⟨pq, hwq⟩
          have hq : Below w51.heap.size w51 wq := by rw [hwq]; exact below_regrown _ _ _
          clear hwq pq
          have cq := c51.trans (hq.mono c51.size)
          go_wp2
          go_ret
          exact ⟨by first | (simp; done) | simp [hno], cq⟩
        first
          | (have gq : decide (d4 < 0) = false := by simp; omega
             rw [gq]; clear gq)
          | (have gq : decide (d4 < 0) = false := by simp; omega
             simp only [gq]; clear gq)
        repeat (first | go_big_quiet_skip | (go_big_quiet_want; go_big_quiet_op; first | go_big_quiet_on | go_big_quiet_call (first | (go_at_call 20; exact Calls.regrown_of ((specShard_any _ _).mono fun _ _ h => ⟨h.1, by rw [h.2]; exact Below.refl _ _⟩)))))
        by_cases h7 : ver < d4
        case pos =>
          first
            | (have gq : decide (d4 > ver) = true := by simp; omega
               rw [gq]; clear gq)
            | (have gq : decide (ver < d4) = true := by simp; omega
               rw [gq]; clear gq)
            | (have gq : decide (d4 > ver) = true := by simp; omega
               simp only [gq]; clear gq)
            | (have gq : decide (ver < d4) = true := by simp; omega
               simp only [gq]; clear gq)
          have hno := HNO.out (fun z => by have := HAT.out.1 z; have := HVR.out; omega)
          clear HNO HAT HPRE HX HPV HRW HCD HCR HB1 HD51 HBR HLT HVR
          repeat (first | go_big_quiet_skip | (go_big_quiet_want; go_big_quiet_op; first | go_big_quiet_on | go_big_quiet_call (first | (go_at_call 20; exact Calls.regrown_of ((specShard_any _ _).mono fun _ _ h => ⟨h.1, by rw [h.2]; exact Below.refl _ _⟩)))))
          refine wpQuiet_nil ?_
          rintro wq ⟨pq, hwq⟩
          have hq : Below w51.heap.size w51 wq := by rw [hwq]; exact below_regrown _ _ _
          clear hwq pq
          have cq := c51.trans (hq.mono c51.size)
          go_wp2
          go_ret
          exact ⟨by first | (simp; done) | simp [hno], cq⟩
        first
          | (have gq : decide (d4 > ver) = false := by simp; omega
             rw [gq]; clear gq)
          | (have gq : decide (ver < d4) = false := by simp; omega
             rw [gq]; clear gq)
          | (have gq : decide (d4 > ver) = false := by simp; omega
             simp only [gq]; clear gq)
          | (have gq : decide (ver < d4) = false := by simp; omega
             simp only [gq]; clear gq)
        repeat (first | go_big_quiet_skip | (go_big_quiet_want; go_big_quiet_op; first | go_big_quiet_on | go_big_quiet_call (first | (go_at_call 20; exact Calls.regrown_of ((specShard_any _ _).mono fun _ _ h => ⟨h.1, by rw [h.2]; exact Below.refl _ _⟩)))))
        by_cases h8a : d4 = 0
        case pos =>
          first
            | (have gq : (d4 == 0) = true := by simp; omega
               rw [gq]; clear gq)
            | (have gq : decide (d4 = 0) = true := by simp; omega
               rw [gq]; clear gq)
            | (have gq : (d4 == 0) = true := by simp; omega
               simp only [gq]; clear gq)
            | (have gq : decide (d4 = 0) = true := by simp; omega
               simp only [gq]; clear gq)
          repeat (first | go_big_quiet_skip | (go_big_quiet_want; go_big_quiet_op; first | go_big_quiet_on | go_big_quiet_call (first | (go_at_call 20; exact Calls.regrown_of ((specShard_any _ _).mono fun _ _ h => ⟨h.1, by rw [h.2]; exact Below.refl _ _⟩)))))
          first
            | (have gq : (d5 == 0) = false := by simp; omega
               rw [gq]; clear gq)
            | (have gq : decide (d5 = 0) = false := by simp; omega
               rw [gq]; clear gq)
            | (have gq : (d5 == 0) = false := by simp; omega
               simp only [gq]; clear gq)
            | (have gq : decide (d5 = 0) = false := by simp; omega
               simp only [gq]; clear gq)
          repeat (first | go_big_quiet_skip | (go_big_quiet_want; go_big_quiet_op; first | go_big_quiet_on | go_big_quiet_call (first | (go_at_call 20; exact Calls.regrown_of ((specShard_any _ _).mono fun _ _ h => ⟨h.1, by rw [h.2]; exact Below.refl _ _⟩)))))
          have H8a := hid h8a
          clear h8a
          by_cases h9a : 0 < k
          case pos =>
            first
              | (have gq : decide ((k : Int) > 0) = true := by simp; omega
                 rw [gq]; clear gq)
              | (have gq : decide (0 < (k : Int)) = true := by simp; omega
                 rw [gq]; clear gq)
              | (have gq : decide (0 < k) = true := by simp; omega
                 rw [gq]; clear gq)
              | (have gq : decide ((k : Int) > 0) = true := by simp; omega
                 simp only [gq]; clear gq)
              | (have gq : decide (0 < (k : Int)) = true := by simp; omega
                 simp only [gq]; clear gq)
              | (have gq : decide (0 < k) = true := by simp; omega
                 simp only [gq]; clear gq)
            obtain ⟨q, hqk⟩ : ∃ q, q + 1 = k := ⟨k - 1, by omega⟩
            obtain ⟨pv, hpv, hpc⟩ := HPV.out q hqk
            have HPQ : Hid (colK D (k - 1) 0 = pv) := hid (by rw [show k - 1 = q from by omega]; exact hpv)
            have hpc1 := (HD51.out.cell (p := ⟨bd, od + q * 6, none⟩) (Nat.lt_of_lt_of_le hbd c50.size)).trans hpc
            have rp := cell_regrown hpc1
            have hq1 : (k : Int) - 1 = (q : Int) := by omega
            have hqi : (q : Int) < (D.length : Int) := by omega
            clear hpc hqk hpv
            repeat (first | go_big_quiet_skip | (go_big_quiet_want; go_big_quiet_op; first | go_big_quiet_on | go_big_quiet_call (first | (go_at_call 20; exact Calls.regrown_of ((specShard_any _ _).mono fun _ _ h => ⟨h.1, by rw [h.2]; exact Below.refl _ _⟩)))))
            by_cases h9b : d0 ≤ pv
            case pos =>
              first
                | (have gq : decide (d0 ≤ pv) = true := by simp; omega
                   rw [gq]; clear gq)
                | (have gq : decide (d0 ≤ pv) = true := by simp; omega
                   simp only [gq]; clear gq)
              have hno := HNO.out (fun z => by have := HAT.out.1 z; have := HVR.out; have := HPQ.out; omega)
              clear HNO HAT HPRE HX HPV HRW HCD HCR HB1 HD51 HBR HLT HVR HPQ
              repeat (first | go_big_quiet_skip | (go_big_quiet_want; go_big_quiet_op; first | go_big_quiet_on | go_big_quiet_call (first | (go_at_call 20; exact Calls.regrown_of ((specShard_any _ _).mono fun _ _ h => ⟨h.1, by rw [h.2]; exact Below.refl _ _⟩)))))
              refine wpQuiet_nil ?_
              rintro wq ⟨pq, hwq⟩
              have hq : Below w51.heap.size w51 wq := by rw [hwq]; exact below_regrown _ _ _
              clear hwq pq
              have cq := c51.trans (hq.mono c51.size)
              go_wp2
              go_ret
              exact ⟨by first | (simp; done) | simp [hno], cq⟩
            first
              | (have gq : decide (d0 ≤ pv) = false := by simp; omega
                 rw [gq]; clear gq)
              | (have gq : decide (d0 ≤ pv) = false := by simp; omega
                 simp only [gq]; clear gq)
            repeat (first | go_big_quiet_skip | (go_big_quiet_want; go_big_quiet_op; first | go_big_quiet_on | go_big_quiet_call (first | (go_at_call 20; exact Calls.regrown_of ((specShard_any _ _).mono fun _ _ h => ⟨h.1, by rw [h.2]; exact Below.refl _ _⟩)))))
            have hat := hid (HPRE.out.more (HAT.out.2 ⟨by omega, by omega, by omega, by omega, by omega, by omega, by omega, by have := HVR.out; omega, by have := H8a.out; omega, fun z => by have := HPQ.out; omega⟩))
            repeat (first | go_big_quiet_skip | (go_big_quiet_want; go_big_quiet_op; first | go_big_quiet_on | go_big_quiet_call (first | (go_at_call 20; exact Calls.regrown_of ((specShard_any _ _).mono fun _ _ h => ⟨h.1, by rw [h.2]; exact Below.refl _ _⟩)))))
            refine wpQuiet_nil ?_
            rintro wq ⟨pq, hwq⟩
            have hq : Below w51.heap.size w51 wq := by rw [hwq]; exact below_regrown _ _ _
            clear hwq pq
            have HQ := hid (HB1.out.trans ((HD51.out.trans (hq.mono HD51.out.size)).mono HB1.out.size))
            go_wp2_with fail
            go_roundw
            case rel => exact ⟨k + 1, by have := HLT.out; omega, by go_num, hat, HQ⟩
            case measure =>
              have := HLT.out
              simp [intOf]
              omega
          case neg =>
            first
              | (have gq : decide ((k : Int) > 0) = false := by simp; omega
                 rw [gq]; clear gq)
              | (have gq : decide (0 < (k : Int)) = false := by simp; omega
                 rw [gq]; clear gq)
              | (have gq : decide (0 < k) = false := by simp; omega
                 rw [gq]; clear gq)
              | (have gq : decide ((k : Int) > 0) = false := by simp; omega
                 simp only [gq]; clear gq)
              | (have gq : decide (0 < (k : Int)) = false := by simp; omega
                 simp only [gq]; clear gq)
              | (have gq : decide (0 < k) = false := by simp; omega
                 simp only [gq]; clear gq)
            repeat (first | go_big_quiet_skip | (go_big_quiet_want; go_big_quiet_op; first | go_big_quiet_on | go_big_quiet_call (first | (go_at_call 20; exact Calls.regrown_of ((specShard_any _ _).mono fun _ _ h => ⟨h.1, by rw [h.2]; exact Below.refl _ _⟩)))))
            have hat := hid (HPRE.out.more (HAT.out.2 ⟨by omega, by omega, by omega, by omega, by omega, by omega, by omega, by have := HVR.out; omega, by have := H8a.out; omega, fun z => by omega⟩))
            repeat (first | go_big_quiet_skip | (go_big_quiet_want; go_big_quiet_op; first | go_big_quiet_on | go_big_quiet_call (first | (go_at_call 20; exact Calls.regrown_of ((specShard_any _ _).mono fun _ _ h => ⟨h.1, by rw [h.2]; exact Below.refl _ _⟩)))))
            refine wpQuiet_nil ?_
            rintro wq ⟨pq, hwq⟩
            have hq : Below w51.heap.size w51 wq := by rw [hwq]; exact below_regrown _ _ _
            clear hwq pq
            have HQ := hid (HB1.out.trans ((HD51.out.trans (hq.mono HD51.out.size)).mono HB1.out.size))
            go_wp2_with fail
            go_roundw
            case rel => exact ⟨k + 1, by have := HLT.out; omega, by go_num, hat, HQ⟩
            case measure =>
              have := HLT.out
              simp [intOf]
              omega
        first
          | (have gq : (d4 == 0) = false := by simp; omega
             rw [gq]; clear gq)
          | (have gq : decide (d4 = 0) = false := by simp; omega
             rw [gq]; clear gq)
          | (have gq : (d4 == 0) = false := by simp; omega
             simp only [gq]; clear gq)
          | (have gq : decide (d4 = 0) = false := by simp; omega
             simp only [gq]; clear gq)
        repeat (first | go_big_quiet_skip | (go_big_quiet_want; go_big_quiet_op; first | go_big_quiet_on | go_big_quiet_call (first | (go_at_call 20; exact Calls.regrown_of ((specShard_any _ _).mono fun _ _ h => ⟨h.1, by rw [h.2]; exact Below.refl _ _⟩)))))
        by_cases h9a : 0 < k
        case pos =>
          first
            | (have gq : decide ((k : Int) > 0) = true := by simp; omega
               rw [gq]; clear gq)
            | (have gq : decide (0 < (k : Int)) = true := by simp; omega
               rw [gq]; clear gq)
            | (have gq : decide (0 < k) = true := by simp; omega
               rw [gq]; clear gq)
            | (have gq : decide ((k : Int) > 0) = true := by simp; omega
               simp only [gq]; clear gq)
            | (have gq : decide (0 < (k : Int)) = true := by simp; omega
               simp only [gq]; clear gq)
            | (have gq : decide (0 < k) = true := by simp; omega
               simp only [gq]; clear gq)
          obtain ⟨q, hqk⟩ : ∃ q, q + 1 = k := ⟨k - 1, by omega⟩
          obtain ⟨pv, hpv, hpc⟩ := HPV.out q hqk
          have HPQ : Hid (colK D (k - 1) 0 = pv) := hid (by rw [show k - 1 = q from by omega]; exact hpv)
          have hpc1 := (HD51.out.cell (p := ⟨bd, od + q * 6, none⟩) (Nat.lt_of_lt_of_le hbd c50.size)).trans hpc
          have rp := cell_regrown hpc1
          have hq1 : (k : Int) - 1 = (q : Int) := by omega
          have hqi : (q : Int) < (D.length : Int) := by omega
          clear hpc hqk hpv
          repeat (first | go_big_quiet_skip | (go_big_quiet_want; go_big_quiet_op; first | go_big_quiet_on | go_big_quiet_call (first | (go_at_call 20; exact Calls.regrown_of ((specShard_any _ _).mono fun _ _ h => ⟨h.1, by rw [h.2]; exact Below.refl _ _⟩)))))
          by_cases h9b : d0 ≤ pv
          case pos =>
            first
              | (have gq : decide (d0 ≤ pv) = true := by simp; omega
                 rw [gq]; clear gq)
              | (have gq : decide (d0 ≤ pv) = true := by simp; omega
                 simp only [gq]; clear gq)
            have hno := HNO.out (fun z => by have := HAT.out.1 z; have := HVR.out; have := HPQ.out; omega)
            clear HNO HAT HPRE HX HPV HRW HCD HCR HB1 HD51 HBR HLT HVR HPQ
            repeat (first | go_big_quiet_skip | (go_big_quiet_want; go_big_quiet_op; first | go_big_quiet_on | go_big_quiet_call (first | (go_at_call 20; exact Calls.regrown_of ((specShard_any _ _).mono fun _ _ h => ⟨h.1, by rw [h.2]; exact Below.refl _ _⟩)))))
            refine wpQuiet_nil ?_
            rintro wq ⟨pq, hwq⟩
            have hq : Below w51.heap.size w51 wq := by rw [hwq]; exact below_regrown _ _ _
            clear hwq pq
            have cq := c51.trans (hq.mono c51.size)
            go_wp2
            go_ret
            exact ⟨by first | (simp; done) | simp [hno], cq⟩
          first
            | (have gq : decide (d0 ≤ pv) = false := by simp; omega
               rw [gq]; clear gq)
            | (have gq : decide (d0 ≤ pv) = false := by simp; omega
               simp only [gq]; clear gq)
          repeat (first | go_big_quiet_skip | (go_big_quiet_want; go_big_quiet_op; first | go_big_quiet_on | go_big_quiet_call (first | (go_at_call 20; exact Calls.regrown_of ((specShard_any _ _).mono fun _ _ h => ⟨h.1, by rw [h.2]; exact Below.refl _ _⟩)))))
          have hat := hid (HPRE.out.more (HAT.out.2 ⟨by omega, by omega, by omega, by omega, by omega, by omega, by omega, by have := HVR.out; omega, by omega, fun z => by have := HPQ.out; omega⟩))
          repeat (first | go_big_quiet_skip | (go_big_quiet_want; go_big_quiet_op; first | go_big_quiet_on | go_big_quiet_call (first | (go_at_call 20; exact Calls.regrown_of ((specShard_any _ _).mono fun _ _ h => ⟨h.1, by rw [h.2]; exact Below.refl _ _⟩)))))
          refine wpQuiet_nil ?_
          rintro wq ⟨pq, hwq⟩
          have hq : Below w51.heap.size w51 wq := by rw [hwq]; exact below_regrown _ _ _
          clear hwq pq
          have HQ := hid (HB1.out.trans ((HD51.out.trans (hq.mono HD51.out.size)).mono HB1.out.size))
          go_wp2_with fail
          go_roundw
          case rel => exact ⟨k + 1, by have := HLT.out; omega, by go_num, hat, HQ⟩
          case measure =>
            have := HLT.out
            simp [intOf]
            omega
        case neg =>
          first
            | (have gq : decide ((k : Int) > 0) = false := by simp; omega
               rw [gq]; clear gq)
            | (have gq : decide (0 < (k : Int)) = false := by simp; omega
               rw [gq]; clear gq)
            | (have gq : decide (0 < k) = false := by simp; omega
               rw [gq]; clear gq)
            | (have gq : decide ((k : Int) > 0) = false := by simp; omega
               simp only [gq]; clear gq)
            | (have gq : decide (0 < (k : Int)) = false := by simp; omega
               simp only [gq]; clear gq)
            | (have gq : decide (0 < k) = false := by simp; omega
               simp only [gq]; clear gq)
          repeat (first | go_big_quiet_skip | (go_big_quiet_want; go_big_quiet_op; first | go_big_quiet_on | go_big_quiet_call (first | (go_at_call 20; exact Calls.regrown_of ((specShard_any _ _).mono fun _ _ h => ⟨h.1, by rw [h.2]; exact Below.refl _ _⟩)))))
          have hat := hid (HPRE.out.more (HAT.out.2 ⟨by omega, by omega, by omega, by omega, by omega, by omega, by omega, by have := HVR.out; omega, by omega, fun z => by omega⟩))
          repeat (first | go_big_quiet_skip | (go_big_quiet_want; go_big_quiet_op; first | go_big_quiet_on | go_big_quiet_call (first | (go_at_call 20; exact Calls.regrown_of ((specShard_any _ _).mono fun _ _ h => ⟨h.1, by rw [h.2]; exact Below.refl _ _⟩)))))
          refine wpQuiet_nil ?_
          rintro wq ⟨pq, hwq⟩
          have hq : Below w51.heap.size w51 wq := by rw [hwq]; exact below_regrown _ _ _
          clear hwq pq
          have HQ := hid (HB1.out.trans ((HD51.out.trans (hq.mono HD51.out.size)).mono HB1.out.size))
          go_wp2_with fail
          go_roundw
          case rel => exact ⟨k + 1, by have := HLT.out; omega, by go_num, hat, HQ⟩
          case measure =>
            have := HLT.out
            simp [intOf]
            omega
      case neg =>
        first
          | (have gq : (d5 != 0) = false := by simp; omega
             rw [gq]; clear gq)
          | (have gq : (!decide (d5 = 0)) = false := by simp; omega
             rw [gq]; clear gq)
          | (have gq : (!d5 == 0) = false := by simp; omega
             rw [gq]; clear gq)
          | (have gq : (d5 != 0) = false := by simp; omega
             simp only [gq]; clear gq)
          | (have gq : (!decide (d5 = 0)) = false := by simp; omega
             simp only [gq]; clear gq)
          | (have gq : (!d5 == 0) = false := by simp; omega
             simp only [gq]; clear gq)
        repeat (first | go_big_quiet_skip | (go_big_quiet_want; go_big_quiet_op; first | go_big_quiet_on | go_big_quiet_call (first | (go_at_call 20; exact Calls.regrown_of ((specShard_any _ _).mono fun _ _ h => ⟨h.1, by rw [h.2]; exact Below.refl _ _⟩)))))
        by_cases h6 : d4 < 0
        case pos =>
          first
            | (have gq : decide (d4 < 0) = true := by simp; omega
               rw [gq]; clear gq)
            | (have gq : decide (d4 < 0) = true := by simp; omega
               simp only [gq]; clear gq)
          have hno := HNO.out (fun z => by have := HAT.out.1 z; have := HVR.out; omega)
          clear HNO HAT HPRE HX HPV HRW HCD HCR HB1 HD51 HBR HLT HVR
          repeat (first | go_big_quiet_skip | (go_big_quiet_want; go_big_quiet_op; first | go_big_quiet_on | go_big_quiet_call (first | (go_at_call 20; exact Calls.regrown_of ((specShard_any _ _).mono fun _ _ h => ⟨h.1, by rw [h.2]; exact Below.refl _ _⟩)))))
          refine wpQuiet_nil ?_
          rintro wq ⟨pq, hwq⟩
          have hq : Below w51.heap.size w51 wq := by rw [hwq]; exact below_regrown _ _ _
          clear hwq pq
          have cq := c51.trans (hq.mono c51.size)
          go_wp2
          go_ret
          exact ⟨by first | (simp; done) | simp [hno], cq⟩
        first
          | (have gq : decide (d4 < 0) = false := by simp; omega
             rw [gq]; clear gq)
          | (have gq : decide (d4 < 0) = false := by simp; omega
             simp only [gq]; clear gq)
        repeat (first | go_big_quiet_skip | (go_big_quiet_want; go_big_quiet_op; first | go_big_quiet_on | go_big_quiet_call (first | (go_at_call 20; exact Calls.regrown_of ((specShard_any _ _).mono fun _ _ h => ⟨h.1, by rw [h.2]; exact Below.refl _ _⟩)))))
        by_cases h7 : ver < d4
        case pos =>
          first
            | (have gq : decide (d4 > ver) = true := by simp; omega
               rw [gq]; clear gq)
            | (have gq : decide (ver < d4) = true := by simp; omega
               rw [gq]; clear gq)
            | (have gq : decide (d4 > ver) = true := by simp; omega
               simp only [gq]; clear gq)
            | (have gq : decide (ver < d4) = true := by simp; omega
               simp only [gq]; clear gq)
          have hno := HNO.out (fun z => by have := HAT.out.1 z; have := HVR.out; omega)
          clear HNO HAT HPRE HX HPV HRW HCD HCR HB1 HD51 HBR HLT HVR
          repeat (first | go_big_quiet_skip | (go_big_quiet_want; go_big_quiet_op; first | go_big_quiet_on | go_big_quiet_call (first | (go_at_call 20; exact Calls.regrown_of ((specShard_any _ _).mono fun _ _ h => ⟨h.1, by rw [h.2]; exact Below.refl _ _⟩)))))
          refine wpQuiet_nil ?_
          rintro wq ⟨pq, hwq⟩
          have hq : Below w51.heap.size w51 wq := by rw [hwq]; exact below_regrown _ _ _
          clear hwq pq
          have cq := c51.trans (hq.mono c51.size)
          go_wp2
          go_ret
          exact ⟨by first | (simp; done) | simp [hno], cq⟩
        first
          | (have gq : decide (d4 > ver) = false := by simp; omega
             rw [gq]; clear gq)
          | (have gq : decide (ver < d4) = false := by simp; omega
             rw [gq]; clear gq)
          | (have gq : decide (d4 > ver) = false := by simp; omega
             simp only [gq]; clear gq)
          | (have gq : decide (ver < d4) = false := by simp; omega
             simp only [gq]; clear gq)
        repeat (first | go_big_quiet_skip | (go_big_quiet_want; go_big_quiet_op; first | go_big_quiet_on | go_big_quiet_call (first | (go_at_call 20; exact Calls.regrown_of ((specShard_any _ _).mono fun _ _ h => ⟨h.1, by rw [h.2]; exact Below.refl _ _⟩)))))
        by_cases h8a : d4 = 0
        case pos =>
          first
            | (have gq : (d4 == 0) = true := by simp; omega
               rw [gq]; clear gq)
            | (have gq : decide (d4 = 0) = true := by simp; omega
               rw [gq]; clear gq)
            | (have gq : (d4 == 0) = true := by simp; omega
               simp only [gq]; clear gq)
            | (have gq : decide (d4 = 0) = true := by simp; omega
               simp only [gq]; clear gq)
          repeat (first | go_big_quiet_skip | (go_big_quiet_want; go_big_quiet_op; first | go_big_quiet_on | go_big_quiet_call (first | (go_at_call 20; exact Calls.regrown_of ((specShard_any _ _).mono fun _ _ h => ⟨h.1, by rw [h.2]; exact Below.refl _ _⟩)))))
          first
            | (have gq : (d5 == 0) = true := by simp; omega
               rw [gq]; clear gq)
            | (have gq : decide (d5 = 0) = true := by simp; omega
               rw [gq]; clear gq)
            | (have gq : (d5 == 0) = true := by simp; omega
               simp only [gq]; clear gq)
            | (have gq : decide (d5 = 0) = true := by simp; omega
               simp only [gq]; clear gq)
          have H8a := hid h8a
          clear h8a
          have hno := HNO.out (fun z => by have := HAT.out.1 z; have := HVR.out; have := H8a.out; omega)
          clear HNO HAT HPRE HX HPV HRW HCD HCR HB1 HD51 HBR HLT HVR
          repeat (first | go_big_quiet_skip | (go_big_quiet_want; go_big_quiet_op; first | go_big_quiet_on | go_big_quiet_call (first | (go_at_call 20; exact Calls.regrown_of ((specShard_any _ _).mono fun _ _ h => ⟨h.1, by rw [h.2]; exact Below.refl _ _⟩)))))
          refine wpQuiet_nil ?_
          rintro wq ⟨pq, hwq⟩
          have hq : Below w51.heap.size w51 wq := by rw [hwq]; exact below_regrown _ _ _
          clear hwq pq
          have cq := c51.trans (hq.mono c51.size)
          go_wp2
          go_ret
          exact ⟨by first | (simp; done) | simp [hno], cq⟩
        first
          | (have gq : (d4 == 0) = false := by simp; omega
             rw [gq]; clear gq)
          | (have gq : decide (d4 = 0) = false := by simp; omega
             rw [gq]; clear gq)
          | (have gq : (d4 == 0) = false := by simp; omega
             simp only [gq]; clear gq)
          | (have gq : decide (d4 = 0) = false := by simp; omega
             simp only [gq]; clear gq)
        repeat (first | go_big_quiet_skip | (go_big_quiet_want; go_big_quiet_op; first | go_big_quiet_on | go_big_quiet_call (first | (go_at_call 20; exact Calls.regrown_of ((specShard_any _ _).mono fun _ _ h => ⟨h.1, by rw [h.2]; exact Below.refl _ _⟩)))))
        by_cases h9a : 0 < k
        case pos =>
          first
            | (have gq : decide ((k : Int) > 0) = true := by simp; omega
               rw [gq]; clear gq)
            | (have gq : decide (0 < (k : Int)) = true := by simp; omega
               rw [gq]; clear gq)
            | (have gq : decide (0 < k) = true := by simp; omega
               rw [gq]; clear gq)
            | (have gq : decide ((k : Int) > 0) = true := by simp; omega
               simp only [gq]; clear gq)
            | (have gq : decide (0 < (k : Int)) = true := by simp; omega
               simp only [gq]; clear gq)
            | (have gq : decide (0 < k) = true := by simp; omega
               simp only [gq]; clear gq)
          obtain ⟨q, hqk⟩ : ∃ q, q + 1 = k := ⟨k - 1, by omega⟩
          obtain ⟨pv, hpv, hpc⟩ := HPV.out q hqk
          have HPQ : Hid (colK D (k - 1) 0 = pv) := hid (by rw [show k - 1 = q from by omega]; exact hpv)
          have hpc1 := (HD51.out.cell (p := ⟨bd, od + q * 6, none⟩) (Nat.lt_of_lt_of_le hbd c50.size)).trans hpc
          have rp := cell_regrown hpc1
          have hq1 : (k : Int) - 1 = (q : Int) := by omega
          have hqi : (q : Int) < (D.length : Int) := by omega
          clear hpc hqk hpv
          repeat (first | go_big_quiet_skip | (go_big_quiet_want; go_big_quiet_op; first | go_big_quiet_on | go_big_quiet_call (first | (go_at_call 20; exact Calls.regrown_of ((specShard_any _ _).mono fun _ _ h => ⟨h.1, by rw [h.2]; exact Below.refl _ _⟩)))))
          by_cases h9b : d0 ≤ pv
          case pos =>
            first
              | (have gq : decide (d0 ≤ pv) = true := by simp; omega
                 rw [gq]; clear gq)
              | (have gq : decide (d0 ≤ pv) = true := by simp; omega
                 simp only [gq]; clear gq)
            have hno := HNO.out (fun z => by have := HAT.out.1 z; have := HVR.out; have := HPQ.out; omega)
            clear HNO HAT HPRE HX HPV HRW HCD HCR HB1 HD51 HBR HLT HVR HPQ
            repeat (first | go_big_quiet_skip | (go_big_quiet_want; go_big_quiet_op; first | go_big_quiet_on | go_big_quiet_call (first | (go_at_call 20; exact Calls.regrown_of ((specShard_any _ _).mono fun _ _ h => ⟨h.1, by rw [h.2]; exact Below.refl _ _⟩)))))
            refine wpQuiet_nil ?_
            rintro wq ⟨pq, hwq⟩
            have hq : Below w51.heap.size w51 wq := by rw [hwq]; exact below_regrown _ _ _
            clear hwq pq
            have cq := c51.trans (hq.mono c51.size)
            go_wp2
            go_ret
            exact ⟨by first | (simp; done) | simp [hno], cq⟩
          first
            | (have gq : decide (d0 ≤ pv) = false := by simp; omega
               rw [gq]; clear gq)
            | (have gq : decide (d0 ≤ pv) = false := by simp; omega
               simp only [gq]; clear gq)
          repeat (first | go_big_quiet_skip | (go_big_quiet_want; go_big_quiet_op; first | go_big_quiet_on | go_big_quiet_call (first | (go_at_call 20; exact Calls.regrown_of ((specShard_any _ _).mono fun _ _ h => ⟨h.1, by rw [h.2]; exact Below.refl _ _⟩)))))
          have hat := hid (HPRE.out.more (HAT.out.2 ⟨by omega, by omega, by omega, by omega, by omega, by omega, by omega, by have := HVR.out; omega, by omega, fun z => by have := HPQ.out; omega⟩))
          repeat (first | go_big_quiet_skip | (go_big_quiet_want; go_big_quiet_op; first | go_big_quiet_on | go_big_quiet_call (first | (go_at_call 20; exact Calls.regrown_of ((specShard_any _ _).mono fun _ _ h => ⟨h.1, by rw [h.2]; exact Below.refl _ _⟩)))))
          refine wpQuiet_nil ?_
          rintro wq ⟨pq, hwq⟩
          have hq : Below w51.heap.size w51 wq := by rw [hwq]; exact below_regrown _ _ _
          clear hwq pq
          have HQ := hid (HB1.out.trans ((HD51.out.trans (hq.mono HD51.out.size)).mono HB1.out.size))
          go_wp2_with fail
          go_roundw
          case rel => exact ⟨k + 1, by have := HLT.out; omega, by go_num, hat, HQ⟩
          case measure =>
            have := HLT.out
            simp [intOf]
            omega
        case neg =>
          first
            | (have gq : decide ((k : Int) > 0) = false := by simp; omega
               rw [gq]; clear gq)
            | (have gq : decide (0 < (k : Int)) = false := by simp; omega
               rw [gq]; clear gq)
            | (have gq : decide (0 < k) = false := by simp; omega
               rw [gq]; clear gq)
            | (have gq : decide ((k : Int) > 0) = false := by simp; omega
               simp only [gq]; clear gq)
            | (have gq : decide (0 < (k : Int)) = false := by simp; omega
               simp only [gq]; clear gq)
            | (have gq : decide (0 < k) = false := by simp; omega
               simp only [gq]; clear gq)
          repeat (first | go_big_quiet_skip | (go_big_quiet_want; go_big_quiet_op; first | go_big_quiet_on | go_big_quiet_call (first | (go_at_call 20; exact Calls.regrown_of ((specShard_any _ _).mono fun _ _ h => ⟨h.1, by rw [h.2]; exact Below.refl _ _⟩)))))
          have hat := hid (HPRE.out.more (HAT.out.2 ⟨by omega, by omega, by omega, by omega, by omega, by omega, by omega, by have := HVR.out; omega, by omega, fun z => by omega⟩))
          repeat (first | go_big_quiet_skip | (go_big_quiet_want; go_big_quiet_op; first | go_big_quiet_on | go_big_quiet_call (first | (go_at_call 20; exact Calls.regrown_of ((specShard_any _ _).mono fun _ _ h => ⟨h.1, by rw [h.2]; exact Below.refl _ _⟩)))))
          refine wpQuiet_nil ?_
          rintro wq ⟨pq, hwq⟩
          have hq : Below w51.heap.size w51 wq := by rw [hwq]; exact below_regrown _ _ _
          clear hwq pq
          have HQ := hid (HB1.out.trans ((HD51.out.trans (hq.mono HD51.out.size)).mono HB1.out.size))
          go_wp2_with fail
          go_roundw
          case rel => exact ⟨k + 1, by have := HLT.out; omega, by go_num, hat, HQ⟩
          case measure =>
            have := HLT.out
            simp [intOf]
            omega
    · obtain rfl : k = D.length := by omega
      have hyes : donesB p R D = true := decide_eq_true hpre.out
      go_wp2
      go_ret
      exact ⟨by simp [hyes], c50⟩
end Go.Proofs.YtefhpbcdjgllnaaGreat
