/- spec.l4Intents: contract. Written by a program (gsi.py). -/
import Derived.Test.YtefhpbcdjgllnaaGreatS4w
import Derived.Test.YtefhpbcdjgllnaaGreatPb
import Derived.Test.YtefhpbcdjgllnaaGreatOq
namespace Go.Proofs.YtefhpbcdjgllnaaGreat
open Go.RowKit
attribute [local go_sem ↓] Go.wp_at_zero Go.wp_at_succ

theorem specOpOk_is {k a b n : Int} {r : Bool} (h : opOk k a b n = r) (w : World) : Calls Tryz.prog 71 #[.agg #[.int .i64 k, .int .i64 a, .int .i64 b, .int .i64 n]] w fun e w' => e = .returned (.bool r) ∧ Below w.heap.size w w' := h ▸ specOpOk_any k a b n w
set_option maxRecDepth 100000 in
set_option maxHeartbeats 8000000 in
theorem specInts_any (p f st : Int) (v0 v1 v2 v3 v4 : Value) (T : List KD) (w : World) (hL : RdM 5 5 false w v2 T)  :
    Calls Tryz.prog 43 #[.agg #[.int .i64 p, .int .i64 f, .int .i64 st, v0, v1, v2, v3, v4]] w fun e w' => e = .returned (.bool (intsB p st T)) ∧ Below w.heap.size w w' := by
  obtain ⟨lo, lc, rfl, hml, hcl⟩ := hL
  have HC := hid hcl
  clear hcl
  unfold maxLen at hml
  go_enter Tryz.func43, Tryz.ntmps43
  by_cases h3 : T.length ≤ 3
  case neg =>
    have hno : intsB p st T = false := decide_eq_false (fun z => h3 z.1)
    have g1 : decide ((T.length : Int) > 3) = true := by simp; omega
    go_wp2
    go_ret
    exact ⟨by first | (simp; done) | simp [hno], by go_grown⟩
  have g1 : decide ((T.length : Int) > 3) = false := by simp; omega
  have HT3 := hid h3
  clear h3
  go_wp2_with fail
  generalize hW1 : (w.alloc (.cells #[.int .i64 p, .int .i64 f, .int .i64 st, v0, v1, .slice lo T.length lc, v3, v4] 43)) = w1
  have a0_1 : w1.cell? ⟨w.heap.size, 0, none⟩ = some (.int .i64 p) := by subst hW1; go_cell
  have a1_1 : w1.cell? ⟨w.heap.size, 1, none⟩ = some (.int .i64 f) := by subst hW1; go_cell
  have a2_1 : w1.cell? ⟨w.heap.size, 2, none⟩ = some (.int .i64 st) := by subst hW1; go_cell
  have a3_1 : w1.cell? ⟨w.heap.size, 3, none⟩ = some (v0) := by subst hW1; go_cell
  have a4_1 : w1.cell? ⟨w.heap.size, 4, none⟩ = some (v1) := by subst hW1; go_cell
  have a5_1 : w1.cell? ⟨w.heap.size, 5, none⟩ = some (.slice lo T.length lc) := by subst hW1; go_cell
  have a6_1 : w1.cell? ⟨w.heap.size, 6, none⟩ = some (v3) := by subst hW1; go_cell
  have a7_1 : w1.cell? ⟨w.heap.size, 7, none⟩ = some (v4) := by subst hW1; go_cell
  have al_1 : w.heap.size < w1.heap.size := by subst hW1; first | (simp; done) | (simp; omega)
  have c1 : Below w.heap.size w w1 := by subst hW1; go_grown
  have s1 : w1.heap.size = w.heap.size + 1 := by subst hW1; simp
  clear hW1
  have qa0_1 := cell_regrown a0_1
  have qa1_1 := cell_regrown a1_1
  have qa2_1 := cell_regrown a2_1
  have qa3_1 := cell_regrown a3_1
  have qa4_1 := cell_regrown a4_1
  have qa5_1 := cell_regrown a5_1
  have qa6_1 := cell_regrown a6_1
  have qa7_1 := cell_regrown a7_1
  clear qa0_1 qa1_1 qa2_1 qa3_1 qa4_1 qa5_1 qa6_1 qa7_1
  go_loopw [3] (fun i wr => ∃ k : Nat, k ≤ T.length ∧ i = .int .i64 k ∧ Hid (IntsTo p st T k) ∧ Hid (Below w1.heap.size w1 wr)) (fun i _ => T.length - (intOf i).toNat)
  case atStart => exact ⟨0, Nat.zero_le _, rfl, hid (fun j hj => absurd hj (Nat.not_lt_zero j)), hid (Below.refl _ _)⟩
  case round =>
    obtain ⟨k, hk, rfl, hpre, hbel⟩ := hrel
    obtain ⟨w50, hw50⟩ : ∃ y, y = wr := ⟨_, rfl⟩
    subst hw50
    have b50 := hbel.out
    have d50 : Below w1.heap.size w1 w50 := (Below.trans (by go_grown) (b50.mono (by first | omega | (simp; done) | (simp; omega))))
    have c50 : Below w.heap.size w w50 := c1.trans (d50.mono c1.size)
    have a0_50 : w50.cell? ⟨w.heap.size, 0, none⟩ = some (.int .i64 p) := (by rw [b50.cell (by first | omega | (simp; done) | (simp; omega))]; go_cell)
    have a1_50 : w50.cell? ⟨w.heap.size, 1, none⟩ = some (.int .i64 f) := (by rw [b50.cell (by first | omega | (simp; done) | (simp; omega))]; go_cell)
    have a2_50 : w50.cell? ⟨w.heap.size, 2, none⟩ = some (.int .i64 st) := (by rw [b50.cell (by first | omega | (simp; done) | (simp; omega))]; go_cell)
    have a3_50 : w50.cell? ⟨w.heap.size, 3, none⟩ = some (v0) := (by rw [b50.cell (by first | omega | (simp; done) | (simp; omega))]; go_cell)
    have a4_50 : w50.cell? ⟨w.heap.size, 4, none⟩ = some (v1) := (by rw [b50.cell (by first | omega | (simp; done) | (simp; omega))]; go_cell)
    have a5_50 : w50.cell? ⟨w.heap.size, 5, none⟩ = some (.slice lo T.length lc) := (by rw [b50.cell (by first | omega | (simp; done) | (simp; omega))]; go_cell)
    have a6_50 : w50.cell? ⟨w.heap.size, 6, none⟩ = some (v3) := (by rw [b50.cell (by first | omega | (simp; done) | (simp; omega))]; go_cell)
    have a7_50 : w50.cell? ⟨w.heap.size, 7, none⟩ = some (v4) := (by rw [b50.cell (by first | omega | (simp; done) | (simp; omega))]; go_cell)
    have al_50 : w.heap.size < w50.heap.size := (by have := b50.size; first | omega | (revert this; simp; done) | (revert this; simp; omega))
    clear a0_1 a1_1 a2_1 a3_1 a4_1 a5_1 a6_1 a7_1 al_1
    clear b50 d50
    by_cases hlt : k < T.length
    · obtain ⟨b, o, rfl, hb, hcc⟩ := HC.out (by omega)
      have hki : (k : Int) < (T.length : Int) := by omega
      obtain ⟨d0, d1, d2, d3, d4, hx, e0, e1, e2, e3, e4⟩ := atK_5n ((hcc k hlt).later hb c50)
      have hcol : ∀ c, colK T k c = [d0, d1, d2, d3, d4].getD c 0 := fun c => by rw [colK, hx]
      have HNO : Hid (¬ IntAt p st T k → intsB p st T = false) := hid (intsB_no hlt)
      have HMORE : Hid (IntAt p st T k → IntsTo p st T (k + 1)) := hid (fun z => hpre.out.more z)
      have HPV := hid (fun q (hq : q + 1 = k) => (show ∃ g0 g1 g2 g3 g4, (colK T q 0 = g0 ∧ colK T q 1 = g1 ∧ colK T q 2 = g2 ∧ colK T q 3 = g3 ∧ colK T q 4 = g4) ∧ (w50.cell? ⟨b, o + q * 5, none⟩ = some (.int .i64 g0) ∧ w50.cell? ⟨b, o + q * 5 + 1, none⟩ = some (.int .i64 g1) ∧ w50.cell? ⟨b, o + q * 5 + 2, none⟩ = some (.int .i64 g2) ∧ w50.cell? ⟨b, o + q * 5 + 3, none⟩ = some (.int .i64 g3) ∧ w50.cell? ⟨b, o + q * 5 + 4, none⟩ = some (.int .i64 g4)) from by
        obtain ⟨t0, t1, t2, t3, t4, ht, z0, z1, z2, z3, z4⟩ := atK_5n ((hcc q (by omega)).later hb c50)
        exact ⟨t0, t1, t2, t3, t4, ⟨by rw [colK, ht]; rfl, by rw [colK, ht]; rfl, by rw [colK, ht]; rfl, by rw [colK, ht]; rfl, by rw [colK, ht]; rfl⟩, ⟨z0, z1, z2, z3, z4⟩⟩))
      have HAT : Hid (IntAt p st T k ↔ (opOk d1 d2 d3 d4 = true ∧ d1 ≠ 1 ∧ partOf (opKey d1 d2 d3 d4) = p ∧ 1 ≤ d0 ∧ d0 ≤ st ∧ (0 < k → colK T (k - 1) 0 < d0))) := hid (by
        unfold IntAt
        simp only [hcol]
        exact Iff.rfl)
      have HLT := hid hlt
      have HB1 := hid hbel.out
      clear hx hcol hlt hpre hbel
      go_upto_region 7 with fail
      generalize hW51 : (w50.alloc (.cells #[.int .i64 d0, .int .i64 d1, .int .i64 d2, .int .i64 d3, .int .i64 d4] 99)) = w51
      have m0_51 : w51.cell? ⟨w50.heap.size, 0, none⟩ = some (.int .i64 d0) := by subst hW51; go_cell
      have m1_51 : w51.cell? ⟨w50.heap.size, 1, none⟩ = some (.int .i64 d1) := by subst hW51; go_cell
      have m2_51 : w51.cell? ⟨w50.heap.size, 2, none⟩ = some (.int .i64 d2) := by subst hW51; go_cell
      have m3_51 : w51.cell? ⟨w50.heap.size, 3, none⟩ = some (.int .i64 d3) := by subst hW51; go_cell
      have m4_51 : w51.cell? ⟨w50.heap.size, 4, none⟩ = some (.int .i64 d4) := by subst hW51; go_cell
      have ml_51 : w50.heap.size < w51.heap.size := by subst hW51; simp
      have d51 : Below w50.heap.size w50 w51 := by subst hW51; go_grown
      clear hW51
      have c51 : Below w.heap.size w w51 := c50.trans (d51.mono c50.size)
      have a0_51 : w51.cell? ⟨w.heap.size, 0, none⟩ = some (.int .i64 p) := (by rw [d51.cell (by first | omega | (simp; done) | (simp; omega))]; go_cell)
      have a1_51 : w51.cell? ⟨w.heap.size, 1, none⟩ = some (.int .i64 f) := (by rw [d51.cell (by first | omega | (simp; done) | (simp; omega))]; go_cell)
      have a2_51 : w51.cell? ⟨w.heap.size, 2, none⟩ = some (.int .i64 st) := (by rw [d51.cell (by first | omega | (simp; done) | (simp; omega))]; go_cell)
      have a3_51 : w51.cell? ⟨w.heap.size, 3, none⟩ = some (v0) := (by rw [d51.cell (by first | omega | (simp; done) | (simp; omega))]; go_cell)
      have a4_51 : w51.cell? ⟨w.heap.size, 4, none⟩ = some (v1) := (by rw [d51.cell (by first | omega | (simp; done) | (simp; omega))]; go_cell)
      have a5_51 : w51.cell? ⟨w.heap.size, 5, none⟩ = some (.slice (some ⟨b, o, none⟩) T.length lc) := (by rw [d51.cell (by first | omega | (simp; done) | (simp; omega))]; go_cell)
      have a6_51 : w51.cell? ⟨w.heap.size, 6, none⟩ = some (v3) := (by rw [d51.cell (by first | omega | (simp; done) | (simp; omega))]; go_cell)
      have a7_51 : w51.cell? ⟨w.heap.size, 7, none⟩ = some (v4) := (by rw [d51.cell (by first | omega | (simp; done) | (simp; omega))]; go_cell)
      have al_51 : w.heap.size < w51.heap.size := (by have := d51.size; omega)
      clear a0_50 a1_50 a2_50 a3_50 a4_50 a5_50 a6_50 a7_50 al_50
      have HD51 := hid d51
      clear e0 e1 e2 e3 e4
      have rd0 := cell_regrown m0_51
      have rd1 := cell_regrown m1_51
      have rd2 := cell_regrown m2_51
      have rd3 := cell_regrown m3_51
      have rd4 := cell_regrown m4_51
      have ra0 := cell_regrown a0_51
      have ra2 := cell_regrown a2_51
      have ra5 := cell_regrown a5_51
      cases hv : opOk d1 d2 d3 d4 with
      | false =>
        have HQ0 := hid hv
        clear hv
        have hno := HNO.out (fun z => by have := (HAT.out.1 z).1; rw [HQ0.out] at this; cases this)
        refine wp_region_quiet_below (by kernel_rfl) (by kernel_rfl) ?_
        repeat (first | go_big_quiet_skip | (go_big_quiet_want; go_big_quiet_op; first | go_big_quiet_on | go_big_quiet_call (first | (go_at_call 71; exact Calls.regrown_of (specOpOk_is HQ0.out _)) | (go_at_call 72; exact Calls.regrown_of (specOpKey_any _ _ _ _ _)) | (go_at_call 20; exact Calls.regrown_of (specShard_b _ _)))))
        refine wpQuiet_nil ?_
        rintro wq ⟨pq, hwq⟩
        have hq : Below w51.heap.size w51 wq := by rw [hwq]; exact below_regrown _ _ _
        clear hwq pq
        have cq := c51.trans (hq.mono c51.size)
        go_wp2
        go_ret
        exact ⟨by first | (simp; done) | simp [hno], cq⟩
      | true =>
        have HQ0 := hid hv
        clear hv
        by_cases h1 : d1 = 1
        case pos =>
          have g1 : (d1 == 1) = true := by simp; omega
          have H1 := hid h1
          clear h1
          have hno := HNO.out (fun z => (HAT.out.1 z).2.1 H1.out)
          refine wp_region_quiet_below (by kernel_rfl) (by kernel_rfl) ?_
          repeat (first | go_big_quiet_skip | (go_big_quiet_want; go_big_quiet_op; first | go_big_quiet_on | go_big_quiet_call (first | (go_at_call 71; exact Calls.regrown_of (specOpOk_is HQ0.out _)) | (go_at_call 72; exact Calls.regrown_of (specOpKey_any _ _ _ _ _)) | (go_at_call 20; exact Calls.regrown_of (specShard_b _ _)))))
          refine wpQuiet_nil ?_
          rintro wq ⟨pq, hwq⟩
          have hq : Below w51.heap.size w51 wq := by rw [hwq]; exact below_regrown _ _ _
          clear hwq pq
          have cq := c51.trans (hq.mono c51.size)
          go_wp2
          go_ret
          exact ⟨by first | (simp; done) | simp [hno], cq⟩
        have g1 : (d1 == 1) = false := by simp; omega
        by_cases h2 : partOf (opKey d1 d2 d3 d4) = p
        case neg =>
          have g2 : (partOf (opKey d1 d2 d3 d4) != p) = true := by simpa using h2
          have hno := HNO.out (fun z => h2 (HAT.out.1 z).2.2.1)
          refine wp_region_quiet_below (by kernel_rfl) (by kernel_rfl) ?_
          repeat (first | go_big_quiet_skip | (go_big_quiet_want; go_big_quiet_op; first | go_big_quiet_on | go_big_quiet_call (first | (go_at_call 71; exact Calls.regrown_of (specOpOk_is HQ0.out _)) | (go_at_call 72; exact Calls.regrown_of (specOpKey_any _ _ _ _ _)) | (go_at_call 20; exact Calls.regrown_of (specShard_b _ _)))))
          refine wpQuiet_nil ?_
          rintro wq ⟨pq, hwq⟩
          have hq : Below w51.heap.size w51 wq := by rw [hwq]; exact below_regrown _ _ _
          clear hwq pq
          have cq := c51.trans (hq.mono c51.size)
          go_wp2
          go_ret
          exact ⟨by first | (simp; done) | simp [hno], cq⟩
        have g2 : (partOf (opKey d1 d2 d3 d4) != p) = false := by simpa using h2
        have H2 := hid h2
        clear h2
        by_cases h3 : d0 < 1
        case pos =>
          have g3 : decide (d0 < 1) = true := by simp; omega
          have hno := HNO.out (fun z => by have := (HAT.out.1 z).2.2.2.1; omega)
          refine wp_region_quiet_below (by kernel_rfl) (by kernel_rfl) ?_
          repeat (first | go_big_quiet_skip | (go_big_quiet_want; go_big_quiet_op; first | go_big_quiet_on | go_big_quiet_call (first | (go_at_call 71; exact Calls.regrown_of (specOpOk_is HQ0.out _)) | (go_at_call 72; exact Calls.regrown_of (specOpKey_any _ _ _ _ _)) | (go_at_call 20; exact Calls.regrown_of (specShard_b _ _)))))
          refine wpQuiet_nil ?_
          rintro wq ⟨pq, hwq⟩
          have hq : Below w51.heap.size w51 wq := by rw [hwq]; exact below_regrown _ _ _
          clear hwq pq
          have cq := c51.trans (hq.mono c51.size)
          go_wp2
          go_ret
          exact ⟨by first | (simp; done) | simp [hno], cq⟩
        have g3 : decide (d0 < 1) = false := by simp; omega
        by_cases h4 : st < d0
        case pos =>
          have g4 : decide (d0 > st) = true := by simp; omega
          have hno := HNO.out (fun z => by have := (HAT.out.1 z).2.2.2.2.1; omega)
          refine wp_region_quiet_below (by kernel_rfl) (by kernel_rfl) ?_
          repeat (first | go_big_quiet_skip | (go_big_quiet_want; go_big_quiet_op; first | go_big_quiet_on | go_big_quiet_call (first | (go_at_call 71; exact Calls.regrown_of (specOpOk_is HQ0.out _)) | (go_at_call 72; exact Calls.regrown_of (specOpKey_any _ _ _ _ _)) | (go_at_call 20; exact Calls.regrown_of (specShard_b _ _)))))
          refine wpQuiet_nil ?_
          rintro wq ⟨pq, hwq⟩
          have hq : Below w51.heap.size w51 wq := by rw [hwq]; exact below_regrown _ _ _
          clear hwq pq
          have cq := c51.trans (hq.mono c51.size)
          go_wp2
          go_ret
          exact ⟨by first | (simp; done) | simp [hno], cq⟩
        have g4 : decide (d0 > st) = false := by simp; omega
        by_cases h5 : 0 < k
        · have g5 : decide ((k : Int) > 0) = true := by simp; omega
          obtain ⟨q, hqk⟩ : ∃ q, q + 1 = k := ⟨k - 1, by omega⟩
          obtain ⟨x0, x1, x2, x3, x4, hcx, hpc⟩ := HPV.out q hqk
          have HPQ : Hid (colK T (k - 1) 0 = x0) := hid (by rw [show k - 1 = q from by omega]; exact hcx.1)
          have rp := cell_regrown ((HD51.out.cell (p := ⟨b, o + q * 5, none⟩) (Nat.lt_of_lt_of_le hb c50.size)).trans hpc.1)
          have hq1 : (k : Int) - 1 = (q : Int) := by omega
          have hqi : (q : Int) < (T.length : Int) := by omega
          clear hpc hqk hcx
          by_cases h6 : d0 ≤ x0
          case pos =>
            have g6 : decide (d0 ≤ x0) = true := by simp; omega
            have hno := HNO.out (fun z => by have := (HAT.out.1 z).2.2.2.2.2 h5; have := HPQ.out; omega)
            refine wp_region_quiet_below (by kernel_rfl) (by kernel_rfl) ?_
            repeat (first | go_big_quiet_skip | (go_big_quiet_want; go_big_quiet_op; first | go_big_quiet_on | go_big_quiet_call (first | (go_at_call 71; exact Calls.regrown_of (specOpOk_is HQ0.out _)) | (go_at_call 72; exact Calls.regrown_of (specOpKey_any _ _ _ _ _)) | (go_at_call 20; exact Calls.regrown_of (specShard_b _ _)))))
            refine wpQuiet_nil ?_
            rintro wq ⟨pq, hwq⟩
            have hq : Below w51.heap.size w51 wq := by rw [hwq]; exact below_regrown _ _ _
            clear hwq pq
            have cq := c51.trans (hq.mono c51.size)
            go_wp2
            go_ret
            exact ⟨by first | (simp; done) | simp [hno], cq⟩
          have g6 : decide (d0 ≤ x0) = false := by simp; omega
          have HM := hid (HMORE.out (HAT.out.2 ⟨HQ0.out, h1, H2.out, by omega, by omega, fun _ => by have := HPQ.out; omega⟩))
          refine wp_region_quiet_below (by kernel_rfl) (by kernel_rfl) ?_
          repeat (first | go_big_quiet_skip | (go_big_quiet_want; go_big_quiet_op; first | go_big_quiet_on | go_big_quiet_call (first | (go_at_call 71; exact Calls.regrown_of (specOpOk_is HQ0.out _)) | (go_at_call 72; exact Calls.regrown_of (specOpKey_any _ _ _ _ _)) | (go_at_call 20; exact Calls.regrown_of (specShard_b _ _)))))
          refine wpQuiet_nil ?_
          rintro wq ⟨pq, hwq⟩
          have hq : Below w51.heap.size w51 wq := by rw [hwq]; exact below_regrown _ _ _
          clear hwq pq
          have HQ := hid (HB1.out.trans ((HD51.out.trans (hq.mono HD51.out.size)).mono HB1.out.size))
          go_wp2_with fail
          go_roundw
          case rel => exact ⟨k + 1, by have := HLT.out; omega, by go_num, HM, HQ⟩
          case measure =>
            have := HLT.out
            simp [intOf]
            omega
        · have g5 : decide ((k : Int) > 0) = false := by simp; omega
          have HM := hid (HMORE.out (HAT.out.2 ⟨HQ0.out, h1, H2.out, by omega, by omega, fun z => absurd z h5⟩))
          refine wp_region_quiet_below (by kernel_rfl) (by kernel_rfl) ?_
          repeat (first | go_big_quiet_skip | (go_big_quiet_want; go_big_quiet_op; first | go_big_quiet_on | go_big_quiet_call (first | (go_at_call 71; exact Calls.regrown_of (specOpOk_is HQ0.out _)) | (go_at_call 72; exact Calls.regrown_of (specOpKey_any _ _ _ _ _)) | (go_at_call 20; exact Calls.regrown_of (specShard_b _ _)))))
          refine wpQuiet_nil ?_
          rintro wq ⟨pq, hwq⟩
          have hq : Below w51.heap.size w51 wq := by rw [hwq]; exact below_regrown _ _ _
          clear hwq pq
          have HQ := hid (HB1.out.trans ((HD51.out.trans (hq.mono HD51.out.size)).mono HB1.out.size))
          go_wp2_with fail
          go_roundw
          case rel => exact ⟨k + 1, by have := HLT.out; omega, by go_num, HM, HQ⟩
          case measure =>
            have := HLT.out
            simp [intOf]
            omega
    · obtain rfl : k = T.length := by omega
      have hki : ¬ ((T.length : Int) < (T.length : Int)) := by omega
      have hyes : intsB p st T = true := decide_eq_true ⟨HT3.out, hpre.out⟩
      go_wp2
      go_ret
      exact ⟨by first | (simp; done) | simp [hyes], c50⟩
end Go.Proofs.YtefhpbcdjgllnaaGreat
