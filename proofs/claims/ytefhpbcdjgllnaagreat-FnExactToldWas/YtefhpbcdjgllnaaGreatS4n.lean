/- impl.donesRight, intentsRight, seenRight: contracts. Written by a program (gsn.py). -/
import Derived.Test.YtefhpbcdjgllnaaGreatS4m
import Derived.Test.YtefhpbcdjgllnaaGreatMq
import Derived.Test.YtefhpbcdjgllnaaGreatKw
import Derived.Test.YtefhpbcdjgllnaaGreatKm
import Derived.Test.YtefhpbcdjgllnaaGreatPb
namespace Go.Proofs.YtefhpbcdjgllnaaGreat
open Go.RowKit
attribute [local go_sem ↓] Go.wp_at_zero Go.wp_at_succ

theorem donesB_is {p : Int} {R D : List KD} (h : ∀ i, i < D.length → reqR (colK D i 0) (colK D i 1) (colK D i 2) = true ∧ partOf (colK D i 3) = p ∧ doneR (colK D i 4) (colK D i 5) (verAt R (colK D i 3)) = true) : donesB p R D = ascB (ltD D) D.length := by
  rw [Bool.eq_iff_iff]
  simp only [donesB, ascB, decide_eq_true_iff]
  simp only [reqR, doneR, decide_eq_true_eq] at h
  constructor
  · intro q i hi h0
    have := (q i hi).2.2.2.2.2.2.2.2.2 h0
    simp only [ltD, decide_eq_true_eq]
    exact this
  · intro q i hi
    obtain ⟨⟨a, b, c, d⟩, e, ⟨f, g, h1, h2⟩⟩ := h i hi
    refine ⟨a, b, c, d, e, f, h1, h2, fun z => by have := g z.2; omega, fun h0 => ?_⟩
    have := q i hi h0
    simpa only [ltD, decide_eq_true_eq] using this
theorem doneAt_of {p : Int} {R D : List KD} {i : Nat} (h : DoneAt p R D i) : reqR (colK D i 0) (colK D i 1) (colK D i 2) = true ∧ partOf (colK D i 3) = p ∧ doneR (colK D i 4) (colK D i 5) (verAt R (colK D i 3)) = true := by
  obtain ⟨a, b, c, d, e, f, g, h1, h2, _⟩ := h
  simp only [reqR, doneR, decide_eq_true_eq]
  exact ⟨⟨a, b, c, d⟩, e, f, fun z => by omega, g, h1⟩
theorem opOk_of_part {k a b n p : Int} (hp : 0 ≤ p) (h : partOf (opKey k a b n) = p) : opOk k a b n = true := by
  rcases op_ways k a b n with ⟨_, e, _, _⟩ | ⟨_, e, _, _⟩ | ⟨_, e, _, _⟩ | ⟨_, _, _, _, e, _⟩
  · exact e
  · exact e
  · exact e
  · rw [e] at h
    simp [partOf] at h
    omega
theorem intsB_is {p st : Int} {T : List KD} (hp : 0 ≤ p) (h : ∀ i, i < T.length → colK T i 1 ≠ 1 ∧ partOf (opKey (colK T i 1) (colK T i 2) (colK T i 3) (colK T i 4)) = p ∧ 1 ≤ colK T i 0 ∧ colK T i 0 ≤ st) : intsB p st T = (decide (T.length ≤ 3) && ascB (ltD T) T.length) := by
  rw [Bool.eq_iff_iff, Bool.and_eq_true]
  simp only [intsB, ascB, decide_eq_true_iff]
  constructor
  · intro q
    refine ⟨q.1, fun i hi h0 => ?_⟩
    have := (q.2 i hi).2.2.2.2.2 h0
    simp only [ltD, decide_eq_true_eq]
    exact this
  · intro q
    refine ⟨q.1, fun i hi => ?_⟩
    obtain ⟨a, b, c, d⟩ := h i hi
    refine ⟨opOk_of_part hp b, a, b, c, d, fun h0 => ?_⟩
    have := q.2 i hi h0
    simpa only [ltD, decide_eq_true_eq] using this
theorem seenB_is {p : Int} {S : List KD} (h : ∀ i, i < S.length → (0 ≤ colK S i 0 ∧ colK S i 0 < 8) ∧ (0 ≤ colK S i 1 ∧ colK S i 1 < 8) ∧ colK S i 1 % 2 = p ∧ 1 ≤ colK S i 2) : seenB p S = ascB (ltS S) S.length := by
  rw [Bool.eq_iff_iff]
  simp only [seenB, ascB, decide_eq_true_iff]
  have hh : ∀ i, i < S.length → 0 < i → (pairK S (i - 1) < pairK S i ↔ ltS S (i - 1) i = true) := fun i hi h0 => by
    have h1 := h i hi
    have h2 := h (i - 1) (by omega)
    simp only [ltS, pairK, decide_eq_true_eq]
    omega
  constructor
  · intro q i hi h0
    exact (hh i hi h0).1 ((q i hi).2.2.2.2.2.2 h0)
  · intro q i hi
    obtain ⟨a, b, c, d⟩ := h i hi
    exact ⟨a.1, a.2, b.1, b.2, c, d, fun h0 => (hh i hi h0).2 (q i hi h0)⟩
theorem seen_key {x : Int} : keyIn (keyOf 2 x) = true ↔ 0 ≤ x ∧ x < 8 := by
  by_cases h : 0 ≤ x ∧ x < 8
  · rw [keyOf_in (by omega) (by omega) h.1 h.2]
    simp only [keyIn, decide_eq_true_eq]
    omega
  · rw [keyOf_out (by omega)]
    simp only [keyIn, decide_eq_true_eq]
    omega
theorem seen_part {x p : Int} (hp : 0 ≤ p) : partOf (keyOf 1 x) = p ↔ (0 ≤ x ∧ x < 8) ∧ x % 2 = p := by
  by_cases h : 0 ≤ x ∧ x < 8
  · rw [keyOf_in (by omega) (by omega) h.1 h.2]
    unfold partOf
    rw [if_pos (by omega)]
    omega
  · rw [keyOf_out (by omega)]
    simp [partOf]
    omega
theorem reqR_is {a b c : Int} {r : Bool} (h : reqR a b c = r) (w : World) : Calls Tryz.prog 85 #[.agg #[.int .i64 a, .int .i64 b, .int .i64 c]] w fun e w' => e = .returned (.bool r) ∧ Below w.heap.size w w' := h ▸ reqRight_any a b c w
theorem doneR_is {d0 d1 d2 d3 d4 d5 ver : Int} {r : Bool} (h : doneR d4 d5 ver = r) (w : World) : Calls Tryz.prog 86 #[.agg #[.int .i64 d0, .int .i64 d1, .int .i64 d2, .int .i64 d3, .int .i64 d4, .int .i64 d5], .int .i64 ver] w fun e w' => e = .returned (.bool r) ∧ Below w.heap.size w w' := h ▸ doneRight_any d0 d1 d2 d3 d4 d5 ver w
theorem keyRight_b {k : Int} {r : Bool} (h : keyIn k = r) (w : World) : Calls Tryz.prog 61 #[.int .i64 k] w fun e w' => e = .returned (.bool r) ∧ Below w.heap.size w w' := (keyRight_any k w).mono fun _ _ q => ⟨by rw [q.1, h], by rw [q.2]; exact Below.refl _ _⟩
theorem implShard_b (k : Int) (w : World) : Calls Tryz.prog 30 #[.int .i64 k] w fun e w' => e = .returned (.int .i64 (partOf k)) ∧ Below w.heap.size w w' := (implShard_any k w).mono fun _ _ h => ⟨h.1, by rw [h.2]; exact Below.refl _ _⟩
theorem implMake_b (a b : Int) (w : World) : Calls Tryz.prog 92 #[.int .i64 a, .int .i64 b] w fun e w' => e = .returned (.int .i64 (keyOf a b)) ∧ Below w.heap.size w w' := (implMake_any a b w).mono fun _ _ h => ⟨h.1, by rw [h.2]; exact Below.refl _ _⟩
set_option maxRecDepth 100000 in
set_option maxHeartbeats 8000000 in
theorem donesRight_any (p f st : Int) (v0 v1 v2 v3 v4 : Value) (R D : List KD) (w : World) (hR : RdM 3 2 true w v0 R) (hL : RdM 6 6 false w v1 D) (h24 : R.length = 24) (hp : 0 ≤ p) :
    Calls Tryz.prog 56 #[.agg #[.int .i64 p, .int .i64 f, .int .i64 st, v0, v1, v2, v3, v4]] w fun e w' => e = .returned (.bool (donesB p R D)) ∧ Below w.heap.size w w' := by
  obtain ⟨ar, cr, rfl, hlr, hcr⟩ := hR
  obtain ⟨br, or', rfl, hbr, hccr⟩ := hcr (by omega)
  rw [h24] at hccr ⊢
  clear hlr h24 hcr
  have HCR := hid hccr
  have HBR := hid hbr
  clear hccr hbr
  have HLL := hid hL
  obtain ⟨lo, lc, rfl, hml, hcl⟩ := hL
  have HC := hid hcl
  clear hcl
  unfold maxLen at hml
  go_enter Tryz.func56, Tryz.ntmps56
  go_wp2_with fail
  generalize hW1 : (w.alloc (.cells #[.int .i64 p, .int .i64 f, .int .i64 st, .slice (some ⟨br, or', none⟩) 24 cr, .slice lo D.length lc, v2, v3, v4] 43)) = w1
  have a0_1 : w1.cell? ⟨w.heap.size, 0, none⟩ = some (.int .i64 p) := by subst hW1; go_cell
  have a1_1 : w1.cell? ⟨w.heap.size, 1, none⟩ = some (.int .i64 f) := by subst hW1; go_cell
  have a2_1 : w1.cell? ⟨w.heap.size, 2, none⟩ = some (.int .i64 st) := by subst hW1; go_cell
  have a3_1 : w1.cell? ⟨w.heap.size, 3, none⟩ = some (.slice (some ⟨br, or', none⟩) 24 cr) := by subst hW1; go_cell
  have a4_1 : w1.cell? ⟨w.heap.size, 4, none⟩ = some (.slice lo D.length lc) := by subst hW1; go_cell
  have a5_1 : w1.cell? ⟨w.heap.size, 5, none⟩ = some (v2) := by subst hW1; go_cell
  have a6_1 : w1.cell? ⟨w.heap.size, 6, none⟩ = some (v3) := by subst hW1; go_cell
  have a7_1 : w1.cell? ⟨w.heap.size, 7, none⟩ = some (v4) := by subst hW1; go_cell
  have al_1 : w.heap.size < w1.heap.size := by subst hW1; first | (simp; done) | (simp; omega)
  have c1 : Below w.heap.size w w1 := by subst hW1; go_grown
  have s1 : w1.heap.size = w.heap.size + 1 := by subst hW1; simp
  clear hW1
  have qa0_1 := cell_regrown a0_1
  have qa1_1 := cell_regrown a1_1
  have qa2_1 := cell_regrown a2_1
  have qa3_1 := cell_regrown a3_1
  have qa4_1 := cell_regrown a4_1
  have qa5_1 := cell_regrown a5_1
  have qa6_1 := cell_regrown a6_1
  have qa7_1 := cell_regrown a7_1
  clear qa0_1 qa1_1 qa2_1 qa3_1 qa4_1 qa5_1 qa6_1 qa7_1
  go_loopw [8] (fun i wr => ∃ k : Nat, k ≤ D.length ∧ i = .int .i64 k ∧ Hid (∀ i, i < k → reqR (colK D i 0) (colK D i 1) (colK D i 2) = true ∧ partOf (colK D i 3) = p ∧ doneR (colK D i 4) (colK D i 5) (verAt R (colK D i 3)) = true) ∧ Hid (Below w1.heap.size w1 wr)) (fun i _ => D.length - (intOf i).toNat)
  case atStart => exact ⟨0, Nat.zero_le _, rfl, hid (fun j hj => absurd hj (Nat.not_lt_zero j)), hid (Below.refl _ _)⟩
  case round =>
    obtain ⟨k, hk, rfl, hpre, hbel⟩ := hrel
    obtain ⟨w50, hw50⟩ : ∃ y, y = wr := ⟨_, rfl⟩
    subst hw50
    have b50 := hbel.out
    have d50 : Below w1.heap.size w1 w50 := (Below.trans (by go_grown) (b50.mono (by first | omega | (simp; done) | (simp; omega))))
    have c50 : Below w.heap.size w w50 := c1.trans (d50.mono c1.size)
    have a0_50 : w50.cell? ⟨w.heap.size, 0, none⟩ = some (.int .i64 p) := (by rw [b50.cell (by first | omega | (simp; done) | (simp; omega))]; go_cell)
    have a1_50 : w50.cell? ⟨w.heap.size, 1, none⟩ = some (.int .i64 f) := (by rw [b50.cell (by first | omega | (simp; done) | (simp; omega))]; go_cell)
    have a2_50 : w50.cell? ⟨w.heap.size, 2, none⟩ = some (.int .i64 st) := (by rw [b50.cell (by first | omega | (simp; done) | (simp; omega))]; go_cell)
    have a3_50 : w50.cell? ⟨w.heap.size, 3, none⟩ = some (.slice (some ⟨br, or', none⟩) 24 cr) := (by rw [b50.cell (by first | omega | (simp; done) | (simp; omega))]; go_cell)
    have a4_50 : w50.cell? ⟨w.heap.size, 4, none⟩ = some (.slice lo D.length lc) := (by rw [b50.cell (by first | omega | (simp; done) | (simp; omega))]; go_cell)
    have a5_50 : w50.cell? ⟨w.heap.size, 5, none⟩ = some (v2) := (by rw [b50.cell (by first | omega | (simp; done) | (simp; omega))]; go_cell)
    have a6_50 : w50.cell? ⟨w.heap.size, 6, none⟩ = some (v3) := (by rw [b50.cell (by first | omega | (simp; done) | (simp; omega))]; go_cell)
    have a7_50 : w50.cell? ⟨w.heap.size, 7, none⟩ = some (v4) := (by rw [b50.cell (by first | omega | (simp; done) | (simp; omega))]; go_cell)
    have al_50 : w.heap.size < w50.heap.size := (by have := b50.size; first | omega | (revert this; simp; done) | (revert this; simp; omega))
    clear a0_1 a1_1 a2_1 a3_1 a4_1 a5_1 a6_1 a7_1 al_1
    clear b50 d50
    by_cases hlt : k < D.length
    · obtain ⟨b, o, rfl, hb, hcc⟩ := HC.out (by omega)
      obtain ⟨d0, d1, d2, d3, d4, d5, hx, e0, e1, e2, e3, e4, e5⟩ := atK_6n ((hcc k hlt).later hb c50)
      have hki : (k : Int) < (D.length : Int) := by omega
      have hcol : ∀ c, colK D k c = [d0, d1, d2, d3, d4, d5].getD c 0 := fun c => by rw [colK, hx]
      have HPRE := hid hpre.out
      have HLT := hid hlt
      have HB1 := hid hbel.out
      have HRW := hid (fun j (hj : j < 24) => (show ∃ d, colK R j 0 = d ∧ w50.cell? ⟨br, or' + j * 3, none⟩ = some (.int .i64 d) from by
        obtain ⟨t0, t1, tl, tu, ht, z0, _⟩ := atK_2k ((HCR.out j hj).later HBR.out c50)
        exact ⟨t0, by rw [colK, ht]; rfl, z0⟩))
      have HMORE : Hid ((reqR d0 (d1) (d2) = true ∧ partOf (d3) = p ∧ doneR (d4) (d5) (verAt R (d3)) = true) → ∀ i, i < k + 1 → reqR (colK D i 0) (colK D i 1) (colK D i 2) = true ∧ partOf (colK D i 3) = p ∧ doneR (colK D i 4) (colK D i 5) (verAt R (colK D i 3)) = true) := hid (fun z i hi => by
        by_cases e : i = k
        · subst e
          simp only [hcol]
          exact z
        · exact HPRE.out i (by omega))
      have HNO : Hid (¬ (reqR d0 (d1) (d2) = true ∧ partOf (d3) = p ∧ doneR (d4) (d5) (verAt R (d3)) = true) → donesB p R D = false) := hid (fun z => donesB_no HLT.out (fun q => z (by have := doneAt_of q; simp only [hcol] at this; exact this)))
      clear hx hcc hlt hpre hbel hcol
      go_wp2_with fail
      generalize hW51 : (w50.alloc (.cells #[.int .i64 d0, .int .i64 d1, .int .i64 d2, .int .i64 d3, .int .i64 d4, .int .i64 d5] 91)) = w51
      have m0_51 : w51.cell? ⟨w50.heap.size, 0, none⟩ = some (.int .i64 d0) := by subst hW51; go_cell
      have m1_51 : w51.cell? ⟨w50.heap.size, 1, none⟩ = some (.int .i64 d1) := by subst hW51; go_cell
      have m2_51 : w51.cell? ⟨w50.heap.size, 2, none⟩ = some (.int .i64 d2) := by subst hW51; go_cell
      have m3_51 : w51.cell? ⟨w50.heap.size, 3, none⟩ = some (.int .i64 d3) := by subst hW51; go_cell
      have m4_51 : w51.cell? ⟨w50.heap.size, 4, none⟩ = some (.int .i64 d4) := by subst hW51; go_cell
      have m5_51 : w51.cell? ⟨w50.heap.size, 5, none⟩ = some (.int .i64 d5) := by subst hW51; go_cell
      have ml_51 : w50.heap.size < w51.heap.size := by subst hW51; simp
      have d51 : Below w50.heap.size w50 w51 := by subst hW51; go_grown
      clear hW51
      have c51 : Below w.heap.size w w51 := c50.trans (d51.mono c50.size)
      have a0_51 : w51.cell? ⟨w.heap.size, 0, none⟩ = some (.int .i64 p) := (by rw [d51.cell (by first | omega | (simp; done) | (simp; omega))]; go_cell)
      have a1_51 : w51.cell? ⟨w.heap.size, 1, none⟩ = some (.int .i64 f) := (by rw [d51.cell (by first | omega | (simp; done) | (simp; omega))]; go_cell)
      have a2_51 : w51.cell? ⟨w.heap.size, 2, none⟩ = some (.int .i64 st) := (by rw [d51.cell (by first | omega | (simp; done) | (simp; omega))]; go_cell)
      have a3_51 : w51.cell? ⟨w.heap.size, 3, none⟩ = some (.slice (some ⟨br, or', none⟩) 24 cr) := (by rw [d51.cell (by first | omega | (simp; done) | (simp; omega))]; go_cell)
      have a4_51 : w51.cell? ⟨w.heap.size, 4, none⟩ = some (.slice (some ⟨b, o, none⟩) D.length lc) := (by rw [d51.cell (by first | omega | (simp; done) | (simp; omega))]; go_cell)
      have a5_51 : w51.cell? ⟨w.heap.size, 5, none⟩ = some (v2) := (by rw [d51.cell (by first | omega | (simp; done) | (simp; omega))]; go_cell)
      have a6_51 : w51.cell? ⟨w.heap.size, 6, none⟩ = some (v3) := (by rw [d51.cell (by first | omega | (simp; done) | (simp; omega))]; go_cell)
      have a7_51 : w51.cell? ⟨w.heap.size, 7, none⟩ = some (v4) := (by rw [d51.cell (by first | omega | (simp; done) | (simp; omega))]; go_cell)
      have al_51 : w.heap.size < w51.heap.size := (by have := d51.size; omega)
      clear a0_50 a1_50 a2_50 a3_50 a4_50 a5_50 a6_50 a7_50 al_50
      have HD51 := hid d51
      clear e0 e1 e2 e3 e4 e5
      have rd0 := cell_regrown m0_51
      have rd1 := cell_regrown m1_51
      have rd2 := cell_regrown m2_51
      have rd3 := cell_regrown m3_51
      have rd4 := cell_regrown m4_51
      have rd5 := cell_regrown m5_51
      have ra0 := cell_regrown a0_51
      have ra3 := cell_regrown a3_51
      cases hr : reqR d0 d1 d2 with
      | false =>
        have HQ0 := hid hr
        have HQ2 : Hid (doneR d4 d5 0 = doneR d4 d5 0) := hid rfl
        have hno := HNO.out (fun z => by rw [HQ0.out] at z; cases z.1)
        refine wp_region_quiet_below (by kernel_rfl) (by kernel_rfl) ?_
        repeat (first | go_big_quiet_skip | (go_big_quiet_want; go_big_quiet_op; first | go_big_quiet_on | go_big_quiet_call (first | (go_at_call 85; exact Calls.regrown_of (reqR_is HQ0.out _)) | (go_at_call 30; exact Calls.regrown_of (implShard_b _ _)) | (go_at_call 86; exact Calls.regrown_of (doneR_is HQ2.out _)))))
        refine wpQuiet_nil ?_
        rintro wq ⟨pq, hwq⟩
        have hq : Below w51.heap.size w51 wq := by rw [hwq]; exact below_regrown _ _ _
        clear hwq pq
        have cq := c51.trans (hq.mono c51.size)
        go_wp2
        go_ret
        exact ⟨by first | (simp; done) | simp [hno], cq⟩
      | true =>
        have HQ0 := hid hr
        clear hr
        by_cases h1 : partOf d3 = p
        case neg =>
          have g1 : (partOf d3 != p) = true := by simpa using h1
          have HQ2 : Hid (doneR d4 d5 0 = doneR d4 d5 0) := hid rfl
          have hno := HNO.out (fun z => h1 z.2.1)
          refine wp_region_quiet_below (by kernel_rfl) (by kernel_rfl) ?_
          repeat (first | go_big_quiet_skip | (go_big_quiet_want; go_big_quiet_op; first | go_big_quiet_on | go_big_quiet_call (first | (go_at_call 85; exact Calls.regrown_of (reqR_is HQ0.out _)) | (go_at_call 30; exact Calls.regrown_of (implShard_b _ _)) | (go_at_call 86; exact Calls.regrown_of (doneR_is HQ2.out _)))))
          refine wpQuiet_nil ?_
          rintro wq ⟨pq, hwq⟩
          have hq : Below w51.heap.size w51 wq := by rw [hwq]; exact below_regrown _ _ _
          clear hwq pq
          have cq := c51.trans (hq.mono c51.size)
          go_wp2
          go_ret
          exact ⟨by first | (simp; done) | simp [hno], cq⟩
        have g1 : (partOf d3 != p) = false := by simpa using h1
        have hpk := partOf_key h1 hp
        obtain ⟨j, rfl⟩ := Int.eq_ofNat_of_zero_le hpk.1
        have hj24 : j < 24 := by omega
        obtain ⟨ver, hver, hvc⟩ := HRW.out j hj24
        have HVR : Hid (verAt R (j : Int) = ver) := hid (by unfold verAt; simpa using hver)
        have hvc1 := (HD51.out.cell (p := ⟨br, or' + j * 3, none⟩) (Nat.lt_of_lt_of_le HBR.out c50.size)).trans hvc
        have rv := cell_regrown hvc1
        have hji : (j : Int) < 24 := by omega
        clear hver hvc hpk
        cases hd : doneR d4 d5 ver with
        | false =>
          have HQ2 := hid hd
          clear hd
          have hno := HNO.out (fun z => by have := z.2.2; rw [HVR.out, HQ2.out] at this; cases this)
          refine wp_region_quiet_below (by kernel_rfl) (by kernel_rfl) ?_
          repeat (first | go_big_quiet_skip | (go_big_quiet_want; go_big_quiet_op; first | go_big_quiet_on | go_big_quiet_call (first | (go_at_call 85; exact Calls.regrown_of (reqR_is HQ0.out _)) | (go_at_call 30; exact Calls.regrown_of (implShard_b _ _)) | (go_at_call 86; exact Calls.regrown_of (doneR_is HQ2.out _)))))
          refine wpQuiet_nil ?_
          rintro wq ⟨pq, hwq⟩
          have hq : Below w51.heap.size w51 wq := by rw [hwq]; exact below_regrown _ _ _
          clear hwq pq
          have cq := c51.trans (hq.mono c51.size)
          go_wp2
          go_ret
          exact ⟨by first | (simp; done) | simp [hno], cq⟩
        | true =>
          have HQ2 := hid hd
          clear hd
          have HM := hid (HMORE.out (⟨HQ0.out, h1, by rw [HVR.out]; exact HQ2.out⟩))
          refine wp_region_quiet_below (by kernel_rfl) (by kernel_rfl) ?_
          repeat (first | go_big_quiet_skip | (go_big_quiet_want; go_big_quiet_op; first | go_big_quiet_on | go_big_quiet_call (first | (go_at_call 85; exact Calls.regrown_of (reqR_is HQ0.out _)) | (go_at_call 30; exact Calls.regrown_of (implShard_b _ _)) | (go_at_call 86; exact Calls.regrown_of (doneR_is HQ2.out _)))))
          refine wpQuiet_nil ?_
          rintro wq ⟨pq, hwq⟩
          have hq : Below w51.heap.size w51 wq := by rw [hwq]; exact below_regrown _ _ _
          clear hwq pq
          have HQ := hid (HB1.out.trans ((HD51.out.trans (hq.mono HD51.out.size)).mono HB1.out.size))
          go_wp2_with fail
          go_roundw
          case rel => exact ⟨k + 1, by have := HLT.out; omega, by go_num, HM, HQ⟩
          case measure =>
            have := HLT.out
            simp [intOf]
            omega
    · obtain rfl : k = D.length := by omega
      have hki : ¬ ((D.length : Int) < (D.length : Int)) := by omega
      have HPRE := hid hpre.out
      clear hpre hbel hlt
      have HIS := hid (donesB_is (R := R) HPRE.out)
      go_wp2_with fail
      refine (ascDone_any _ D _ (HLL.out.later c50)).mono ?_
      rintro e w60 ⟨rfl, b60⟩
      have cq := c50.trans (b60.mono c50.size)
      go_wp2
      go_ret
      exact ⟨by simp [HIS.out], cq⟩
set_option maxRecDepth 100000 in
set_option maxHeartbeats 8000000 in
theorem intentsRight_any (p f st : Int) (v0 v1 v2 v3 v4 : Value) (T : List KD) (w : World) (hL : RdM 5 5 false w v2 T) (hp : 0 ≤ p) :
    Calls Tryz.prog 57 #[.agg #[.int .i64 p, .int .i64 f, .int .i64 st, v0, v1, v2, v3, v4]] w fun e w' => e = .returned (.bool (intsB p st T)) ∧ Below w.heap.size w w' := by

  have HLL := hid hL
  obtain ⟨lo, lc, rfl, hml, hcl⟩ := hL
  have HC := hid hcl
  clear hcl
  unfold maxLen at hml
  go_enter Tryz.func57, Tryz.ntmps57
  go_wp2_with fail
  generalize hW1 : (w.alloc (.cells #[.int .i64 p, .int .i64 f, .int .i64 st, v0, v1, .slice lo T.length lc, v3, v4] 43)) = w1
  have a0_1 : w1.cell? ⟨w.heap.size, 0, none⟩ = some (.int .i64 p) := by subst hW1; go_cell
  have a1_1 : w1.cell? ⟨w.heap.size, 1, none⟩ = some (.int .i64 f) := by subst hW1; go_cell
  have a2_1 : w1.cell? ⟨w.heap.size, 2, none⟩ = some (.int .i64 st) := by subst hW1; go_cell
  have a3_1 : w1.cell? ⟨w.heap.size, 3, none⟩ = some (v0) := by subst hW1; go_cell
  have a4_1 : w1.cell? ⟨w.heap.size, 4, none⟩ = some (v1) := by subst hW1; go_cell
  have a5_1 : w1.cell? ⟨w.heap.size, 5, none⟩ = some (.slice lo T.length lc) := by subst hW1; go_cell
  have a6_1 : w1.cell? ⟨w.heap.size, 6, none⟩ = some (v3) := by subst hW1; go_cell
  have a7_1 : w1.cell? ⟨w.heap.size, 7, none⟩ = some (v4) := by subst hW1; go_cell
  have al_1 : w.heap.size < w1.heap.size := by subst hW1; first | (simp; done) | (simp; omega)
  have c1 : Below w.heap.size w w1 := by subst hW1; go_grown
  have s1 : w1.heap.size = w.heap.size + 1 := by subst hW1; simp
  clear hW1
  have qa0_1 := cell_regrown a0_1
  have qa1_1 := cell_regrown a1_1
  have qa2_1 := cell_regrown a2_1
  have qa3_1 := cell_regrown a3_1
  have qa4_1 := cell_regrown a4_1
  have qa5_1 := cell_regrown a5_1
  have qa6_1 := cell_regrown a6_1
  have qa7_1 := cell_regrown a7_1
  clear qa0_1 qa1_1 qa2_1 qa3_1 qa4_1 qa5_1 qa6_1 qa7_1
  go_loopw [8] (fun i wr => ∃ k : Nat, k ≤ T.length ∧ i = .int .i64 k ∧ Hid (∀ i, i < k → colK T i 1 ≠ 1 ∧ partOf (opKey (colK T i 1) (colK T i 2) (colK T i 3) (colK T i 4)) = p ∧ 1 ≤ colK T i 0 ∧ colK T i 0 ≤ st) ∧ Hid (Below w1.heap.size w1 wr)) (fun i _ => T.length - (intOf i).toNat)
  case atStart => exact ⟨0, Nat.zero_le _, rfl, hid (fun j hj => absurd hj (Nat.not_lt_zero j)), hid (Below.refl _ _)⟩
  case round =>
    obtain ⟨k, hk, rfl, hpre, hbel⟩ := hrel
    obtain ⟨w50, hw50⟩ : ∃ y, y = wr := ⟨_, rfl⟩
    subst hw50
    have b50 := hbel.out
    have d50 : Below w1.heap.size w1 w50 := (Below.trans (by go_grown) (b50.mono (by first | omega | (simp; done) | (simp; omega))))
    have c50 : Below w.heap.size w w50 := c1.trans (d50.mono c1.size)
    have a0_50 : w50.cell? ⟨w.heap.size, 0, none⟩ = some (.int .i64 p) := (by rw [b50.cell (by first | omega | (simp; done) | (simp; omega))]; go_cell)
    have a1_50 : w50.cell? ⟨w.heap.size, 1, none⟩ = some (.int .i64 f) := (by rw [b50.cell (by first | omega | (simp; done) | (simp; omega))]; go_cell)
    have a2_50 : w50.cell? ⟨w.heap.size, 2, none⟩ = some (.int .i64 st) := (by rw [b50.cell (by first | omega | (simp; done) | (simp; omega))]; go_cell)
    have a3_50 : w50.cell? ⟨w.heap.size, 3, none⟩ = some (v0) := (by rw [b50.cell (by first | omega | (simp; done) | (simp; omega))]; go_cell)
    have a4_50 : w50.cell? ⟨w.heap.size, 4, none⟩ = some (v1) := (by rw [b50.cell (by first | omega | (simp; done) | (simp; omega))]; go_cell)
    have a5_50 : w50.cell? ⟨w.heap.size, 5, none⟩ = some (.slice lo T.length lc) := (by rw [b50.cell (by first | omega | (simp; done) | (simp; omega))]; go_cell)
    have a6_50 : w50.cell? ⟨w.heap.size, 6, none⟩ = some (v3) := (by rw [b50.cell (by first | omega | (simp; done) | (simp; omega))]; go_cell)
    have a7_50 : w50.cell? ⟨w.heap.size, 7, none⟩ = some (v4) := (by rw [b50.cell (by first | omega | (simp; done) | (simp; omega))]; go_cell)
    have al_50 : w.heap.size < w50.heap.size := (by have := b50.size; first | omega | (revert this; simp; done) | (revert this; simp; omega))
    clear a0_1 a1_1 a2_1 a3_1 a4_1 a5_1 a6_1 a7_1 al_1
    clear b50 d50
    by_cases hlt : k < T.length
    · obtain ⟨b, o, rfl, hb, hcc⟩ := HC.out (by omega)
      obtain ⟨d0, d1, d2, d3, d4, hx, e0, e1, e2, e3, e4⟩ := atK_5n ((hcc k hlt).later hb c50)
      have hki : (k : Int) < (T.length : Int) := by omega
      have hcol : ∀ c, colK T k c = [d0, d1, d2, d3, d4].getD c 0 := fun c => by rw [colK, hx]
      have HPRE := hid hpre.out
      have HLT := hid hlt
      have HB1 := hid hbel.out

      have HMORE : Hid ((d1 ≠ 1 ∧ partOf (opKey (d1) (d2) (d3) (d4)) = p ∧ 1 ≤ d0 ∧ d0 ≤ st) → ∀ i, i < k + 1 → colK T i 1 ≠ 1 ∧ partOf (opKey (colK T i 1) (colK T i 2) (colK T i 3) (colK T i 4)) = p ∧ 1 ≤ colK T i 0 ∧ colK T i 0 ≤ st) := hid (fun z i hi => by
        by_cases e : i = k
        · subst e
          simp only [hcol]
          exact z
        · exact HPRE.out i (by omega))
      have HNO : Hid (¬ (d1 ≠ 1 ∧ partOf (opKey (d1) (d2) (d3) (d4)) = p ∧ 1 ≤ d0 ∧ d0 ≤ st) → intsB p st T = false) := hid (fun z => intsB_no HLT.out (fun q => z (by have := q; unfold IntAt at this; simp only [hcol] at this; exact ⟨this.2.1, this.2.2.1, this.2.2.2.1, this.2.2.2.2.1⟩)))
      clear hx hcc hlt hpre hbel hcol
      go_wp2_with fail
      generalize hW51 : (w50.alloc (.cells #[.int .i64 d0, .int .i64 d1, .int .i64 d2, .int .i64 d3, .int .i64 d4] 99)) = w51
      have m0_51 : w51.cell? ⟨w50.heap.size, 0, none⟩ = some (.int .i64 d0) := by subst hW51; go_cell
      have m1_51 : w51.cell? ⟨w50.heap.size, 1, none⟩ = some (.int .i64 d1) := by subst hW51; go_cell
      have m2_51 : w51.cell? ⟨w50.heap.size, 2, none⟩ = some (.int .i64 d2) := by subst hW51; go_cell
      have m3_51 : w51.cell? ⟨w50.heap.size, 3, none⟩ = some (.int .i64 d3) := by subst hW51; go_cell
      have m4_51 : w51.cell? ⟨w50.heap.size, 4, none⟩ = some (.int .i64 d4) := by subst hW51; go_cell
      have ml_51 : w50.heap.size < w51.heap.size := by subst hW51; simp
      have d51 : Below w50.heap.size w50 w51 := by subst hW51; go_grown
      clear hW51
      have c51 : Below w.heap.size w w51 := c50.trans (d51.mono c50.size)
      have a0_51 : w51.cell? ⟨w.heap.size, 0, none⟩ = some (.int .i64 p) := (by rw [d51.cell (by first | omega | (simp; done) | (simp; omega))]; go_cell)
      have a1_51 : w51.cell? ⟨w.heap.size, 1, none⟩ = some (.int .i64 f) := (by rw [d51.cell (by first | omega | (simp; done) | (simp; omega))]; go_cell)
      have a2_51 : w51.cell? ⟨w.heap.size, 2, none⟩ = some (.int .i64 st) := (by rw [d51.cell (by first | omega | (simp; done) | (simp; omega))]; go_cell)
      have a3_51 : w51.cell? ⟨w.heap.size, 3, none⟩ = some (v0) := (by rw [d51.cell (by first | omega | (simp; done) | (simp; omega))]; go_cell)
      have a4_51 : w51.cell? ⟨w.heap.size, 4, none⟩ = some (v1) := (by rw [d51.cell (by first | omega | (simp; done) | (simp; omega))]; go_cell)
      have a5_51 : w51.cell? ⟨w.heap.size, 5, none⟩ = some (.slice (some ⟨b, o, none⟩) T.length lc) := (by rw [d51.cell (by first | omega | (simp; done) | (simp; omega))]; go_cell)
      have a6_51 : w51.cell? ⟨w.heap.size, 6, none⟩ = some (v3) := (by rw [d51.cell (by first | omega | (simp; done) | (simp; omega))]; go_cell)
      have a7_51 : w51.cell? ⟨w.heap.size, 7, none⟩ = some (v4) := (by rw [d51.cell (by first | omega | (simp; done) | (simp; omega))]; go_cell)
      have al_51 : w.heap.size < w51.heap.size := (by have := d51.size; omega)
      clear a0_50 a1_50 a2_50 a3_50 a4_50 a5_50 a6_50 a7_50 al_50
      have HD51 := hid d51
      clear e0 e1 e2 e3 e4
      have rd0 := cell_regrown m0_51
      have rd1 := cell_regrown m1_51
      have rd2 := cell_regrown m2_51
      have rd3 := cell_regrown m3_51
      have rd4 := cell_regrown m4_51
      have ra0 := cell_regrown a0_51
      have ra2 := cell_regrown a2_51
      by_cases h0 : d1 ≠ 1
      case neg =>
        have g0 : (d1 == 1) = true := by simp; omega
        have H0 := hid h0
        clear h0
        have hno := HNO.out (fun z => H0.out z.1)
        refine wp_region_quiet_below (by kernel_rfl) (by kernel_rfl) ?_
        repeat (first | go_big_quiet_skip | (go_big_quiet_want; go_big_quiet_op; first | go_big_quiet_on | go_big_quiet_call (first | (go_at_call 89; exact Calls.regrown_of (implOpKey_any _ _ _ _ _)) | (go_at_call 30; exact Calls.regrown_of (implShard_b _ _)))))
        refine wpQuiet_nil ?_
        rintro wq ⟨pq, hwq⟩
        have hq : Below w51.heap.size w51 wq := by rw [hwq]; exact below_regrown _ _ _
        clear hwq pq
        have cq := c51.trans (hq.mono c51.size)
        go_wp2
        go_ret
        exact ⟨by first | (simp; done) | simp [hno], cq⟩
      have g0 : (d1 == 1) = false := by simp; omega
      have H0 := hid h0
      clear h0
      by_cases h1 : partOf (opKey d1 d2 d3 d4) = p
      case neg =>
        have g1 : (partOf (opKey d1 d2 d3 d4) != p) = true := by simpa using h1
        have hno := HNO.out (fun z => h1 z.2.1)
        refine wp_region_quiet_below (by kernel_rfl) (by kernel_rfl) ?_
        repeat (first | go_big_quiet_skip | (go_big_quiet_want; go_big_quiet_op; first | go_big_quiet_on | go_big_quiet_call (first | (go_at_call 89; exact Calls.regrown_of (implOpKey_any _ _ _ _ _)) | (go_at_call 30; exact Calls.regrown_of (implShard_b _ _)))))
        refine wpQuiet_nil ?_
        rintro wq ⟨pq, hwq⟩
        have hq : Below w51.heap.size w51 wq := by rw [hwq]; exact below_regrown _ _ _
        clear hwq pq
        have cq := c51.trans (hq.mono c51.size)
        go_wp2
        go_ret
        exact ⟨by first | (simp; done) | simp [hno], cq⟩
      have g1 : (partOf (opKey d1 d2 d3 d4) != p) = false := by simpa using h1
      have H1 := hid h1
      clear h1
      by_cases h2 : 1 ≤ d0
      case neg =>
        have g2 : decide (d0 < 1) = true := by simp; omega
        have hno := HNO.out (fun z => h2 z.2.2.1)
        refine wp_region_quiet_below (by kernel_rfl) (by kernel_rfl) ?_
        repeat (first | go_big_quiet_skip | (go_big_quiet_want; go_big_quiet_op; first | go_big_quiet_on | go_big_quiet_call (first | (go_at_call 89; exact Calls.regrown_of (implOpKey_any _ _ _ _ _)) | (go_at_call 30; exact Calls.regrown_of (implShard_b _ _)))))
        refine wpQuiet_nil ?_
        rintro wq ⟨pq, hwq⟩
        have hq : Below w51.heap.size w51 wq := by rw [hwq]; exact below_regrown _ _ _
        clear hwq pq
        have cq := c51.trans (hq.mono c51.size)
        go_wp2
        go_ret
        exact ⟨by first | (simp; done) | simp [hno], cq⟩
      have g2 : decide (d0 < 1) = false := by simp; omega
      by_cases h3 : d0 ≤ st
      case neg =>
        have g3 : decide (d0 > st) = true := by simp; omega
        have hno := HNO.out (fun z => h3 z.2.2.2)
        refine wp_region_quiet_below (by kernel_rfl) (by kernel_rfl) ?_
        repeat (first | go_big_quiet_skip | (go_big_quiet_want; go_big_quiet_op; first | go_big_quiet_on | go_big_quiet_call (first | (go_at_call 89; exact Calls.regrown_of (implOpKey_any _ _ _ _ _)) | (go_at_call 30; exact Calls.regrown_of (implShard_b _ _)))))
        refine wpQuiet_nil ?_
        rintro wq ⟨pq, hwq⟩
        have hq : Below w51.heap.size w51 wq := by rw [hwq]; exact below_regrown _ _ _
        clear hwq pq
        have cq := c51.trans (hq.mono c51.size)
        go_wp2
        go_ret
        exact ⟨by first | (simp; done) | simp [hno], cq⟩
      have g3 : decide (d0 > st) = false := by simp; omega
      have HM := hid (HMORE.out (⟨H0.out, H1.out, h2, h3⟩))
      refine wp_region_quiet_below (by kernel_rfl) (by kernel_rfl) ?_
      repeat (first | go_big_quiet_skip | (go_big_quiet_want; go_big_quiet_op; first | go_big_quiet_on | go_big_quiet_call (first | (go_at_call 89; exact Calls.regrown_of (implOpKey_any _ _ _ _ _)) | (go_at_call 30; exact Calls.regrown_of (implShard_b _ _)))))
      refine wpQuiet_nil ?_
      rintro wq ⟨pq, hwq⟩
      have hq : Below w51.heap.size w51 wq := by rw [hwq]; exact below_regrown _ _ _
      clear hwq pq
      have HQ := hid (HB1.out.trans ((HD51.out.trans (hq.mono HD51.out.size)).mono HB1.out.size))
      go_wp2_with fail
      go_roundw
      case rel => exact ⟨k + 1, by have := HLT.out; omega, by go_num, HM, HQ⟩
      case measure =>
        have := HLT.out
        simp [intOf]
        omega
    · obtain rfl : k = T.length := by omega
      have hki : ¬ ((T.length : Int) < (T.length : Int)) := by omega
      have HPRE := hid hpre.out
      clear hpre hbel hlt
      have HIS := hid (intsB_is hp HPRE.out)
      by_cases h3 : T.length ≤ 3
      · have g3 : decide ((T.length : Int) ≤ 3) = true := by simp; omega
        have g4 : decide (T.length ≤ 3) = true := decide_eq_true h3
        go_wp2_with fail
        refine (ascIntent_any _ T _ (HLL.out.later c50)).mono ?_
        rintro e w60 ⟨rfl, b60⟩
        have cq := c50.trans (b60.mono c50.size)
        go_wp2
        go_ret
        exact ⟨by rw [HIS.out, g4, Bool.true_and]; simp, cq⟩
      · have g3 : decide ((T.length : Int) ≤ 3) = false := by simp; omega
        have g4 : decide (T.length ≤ 3) = false := decide_eq_false h3
        go_wp2
        go_ret
        exact ⟨by rw [HIS.out, g4, Bool.false_and]; simp, c50⟩
set_option maxRecDepth 100000 in
set_option maxHeartbeats 8000000 in
theorem seenRight_any (p f st : Int) (v0 v1 v2 v3 v4 : Value) (S : List KD) (w : World) (hL : RdM 3 3 false w v3 S) (hp : 0 ≤ p) :
    Calls Tryz.prog 58 #[.agg #[.int .i64 p, .int .i64 f, .int .i64 st, v0, v1, v2, v3, v4]] w fun e w' => e = .returned (.bool (seenB p S)) ∧ Below w.heap.size w w' := by

  have HLL := hid hL
  obtain ⟨lo, lc, rfl, hml, hcl⟩ := hL
  have HC := hid hcl
  clear hcl
  unfold maxLen at hml
  go_enter Tryz.func58, Tryz.ntmps58
  go_wp2_with fail
  generalize hW1 : (w.alloc (.cells #[.int .i64 p, .int .i64 f, .int .i64 st, v0, v1, v2, .slice lo S.length lc, v4] 43)) = w1
  have a0_1 : w1.cell? ⟨w.heap.size, 0, none⟩ = some (.int .i64 p) := by subst hW1; go_cell
  have a1_1 : w1.cell? ⟨w.heap.size, 1, none⟩ = some (.int .i64 f) := by subst hW1; go_cell
  have a2_1 : w1.cell? ⟨w.heap.size, 2, none⟩ = some (.int .i64 st) := by subst hW1; go_cell
  have a3_1 : w1.cell? ⟨w.heap.size, 3, none⟩ = some (v0) := by subst hW1; go_cell
  have a4_1 : w1.cell? ⟨w.heap.size, 4, none⟩ = some (v1) := by subst hW1; go_cell
  have a5_1 : w1.cell? ⟨w.heap.size, 5, none⟩ = some (v2) := by subst hW1; go_cell
  have a6_1 : w1.cell? ⟨w.heap.size, 6, none⟩ = some (.slice lo S.length lc) := by subst hW1; go_cell
  have a7_1 : w1.cell? ⟨w.heap.size, 7, none⟩ = some (v4) := by subst hW1; go_cell
  have al_1 : w.heap.size < w1.heap.size := by subst hW1; first | (simp; done) | (simp; omega)
  have c1 : Below w.heap.size w w1 := by subst hW1; go_grown
  have s1 : w1.heap.size = w.heap.size + 1 := by subst hW1; simp
  clear hW1
  have qa0_1 := cell_regrown a0_1
  have qa1_1 := cell_regrown a1_1
  have qa2_1 := cell_regrown a2_1
  have qa3_1 := cell_regrown a3_1
  have qa4_1 := cell_regrown a4_1
  have qa5_1 := cell_regrown a5_1
  have qa6_1 := cell_regrown a6_1
  have qa7_1 := cell_regrown a7_1
  clear qa0_1 qa1_1 qa2_1 qa3_1 qa4_1 qa5_1 qa6_1 qa7_1
  go_loopw [10] (fun i wr => ∃ k : Nat, k ≤ S.length ∧ i = .int .i64 k ∧ Hid (∀ i, i < k → (0 ≤ colK S i 0 ∧ colK S i 0 < 8) ∧ (0 ≤ colK S i 1 ∧ colK S i 1 < 8) ∧ colK S i 1 % 2 = p ∧ 1 ≤ colK S i 2) ∧ Hid (Below w1.heap.size w1 wr)) (fun i _ => S.length - (intOf i).toNat)
  case atStart => exact ⟨0, Nat.zero_le _, rfl, hid (fun j hj => absurd hj (Nat.not_lt_zero j)), hid (Below.refl _ _)⟩
  case round =>
    obtain ⟨k, hk, rfl, hpre, hbel⟩ := hrel
    obtain ⟨w50, hw50⟩ : ∃ y, y = wr := ⟨_, rfl⟩
    subst hw50
    have b50 := hbel.out
    have d50 : Below w1.heap.size w1 w50 := (Below.trans (by go_grown) (b50.mono (by first | omega | (simp; done) | (simp; omega))))
    have c50 : Below w.heap.size w w50 := c1.trans (d50.mono c1.size)
    have a0_50 : w50.cell? ⟨w.heap.size, 0, none⟩ = some (.int .i64 p) := (by rw [b50.cell (by first | omega | (simp; done) | (simp; omega))]; go_cell)
    have a1_50 : w50.cell? ⟨w.heap.size, 1, none⟩ = some (.int .i64 f) := (by rw [b50.cell (by first | omega | (simp; done) | (simp; omega))]; go_cell)
    have a2_50 : w50.cell? ⟨w.heap.size, 2, none⟩ = some (.int .i64 st) := (by rw [b50.cell (by first | omega | (simp; done) | (simp; omega))]; go_cell)
    have a3_50 : w50.cell? ⟨w.heap.size, 3, none⟩ = some (v0) := (by rw [b50.cell (by first | omega | (simp; done) | (simp; omega))]; go_cell)
    have a4_50 : w50.cell? ⟨w.heap.size, 4, none⟩ = some (v1) := (by rw [b50.cell (by first | omega | (simp; done) | (simp; omega))]; go_cell)
    have a5_50 : w50.cell? ⟨w.heap.size, 5, none⟩ = some (v2) := (by rw [b50.cell (by first | omega | (simp; done) | (simp; omega))]; go_cell)
    have a6_50 : w50.cell? ⟨w.heap.size, 6, none⟩ = some (.slice lo S.length lc) := (by rw [b50.cell (by first | omega | (simp; done) | (simp; omega))]; go_cell)
    have a7_50 : w50.cell? ⟨w.heap.size, 7, none⟩ = some (v4) := (by rw [b50.cell (by first | omega | (simp; done) | (simp; omega))]; go_cell)
    have al_50 : w.heap.size < w50.heap.size := (by have := b50.size; first | omega | (revert this; simp; done) | (revert this; simp; omega))
    clear a0_1 a1_1 a2_1 a3_1 a4_1 a5_1 a6_1 a7_1 al_1
    clear b50 d50
    by_cases hlt : k < S.length
    · obtain ⟨b, o, rfl, hb, hcc⟩ := HC.out (by omega)
      obtain ⟨d0, d1, d2, hx, e0, e1, e2⟩ := atK_3n ((hcc k hlt).later hb c50)
      have hki : (k : Int) < (S.length : Int) := by omega
      have hcol : ∀ c, colK S k c = [d0, d1, d2].getD c 0 := fun c => by rw [colK, hx]
      have HPRE := hid hpre.out
      have HLT := hid hlt
      have HB1 := hid hbel.out

      have HMORE : Hid (((0 ≤ d0 ∧ d0 < 8) ∧ (0 ≤ d1 ∧ d1 < 8) ∧ d1 % 2 = p ∧ 1 ≤ d2) → ∀ i, i < k + 1 → (0 ≤ colK S i 0 ∧ colK S i 0 < 8) ∧ (0 ≤ colK S i 1 ∧ colK S i 1 < 8) ∧ colK S i 1 % 2 = p ∧ 1 ≤ colK S i 2) := hid (fun z i hi => by
        by_cases e : i = k
        · subst e
          simp only [hcol]
          exact z
        · exact HPRE.out i (by omega))
      have HNO : Hid (¬ ((0 ≤ d0 ∧ d0 < 8) ∧ (0 ≤ d1 ∧ d1 < 8) ∧ d1 % 2 = p ∧ 1 ≤ d2) → seenB p S = false) := hid (fun z => seenB_no HLT.out (fun q => z (by have := q; unfold SeenAt at this; simp only [hcol] at this; exact ⟨⟨this.1, this.2.1⟩, ⟨this.2.2.1, this.2.2.2.1⟩, this.2.2.2.2.1, this.2.2.2.2.2.1⟩)))
      clear hx hcc hlt hpre hbel hcol
      go_wp2_with fail
      generalize hW51 : (w50.alloc (.cells #[.int .i64 d0, .int .i64 d1, .int .i64 d2] 105)) = w51
      have m0_51 : w51.cell? ⟨w50.heap.size, 0, none⟩ = some (.int .i64 d0) := by subst hW51; go_cell
      have m1_51 : w51.cell? ⟨w50.heap.size, 1, none⟩ = some (.int .i64 d1) := by subst hW51; go_cell
      have m2_51 : w51.cell? ⟨w50.heap.size, 2, none⟩ = some (.int .i64 d2) := by subst hW51; go_cell
      have ml_51 : w50.heap.size < w51.heap.size := by subst hW51; simp
      have d51 : Below w50.heap.size w50 w51 := by subst hW51; go_grown
      clear hW51
      have c51 : Below w.heap.size w w51 := c50.trans (d51.mono c50.size)
      have a0_51 : w51.cell? ⟨w.heap.size, 0, none⟩ = some (.int .i64 p) := (by rw [d51.cell (by first | omega | (simp; done) | (simp; omega))]; go_cell)
      have a1_51 : w51.cell? ⟨w.heap.size, 1, none⟩ = some (.int .i64 f) := (by rw [d51.cell (by first | omega | (simp; done) | (simp; omega))]; go_cell)
      have a2_51 : w51.cell? ⟨w.heap.size, 2, none⟩ = some (.int .i64 st) := (by rw [d51.cell (by first | omega | (simp; done) | (simp; omega))]; go_cell)
      have a3_51 : w51.cell? ⟨w.heap.size, 3, none⟩ = some (v0) := (by rw [d51.cell (by first | omega | (simp; done) | (simp; omega))]; go_cell)
      have a4_51 : w51.cell? ⟨w.heap.size, 4, none⟩ = some (v1) := (by rw [d51.cell (by first | omega | (simp; done) | (simp; omega))]; go_cell)
      have a5_51 : w51.cell? ⟨w.heap.size, 5, none⟩ = some (v2) := (by rw [d51.cell (by first | omega | (simp; done) | (simp; omega))]; go_cell)
      have a6_51 : w51.cell? ⟨w.heap.size, 6, none⟩ = some (.slice (some ⟨b, o, none⟩) S.length lc) := (by rw [d51.cell (by first | omega | (simp; done) | (simp; omega))]; go_cell)
      have a7_51 : w51.cell? ⟨w.heap.size, 7, none⟩ = some (v4) := (by rw [d51.cell (by first | omega | (simp; done) | (simp; omega))]; go_cell)
      have al_51 : w.heap.size < w51.heap.size := (by have := d51.size; omega)
      clear a0_50 a1_50 a2_50 a3_50 a4_50 a5_50 a6_50 a7_50 al_50
      have HD51 := hid d51
      clear e0 e1 e2
      have rd0 := cell_regrown m0_51
      have rd1 := cell_regrown m1_51
      refine wp_region_quiet_below (by kernel_rfl) (by kernel_rfl) ?_
      repeat (first | go_big_quiet_skip | (go_big_quiet_want; go_big_quiet_op; first | go_big_quiet_on | go_big_quiet_call (first | (go_at_call 92; exact Calls.regrown_of (implMake_b _ _ _)))))
      refine wpQuiet_nil ?_
      rintro wq ⟨pq, hwq⟩
      have hq : Below w51.heap.size w51 wq := by rw [hwq]; exact below_regrown _ _ _
      clear hwq pq
      obtain ⟨w52, hw52⟩ : ∃ y, y = wq := ⟨_, rfl⟩
      subst hw52
      have b52 := hq
      clear rd0 rd1
      have d52 : Below w51.heap.size w51 w52 := (Below.trans (by go_grown) (b52.mono (by first | omega | (simp; done) | (simp; omega))))
      have c52 : Below w.heap.size w w52 := c51.trans (d52.mono c51.size)
      have m0_52 : w52.cell? ⟨w50.heap.size, 0, none⟩ = some (.int .i64 d0) := (by rw [b52.cell (by first | omega | (simp; done) | (simp; omega))]; go_cell)
      have m1_52 : w52.cell? ⟨w50.heap.size, 1, none⟩ = some (.int .i64 d1) := (by rw [b52.cell (by first | omega | (simp; done) | (simp; omega))]; go_cell)
      have m2_52 : w52.cell? ⟨w50.heap.size, 2, none⟩ = some (.int .i64 d2) := (by rw [b52.cell (by first | omega | (simp; done) | (simp; omega))]; go_cell)
      have ml_52 : w50.heap.size < w52.heap.size := (by have := b52.size; first | omega | (revert this; simp; done) | (revert this; simp; omega))
      have a0_52 : w52.cell? ⟨w.heap.size, 0, none⟩ = some (.int .i64 p) := (by rw [b52.cell (by first | omega | (simp; done) | (simp; omega))]; go_cell)
      have a1_52 : w52.cell? ⟨w.heap.size, 1, none⟩ = some (.int .i64 f) := (by rw [b52.cell (by first | omega | (simp; done) | (simp; omega))]; go_cell)
      have a2_52 : w52.cell? ⟨w.heap.size, 2, none⟩ = some (.int .i64 st) := (by rw [b52.cell (by first | omega | (simp; done) | (simp; omega))]; go_cell)
      have a3_52 : w52.cell? ⟨w.heap.size, 3, none⟩ = some (v0) := (by rw [b52.cell (by first | omega | (simp; done) | (simp; omega))]; go_cell)
      have a4_52 : w52.cell? ⟨w.heap.size, 4, none⟩ = some (v1) := (by rw [b52.cell (by first | omega | (simp; done) | (simp; omega))]; go_cell)
      have a5_52 : w52.cell? ⟨w.heap.size, 5, none⟩ = some (v2) := (by rw [b52.cell (by first | omega | (simp; done) | (simp; omega))]; go_cell)
      have a6_52 : w52.cell? ⟨w.heap.size, 6, none⟩ = some (.slice (some ⟨b, o, none⟩) S.length lc) := (by rw [b52.cell (by first | omega | (simp; done) | (simp; omega))]; go_cell)
      have a7_52 : w52.cell? ⟨w.heap.size, 7, none⟩ = some (v4) := (by rw [b52.cell (by first | omega | (simp; done) | (simp; omega))]; go_cell)
      have al_52 : w.heap.size < w52.heap.size := (by have := b52.size; first | omega | (revert this; simp; done) | (revert this; simp; omega))
      clear m0_51 m1_51 m2_51 ml_51 a0_51 a1_51 a2_51 a3_51 a4_51 a5_51 a6_51 a7_51 al_51
      have HD52 := hid (HD51.out.trans (d52.mono HD51.out.size))
      clear hq b52 d52
      have ra0 := cell_regrown a0_52
      have rd2 := cell_regrown m2_52
      go_wp2_with fail
      cases hr : keyIn (keyOf 2 d0) with
      | false =>
        have HQ0 := hid hr
        clear hr
        have hno := HNO.out (fun z => by have := seen_key.2 z.1; rw [HQ0.out] at this; cases this)
        refine wp_region_quiet_below (by kernel_rfl) (by kernel_rfl) ?_
        repeat (first | go_big_quiet_skip | (go_big_quiet_want; go_big_quiet_op; first | go_big_quiet_on | go_big_quiet_call (first | (go_at_call 61; exact Calls.regrown_of (keyRight_b HQ0.out _)) | (go_at_call 30; exact Calls.regrown_of (implShard_b _ _)))))
        refine wpQuiet_nil ?_
        rintro wq ⟨pq, hwq⟩
        have hq : Below w52.heap.size w52 wq := by rw [hwq]; exact below_regrown _ _ _
        clear hwq pq
        have cq := c52.trans (hq.mono c52.size)
        go_wp2
        go_ret
        exact ⟨by first | (simp; done) | simp [hno], cq⟩
      | true =>
        have HQ0 := hid hr
        clear hr
        by_cases h1 : partOf (keyOf 1 d1) = p
        case neg =>
          have g1 : (partOf (keyOf 1 d1) != p) = true := by simpa using h1
          have hno := HNO.out (fun z => h1 ((seen_part hp).2 ⟨z.2.1, z.2.2.1⟩))
          refine wp_region_quiet_below (by kernel_rfl) (by kernel_rfl) ?_
          repeat (first | go_big_quiet_skip | (go_big_quiet_want; go_big_quiet_op; first | go_big_quiet_on | go_big_quiet_call (first | (go_at_call 61; exact Calls.regrown_of (keyRight_b HQ0.out _)) | (go_at_call 30; exact Calls.regrown_of (implShard_b _ _)))))
          refine wpQuiet_nil ?_
          rintro wq ⟨pq, hwq⟩
          have hq : Below w52.heap.size w52 wq := by rw [hwq]; exact below_regrown _ _ _
          clear hwq pq
          have cq := c52.trans (hq.mono c52.size)
          go_wp2
          go_ret
          exact ⟨by first | (simp; done) | simp [hno], cq⟩
        have g1 : (partOf (keyOf 1 d1) != p) = false := by simpa using h1
        have H1 := hid h1
        clear h1
        by_cases h2 : 1 ≤ d2
        case neg =>
          have g2 : decide (d2 < 1) = true := by simp; omega
          have hno := HNO.out (fun z => h2 z.2.2.2)
          refine wp_region_quiet_below (by kernel_rfl) (by kernel_rfl) ?_
          repeat (first | go_big_quiet_skip | (go_big_quiet_want; go_big_quiet_op; first | go_big_quiet_on | go_big_quiet_call (first | (go_at_call 61; exact Calls.regrown_of (keyRight_b HQ0.out _)) | (go_at_call 30; exact Calls.regrown_of (implShard_b _ _)))))
          refine wpQuiet_nil ?_
          rintro wq ⟨pq, hwq⟩
          have hq : Below w52.heap.size w52 wq := by rw [hwq]; exact below_regrown _ _ _
          clear hwq pq
          have cq := c52.trans (hq.mono c52.size)
          go_wp2
          go_ret
          exact ⟨by first | (simp; done) | simp [hno], cq⟩
        have g2 : decide (d2 < 1) = false := by simp; omega
        have HM := hid (HMORE.out (⟨seen_key.1 HQ0.out, ((seen_part hp).1 H1.out).1, ((seen_part hp).1 H1.out).2, h2⟩))
        refine wp_region_quiet_below (by kernel_rfl) (by kernel_rfl) ?_
        repeat (first | go_big_quiet_skip | (go_big_quiet_want; go_big_quiet_op; first | go_big_quiet_on | go_big_quiet_call (first | (go_at_call 61; exact Calls.regrown_of (keyRight_b HQ0.out _)) | (go_at_call 30; exact Calls.regrown_of (implShard_b _ _)))))
        refine wpQuiet_nil ?_
        rintro wq ⟨pq, hwq⟩
        have hq : Below w52.heap.size w52 wq := by rw [hwq]; exact below_regrown _ _ _
        clear hwq pq
        have HQ := hid (HB1.out.trans ((HD52.out.trans (hq.mono HD52.out.size)).mono HB1.out.size))
        go_wp2_with fail
        go_roundw
        case rel => exact ⟨k + 1, by have := HLT.out; omega, by go_num, HM, HQ⟩
        case measure =>
          have := HLT.out
          simp [intOf]
          omega
    · obtain rfl : k = S.length := by omega
      have hki : ¬ ((S.length : Int) < (S.length : Int)) := by omega
      have HPRE := hid hpre.out
      clear hpre hbel hlt
      have HIS := hid (seenB_is HPRE.out)
      go_wp2_with fail
      refine (ascSeen_any _ S _ (HLL.out.later c50)).mono ?_
      rintro e w60 ⟨rfl, b60⟩
      have cq := c50.trans (b60.mono c50.size)
      go_wp2
      go_ret
      exact ⟨by simp [HIS.out], cq⟩
end Go.Proofs.YtefhpbcdjgllnaaGreat
