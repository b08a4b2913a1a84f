/- spec.l4Rows: contract. Written by a program (gsw.py). -/
import Derived.Test.YtefhpbcdjgllnaaGreatS4r
import Derived.Test.YtefhpbcdjgllnaaGreatGrB
import Derived.Test.YtefhpbcdjgllnaaGreatGrC
import Derived.Test.YtefhpbcdjgllnaaGreatKw
import Derived.Test.YtefhpbcdjgllnaaGreatGrA
import Derived.BigQuiet
import Derived.Lib.QuietBelow
import Derived.Deep.Cut
namespace Go.Proofs.YtefhpbcdjgllnaaGreat
open Go.RowKit
attribute [local go_sem ↓] Go.wp_at_zero Go.wp_at_succ

theorem rowAt_len (Lg : List KD) : ∀ (i : Nat) (k : Int), (rowAt Lg i k).1.length = 2
  | 0, _ => rfl
  | i + 1, k => by
    unfold rowAt
    split
    · rfl
    · exact rowAt_len Lg i k
theorem rowAt_put {Lg : List KD} {k j : Nat} {p1 nm : Int} {l : List (Int × Int)} (hx : Lg.getD k kd0 = ([(j : Int), p1, nm], l)) : (fun (q : Nat) => if q = j then (([p1, nm], l) : KD) else rowAt Lg k (q : Int)) = fun (q : Nat) => rowAt Lg (k + 1) (q : Int) := by
  have hc : colK Lg k 2 = nm := by rw [colK, hx]; rfl
  funext q
  show _ = if keyK (Lg.getD k kd0) = (q : Int) then ([verK (Lg.getD k kd0), colK Lg k 2], (Lg.getD k kd0).2) else rowAt Lg k (q : Int)
  rw [hc, hx]
  by_cases e : q = j
  · subst e
    simp [keyK, verK]
  · have e' : ¬ (j : Int) = (q : Int) := by omega
    simp [keyK, e, e']
theorem specOkV_is {k n : Int} {v : Value} {l : List (Int × Int)} {r : Bool} (hr : okV k n l = r) (w : World) (h : Rd w v l) : Calls Tryz.prog 45 #[.int .i64 k, .agg #[.int .i64 n, v]] w fun e w' => e = .returned (.bool r) ∧ Below w.heap.size w w' := hr ▸ specOkV_any k n v l w h
theorem specShard_b (k : Int) (w : World) : Calls Tryz.prog 20 #[.int .i64 k] w fun e w' => e = .returned (.int .i64 (partOf k)) ∧ Below w.heap.size w w' := (specShard_any k w).mono fun _ _ h => ⟨h.1, by rw [h.2]; exact Below.refl _ _⟩
theorem specVSame_is {n m : Int} {va vb : Value} {la lb : List (Int × Int)} {r : Bool} (hr : eqV n m la lb = r) (w : World) (ha : Rd w va la) (hb : Rd w vb lb) : Calls Tryz.prog 21 #[.agg #[.int .i64 n, va], .agg #[.int .i64 m, vb]] w fun e w' => e = .returned (.bool r) ∧ Below w.heap.size w w' := hr ▸ specVSame_any n m va vb la lb w ha hb
set_option maxRecDepth 100000 in
set_option maxHeartbeats 8000000 in
theorem specRows_any (p f st : Int) (v0 v1 v2 v3 v4 : Value) (R Lg : List KD) (w : World) (hR : RdM 3 2 true w v0 R) (hL : RdM 4 3 true w v4 Lg) (hp : 0 ≤ p) :
    Calls Tryz.prog 41 #[.agg #[.int .i64 p, .int .i64 f, .int .i64 st, v0, v1, v2, v3, v4]] w fun e w' => e = .returned (.bool (logB p R Lg)) ∧ Below w.heap.size w w' := by
  obtain ⟨ar, q0, rfl, hlr, hcr⟩ := hR
  obtain ⟨lo, lc, rfl, hml, hcl⟩ := hL
  have HC := hid hcl
  clear hcl
  unfold maxLen at hml hlr
  go_enter Tryz.func41, Tryz.ntmps41
  by_cases h24 : R.length = 24
  case neg =>
    have hno : logB p R Lg = false := logB_len (fun q => h24 q.1)
    have g0 : ((R.length : Int) != 24) = true := by simp; omega
    clear h24
    go_wp2
    go_ret
    exact ⟨by first | (simp; done) | simp [hno], by go_grown⟩
  have g0 : ((R.length : Int) != 24) = false := by simp; omega
  by_cases h60 : Lg.length ≤ 60
  case neg =>
    have hno : logB p R Lg = false := logB_len (fun q => h60 q.2)
    have g1 : decide ((Lg.length : Int) > 60) = true := by simp; omega
    have H24 := hid h24
    clear h24
    go_wp2
    go_ret
    exact ⟨by first | (simp; done) | simp [hno], by go_grown⟩
  have g1 : decide ((Lg.length : Int) > 60) = false := by simp; omega
  obtain ⟨br, or', rfl, hbr, hccr⟩ := hcr (by omega)
  rw [h24] at hccr ⊢
  have H24 := hid h24
  have H60 := hid h60
  clear hlr h24 hcr g0
  have g0 : ((24 : Int) != 24) = false := by simp
  have HCR := hid hccr
  have HBR := hid hbr
  clear hccr hbr
  obtain ⟨i0, hi, hz0, hz1, hz2⟩ := info_parts Tryz.info86
  have hby : i0.bytes * 24 ≤ 281474976710656 := by rw [hz2]; omega
  go_upto_region 3 with fail
  generalize hW1 : (w.alloc (.cells #[.int .i64 p, .int .i64 f, .int .i64 st, .slice (some ⟨br, or', none⟩) 24 q0, v1, v2, v3, .slice lo Lg.length lc] 43)) = w1
  have a0_1 : w1.cell? ⟨w.heap.size, 0, none⟩ = some (.int .i64 p) := by subst hW1; go_cell
  have a1_1 : w1.cell? ⟨w.heap.size, 1, none⟩ = some (.int .i64 f) := by subst hW1; go_cell
  have a2_1 : w1.cell? ⟨w.heap.size, 2, none⟩ = some (.int .i64 st) := by subst hW1; go_cell
  have a3_1 : w1.cell? ⟨w.heap.size, 3, none⟩ = some (.slice (some ⟨br, or', none⟩) 24 q0) := by subst hW1; go_cell
  have a4_1 : w1.cell? ⟨w.heap.size, 4, none⟩ = some (v1) := by subst hW1; go_cell
  have a5_1 : w1.cell? ⟨w.heap.size, 5, none⟩ = some (v2) := by subst hW1; go_cell
  have a6_1 : w1.cell? ⟨w.heap.size, 6, none⟩ = some (v3) := by subst hW1; go_cell
  have a7_1 : w1.cell? ⟨w.heap.size, 7, none⟩ = some (.slice lo Lg.length lc) := by subst hW1; go_cell
  have al_1 : w.heap.size < w1.heap.size := by subst hW1; first | (simp; done) | (simp; omega)
  have c1 : Below w.heap.size w w1 := by subst hW1; go_grown
  have s1 : w1.heap.size = w.heap.size + 1 := by subst hW1; simp
  clear hW1
  have qa0_1 := cell_regrown a0_1
  have qa1_1 := cell_regrown a1_1
  have qa2_1 := cell_regrown a2_1
  have qa3_1 := cell_regrown a3_1
  have qa4_1 := cell_regrown a4_1
  have qa5_1 := cell_regrown a5_1
  have qa6_1 := cell_regrown a6_1
  have qa7_1 := cell_regrown a7_1
  clear qa0_1 qa1_1 qa2_1 qa3_1 qa4_1 qa5_1 qa6_1 qa7_1 g0 g1 s1
  have HW1 := hid (show w.heap.size < w1.heap.size from al_1)
  go_wp2_with (first | (at_make; refine wpList_make_full _ rfl (.const (.int .i64 24)) (.const (.int .i64 24)) 37 rfl w1.heap.size 86 i0 _ 3 Tryz.underlying37 hi hz0 hz1 .i64 .i64 _ _ 24 rfl rfl rfl rfl hby (by decide) (Nat.le_refl _) ?_; intro w2 hown hgrow; have b2 : Below w1.heap.size w1 w2 := (Below.refl _ w1).grown hgrow (Nat.le_refl _) (by simp); have d2 : Below w1.heap.size w1 w2 := (Below.trans (by go_grown) (b2.mono (by first | omega | (simp; done) | (simp; omega)))); have c2 : Below w.heap.size w w2 := c1.trans (d2.mono c1.size); have a0_2 : w2.cell? ⟨w.heap.size, 0, none⟩ = some (.int .i64 p) := (by rw [b2.cell (by first | omega | (simp; done) | (simp; omega))]; go_cell); have a1_2 : w2.cell? ⟨w.heap.size, 1, none⟩ = some (.int .i64 f) := (by rw [b2.cell (by first | omega | (simp; done) | (simp; omega))]; go_cell); have a2_2 : w2.cell? ⟨w.heap.size, 2, none⟩ = some (.int .i64 st) := (by rw [b2.cell (by first | omega | (simp; done) | (simp; omega))]; go_cell); have a3_2 : w2.cell? ⟨w.heap.size, 3, none⟩ = some (.slice (some ⟨br, or', none⟩) 24 q0) := (by rw [b2.cell (by first | omega | (simp; done) | (simp; omega))]; go_cell); have a4_2 : w2.cell? ⟨w.heap.size, 4, none⟩ = some (v1) := (by rw [b2.cell (by first | omega | (simp; done) | (simp; omega))]; go_cell); have a5_2 : w2.cell? ⟨w.heap.size, 5, none⟩ = some (v2) := (by rw [b2.cell (by first | omega | (simp; done) | (simp; omega))]; go_cell); have a6_2 : w2.cell? ⟨w.heap.size, 6, none⟩ = some (v3) := (by rw [b2.cell (by first | omega | (simp; done) | (simp; omega))]; go_cell); have a7_2 : w2.cell? ⟨w.heap.size, 7, none⟩ = some (.slice lo Lg.length lc) := (by rw [b2.cell (by first | omega | (simp; done) | (simp; omega))]; go_cell); have al_2 : w.heap.size < w2.heap.size := (by have := b2.size; first | omega | (revert this; simp; done) | (revert this; simp; omega)); clear a0_1 a1_1 a2_1 a3_1 a4_1 a5_1 a6_1 a7_1 al_1; have HOW := hid hown; clear hown hgrow))
  have HR2 := hid (RowsC.made HOW.out (W := w2) rfl (Nat.le_refl _))
  clear hi hz0 hz1 hz2 hby HOW b2 d2
  go_loopw [4] (fun i wr => ∃ (k : Nat) (vs : Nat → Value), k ≤ Lg.length ∧ i = .int .i64 k ∧ Hid (LogTo p Lg k) ∧ Hid (RowsC wr w1.heap.size (fun q => rowAt Lg k (q : Int)) vs) ∧ Hid (∀ q, q < 24 → Rd w (vs q) (rowAt Lg k (q : Int)).2) ∧ Hid (Below w1.heap.size w2 wr)) (fun i _ => Lg.length - (intOf i).toNat)
  case atStart => exact ⟨0, _, Nat.zero_le _, rfl, hid (fun j hj => absurd hj (Nat.not_lt_zero j)), hid HR2.out, hid (fun q _ => Rd.nil w none 0), hid (Below.refl _ _)⟩
  case round =>
    obtain ⟨k, vs, hk, rfl, hpre, hrow, hrd, hbel⟩ := hrel
    obtain ⟨w50, hw50⟩ : ∃ y, y = wr := ⟨_, rfl⟩
    subst hw50
    have a0_50 := (hbel.out.cell (p := ⟨w.heap.size, 0, none⟩) HW1.out).trans a0_2
    have a1_50 := (hbel.out.cell (p := ⟨w.heap.size, 1, none⟩) HW1.out).trans a1_2
    have a2_50 := (hbel.out.cell (p := ⟨w.heap.size, 2, none⟩) HW1.out).trans a2_2
    have a3_50 := (hbel.out.cell (p := ⟨w.heap.size, 3, none⟩) HW1.out).trans a3_2
    have a4_50 := (hbel.out.cell (p := ⟨w.heap.size, 4, none⟩) HW1.out).trans a4_2
    have a5_50 := (hbel.out.cell (p := ⟨w.heap.size, 5, none⟩) HW1.out).trans a5_2
    have a6_50 := (hbel.out.cell (p := ⟨w.heap.size, 6, none⟩) HW1.out).trans a6_2
    have a7_50 := (hbel.out.cell (p := ⟨w.heap.size, 7, none⟩) HW1.out).trans a7_2
    have c50 : Below w.heap.size w w50 := c2.trans (hbel.out.mono (Nat.le_of_lt HW1.out))
    have al_50 : w.heap.size < w50.heap.size := Nat.lt_of_lt_of_le al_2 hbel.out.size
    by_cases hlt : k < Lg.length
    · obtain ⟨b, o, rfl, hb, hcc⟩ := HC.out (by omega)
      obtain ⟨key, p1, nm, l, u, hx, e0, e1, e2, e3, hu⟩ := atK_3k (hcc k hlt)
      have HU := hid hu
      have HX := hid hx
      have HNO : Hid (¬ (partOf key = p ∧ okV key nm l = true ∧ p1 = (rowAt Lg k key).1.getD 0 0 + 1) → logB p R Lg = false) := hid (fun q => logB_no hlt (fun z => q ⟨by have := z.1; rwa [hx] at this, by have := z.2.1; rwa [colK, hx] at this, by have := z.2.2; rwa [hx] at this⟩))
      have HMORE : Hid (partOf key = p → okV key nm l = true → p1 = (rowAt Lg k key).1.getD 0 0 + 1 → LogTo p Lg (k + 1)) := hid (fun h1 h2 h3 => hpre.out.more ⟨by rw [hx]; exact h1, by rw [colK, hx]; exact h2, by rw [hx]; exact h3⟩)
      have HVB : Hid (0 ≤ (rowAt Lg k key).1.getD 0 0 ∧ (rowAt Lg k key).1.getD 0 0 ≤ k) := hid (by rw [hpre.out.new k (Nat.le_refl _) key]; exact newAt_le Lg k key)
      obtain ⟨uo, uc, rfl, _⟩ := hu
      have hki : (k : Int) < (Lg.length : Int) := by omega
      have HLT := hid hlt
      have HB2 := hid hbel.out
      have HRW := hid hrow.out
      have HRD := hid hrd.out
      have x0 := (c50.cell (p := ⟨b, o + k * 4, none⟩) hb).trans e0
      have x1 := (c50.cell (p := ⟨b, o + k * 4 + 1, none⟩) hb).trans e1
      have x2 := (c50.cell (p := ⟨b, o + k * 4 + 2, none⟩) hb).trans e2
      have x3 := (c50.cell (p := ⟨b, o + k * 4 + 3, none⟩) hb).trans e3
      clear hx hcc hlt hpre hbel hrow hrd e0 e1 e2 e3
      go_upto_region 8 with fail
      generalize hW51 : (w50.alloc (.cells #[.int .i64 key, .int .i64 p1, .int .i64 nm, .slice uo l.length uc] 64)) = w51
      have m0_51 : w51.cell? ⟨w50.heap.size, 0, none⟩ = some (.int .i64 key) := by subst hW51; go_cell
      have m1_51 : w51.cell? ⟨w50.heap.size, 1, none⟩ = some (.int .i64 p1) := by subst hW51; go_cell
      have m2_51 : w51.cell? ⟨w50.heap.size, 2, none⟩ = some (.int .i64 nm) := by subst hW51; go_cell
      have m3_51 : w51.cell? ⟨w50.heap.size, 3, none⟩ = some (.slice uo l.length uc) := by subst hW51; go_cell
      have ml_51 : w50.heap.size < w51.heap.size := by subst hW51; simp
      have d51 : Below w50.heap.size w50 w51 := by subst hW51; go_grown
      clear hW51
      have c51 : Below w.heap.size w w51 := c50.trans (d51.mono c50.size)
      have a0_51 : w51.cell? ⟨w.heap.size, 0, none⟩ = some (.int .i64 p) := (by rw [d51.cell (by first | omega | (simp; done) | (simp; omega))]; go_cell)
      have a1_51 : w51.cell? ⟨w.heap.size, 1, none⟩ = some (.int .i64 f) := (by rw [d51.cell (by first | omega | (simp; done) | (simp; omega))]; go_cell)
      have a2_51 : w51.cell? ⟨w.heap.size, 2, none⟩ = some (.int .i64 st) := (by rw [d51.cell (by first | omega | (simp; done) | (simp; omega))]; go_cell)
      have a3_51 : w51.cell? ⟨w.heap.size, 3, none⟩ = some (.slice (some ⟨br, or', none⟩) 24 q0) := (by rw [d51.cell (by first | omega | (simp; done) | (simp; omega))]; go_cell)
      have a4_51 : w51.cell? ⟨w.heap.size, 4, none⟩ = some (v1) := (by rw [d51.cell (by first | omega | (simp; done) | (simp; omega))]; go_cell)
      have a5_51 : w51.cell? ⟨w.heap.size, 5, none⟩ = some (v2) := (by rw [d51.cell (by first | omega | (simp; done) | (simp; omega))]; go_cell)
      have a6_51 : w51.cell? ⟨w.heap.size, 6, none⟩ = some (v3) := (by rw [d51.cell (by first | omega | (simp; done) | (simp; omega))]; go_cell)
      have a7_51 : w51.cell? ⟨w.heap.size, 7, none⟩ = some (.slice (some ⟨b, o, none⟩) Lg.length lc) := (by rw [d51.cell (by first | omega | (simp; done) | (simp; omega))]; go_cell)
      have al_51 : w.heap.size < w51.heap.size := (by have := d51.size; omega)
      clear a0_50 a1_50 a2_50 a3_50 a4_50 a5_50 a6_50 a7_50 al_50
      have HD51 := hid d51
      have HU51 := hid (HU.out.later c51)
      clear x0 x1 x2 x3 a1_51 a2_51 a3_51 a4_51 a5_51 a6_51 a7_51
      have ra0 := cell_regrown a0_51
      have rm0 := cell_regrown m0_51
      have rm1 := cell_regrown m1_51
      have rm2 := cell_regrown m2_51
      have rm3 := cell_regrown m3_51
      by_cases h0 : partOf key = p
      case neg =>
        have g0 : (partOf key != p) = true := by simpa using h0
        have hno := HNO.out (fun q => h0 q.1)
        refine wp_region_quiet_below (by kernel_rfl) (by kernel_rfl) ?_
        repeat (first | go_big_quiet_skip | (go_big_quiet_want; go_big_quiet_op; first | go_big_quiet_on | go_big_quiet_call (first | (go_at_call 20; exact Calls.regrown_of (specShard_b _ _)))))
        refine wpQuiet_nil ?_
        rintro wq ⟨pq, hwq⟩
        have hq : Below w51.heap.size w51 wq := by rw [hwq]; exact below_regrown _ _ _
        clear hwq pq
        have cq := c51.trans (hq.mono c51.size)
        go_wp2
        go_ret
        exact ⟨by first | (simp; done) | simp [hno], cq⟩
      have g0 : (partOf key != p) = false := by simpa using h0
      cases hv : okV key nm l with
      | false =>
        have HV := hid hv
        clear hv
        have hno := HNO.out (fun q => by rw [HV.out] at q; cases q.2.1)
        refine wp_region_quiet_below (by kernel_rfl) (by kernel_rfl) ?_
        repeat (first | go_big_quiet_skip | (go_big_quiet_want; go_big_quiet_op; first | go_big_quiet_on | go_big_quiet_call (first | (go_at_call 20; exact Calls.regrown_of (specShard_b _ _)) | (go_at_call 45; exact Calls.regrown_of (specOkV_is HV.out _ (HU51.out.later (below_regrown _ _ _)))))))
        refine wpQuiet_nil ?_
        rintro wq ⟨pq, hwq⟩
        have hq : Below w51.heap.size w51 wq := by rw [hwq]; exact below_regrown _ _ _
        clear hwq pq
        have cq := c51.trans (hq.mono c51.size)
        go_wp2
        go_ret
        exact ⟨by first | (simp; done) | simp [hno], cq⟩
      | true =>
        have HV := hid hv
        clear hv
        have hpk := partOf_key h0 hp
        obtain ⟨j, rfl⟩ := Int.eq_ofNat_of_zero_le hpk.1
        have hj24 : j < 24 := by omega
        have hji : (j : Int) < 24 := by omega
        obtain ⟨rv, hrv⟩ : ∃ z, (rowAt Lg k (j : Int)).1.getD 0 0 = z := ⟨_, rfl⟩
        have hvb := HVB.out
        rw [hrv] at hvb
        have h60 := H60.out
        have hv0 : 0 ≤ rv := hvb.1
        have hv1 : rv ≤ 60 := by omega
        have xv := (HD51.out.cell (p := ⟨w1.heap.size, j * 3, none⟩) HRW.out.lt).trans (HRW.out.ver j hj24)
        rw [hrv] at xv
        have rxv := cell_regrown xv
        have HRV := hid hrv
        clear hpk hrv hvb h60
        by_cases h2 : p1 = rv + 1
        case neg =>
          have g2 : (p1 != rv + 1) = true := by simpa using h2
          have hno := HNO.out (fun q => h2 (by have := q.2.2; rwa [HRV.out] at this))
          have HN2 := hid h2
          clear h2
          refine wp_region_quiet_below (by kernel_rfl) (by kernel_rfl) ?_
          repeat (first | go_big_quiet_skip | (go_big_quiet_want; go_big_quiet_op; first | go_big_quiet_on | go_big_quiet_call (first | (go_at_call 20; exact Calls.regrown_of (specShard_b _ _)) | (go_at_call 45; exact Calls.regrown_of (specOkV_is HV.out _ (HU51.out.later (below_regrown _ _ _)))))))
          refine wpQuiet_nil ?_
          rintro wq ⟨pq, hwq⟩
          have hq : Below w51.heap.size w51 wq := by rw [hwq]; exact below_regrown _ _ _
          clear hwq pq
          have cq := c51.trans (hq.mono c51.size)
          go_wp2
          go_ret
          exact ⟨by first | (simp; done) | simp [hno], cq⟩
        have g2 : (p1 != rv + 1) = false := by simpa using h2
        have HM := hid (HMORE.out h0 HV.out (by rw [HRV.out]; exact h2))
        clear h2
        refine wp_region_quiet_below (by kernel_rfl) (by kernel_rfl) ?_
        repeat (first | go_big_quiet_skip | (go_big_quiet_want; go_big_quiet_op; first | go_big_quiet_on | go_big_quiet_call (first | (go_at_call 20; exact Calls.regrown_of (specShard_b _ _)) | (go_at_call 45; exact Calls.regrown_of (specOkV_is HV.out _ (HU51.out.later (below_regrown _ _ _)))))))
        refine wpQuiet_nil ?_
        rintro wq ⟨pq, hwq⟩
        have hq : Below w51.heap.size w51 wq := by rw [hwq]; exact below_regrown _ _ _
        clear hwq pq
        obtain ⟨w52, hw52⟩ : ∃ y, y = wq := ⟨_, rfl⟩
        subst hw52
        have b52 := hq
        clear ra0 rm0 rm1 rm2 rm3 rxv g0 g2 xv
        have d52 : Below w51.heap.size w51 w52 := (Below.trans (by go_grown) (b52.mono (by first | omega | (simp; done) | (simp; omega))))
        have c52 : Below w.heap.size w w52 := c51.trans (d52.mono c51.size)
        have m0_52 : w52.cell? ⟨w50.heap.size, 0, none⟩ = some (.int .i64 (j : Int)) := (by rw [b52.cell (by first | omega | (simp; done) | (simp; omega))]; go_cell)
        have m1_52 : w52.cell? ⟨w50.heap.size, 1, none⟩ = some (.int .i64 p1) := (by rw [b52.cell (by first | omega | (simp; done) | (simp; omega))]; go_cell)
        have m2_52 : w52.cell? ⟨w50.heap.size, 2, none⟩ = some (.int .i64 nm) := (by rw [b52.cell (by first | omega | (simp; done) | (simp; omega))]; go_cell)
        have m3_52 : w52.cell? ⟨w50.heap.size, 3, none⟩ = some (.slice uo l.length uc) := (by rw [b52.cell (by first | omega | (simp; done) | (simp; omega))]; go_cell)
        have ml_52 : w50.heap.size < w52.heap.size := (by have := b52.size; first | omega | (revert this; simp; done) | (revert this; simp; omega))
        clear m0_51 m1_51 m2_51 m3_51 ml_51
        have HR52 := hid ((HRW.out.later HD51.out).later d52)
        have HB52 := hid (HB2.out.trans ((HD51.out.trans (d52.mono HD51.out.size)).mono (by have := HB2.out.size; have := HR2.out.lt; omega)))
        have f0 := HR52.out.frz (j * 3)
        have f1 := HR52.out.frz (j * 3 + 1)
        have f2 := HR52.out.frz (j * 3 + 2)
        have x0 := HR52.out.ver j hj24
        have x1 := HR52.out.num j hj24
        have x2 := HR52.out.kin j hj24
        have hG := HR52.out.lt
        clear hq b52 d52
        go_wp2_with fail
        go_roundw
        case rel =>
          have hr2 := HR52.out.put j p1 nm (.slice uo l.length uc) l
          have hpt := rowAt_put HX.out
          rw [hpt] at hr2
          have hd2 : ∀ q, q < 24 → Rd w ((fun q => if q = j then .slice uo l.length uc else vs q) q) (rowAt Lg (k + 1) (q : Int)).2 := fun q hq => by
            have := congrFun hpt q
            rw [← this]
            by_cases e : q = j
            · simp only [if_pos e]; exact HU.out
            · simp only [if_neg e]; exact HRD.out q hq
          exact ⟨k + 1, _, by have := HLT.out; omega, by go_num, HM, hid hr2, hid hd2, hid (((HB52.out.setCell (p := ⟨w1.heap.size, j * 3, none⟩) (Nat.le_refl _) _).setCell (p := ⟨w1.heap.size, j * 3 + 1, none⟩) (Nat.le_refl _) _).setCell (p := ⟨w1.heap.size, j * 3 + 2, none⟩) (Nat.le_refl _) _)⟩
        case measure =>
          have := HLT.out
          simp [intOf]
          omega
    · obtain rfl : k = Lg.length := by omega
      have HLOG := hid hpre.out
      have HRW := hid hrow.out
      have HRD := hid hrd.out
      have HB50 := hid hbel.out
      have hki : ¬ ((Lg.length : Int) < (Lg.length : Int)) := by omega
      clear hpre hrow hrd hbel hlt
      go_wp2_with fail
      go_loopw [6] (fun i wr => ∃ (k : Nat), k ≤ 24 ∧ i = .int .i64 k ∧ Hid (∀ q, q < k → R.getD q kd0 = rowAt Lg Lg.length (q : Int)) ∧ Hid (Below w50.heap.size w50 wr)) (fun i _ => 24 - (intOf i).toNat)
      case atStart => exact ⟨0, Nat.zero_le _, rfl, hid (fun q hq => absurd hq (Nat.not_lt_zero q)), hid (Below.refl _ _)⟩
      case round =>
        obtain ⟨k, hk, rfl, hsame, hbel⟩ := hrel
        obtain ⟨w60, hw60⟩ : ∃ y, y = wr := ⟨_, rfl⟩
        subst hw60
        have b60 := hbel.out
        have d60 : Below w50.heap.size w50 w60 := (Below.trans (by go_grown) (b60.mono (by first | omega | (simp; done) | (simp; omega))))
        have c60 : Below w.heap.size w w60 := c50.trans (d60.mono c50.size)
        have a0_60 : w60.cell? ⟨w.heap.size, 0, none⟩ = some (.int .i64 p) := (by rw [b60.cell (by first | omega | (simp; done) | (simp; omega))]; go_cell)
        have a1_60 : w60.cell? ⟨w.heap.size, 1, none⟩ = some (.int .i64 f) := (by rw [b60.cell (by first | omega | (simp; done) | (simp; omega))]; go_cell)
        have a2_60 : w60.cell? ⟨w.heap.size, 2, none⟩ = some (.int .i64 st) := (by rw [b60.cell (by first | omega | (simp; done) | (simp; omega))]; go_cell)
        have a3_60 : w60.cell? ⟨w.heap.size, 3, none⟩ = some (.slice (some ⟨br, or', none⟩) 24 q0) := (by rw [b60.cell (by first | omega | (simp; done) | (simp; omega))]; go_cell)
        have a4_60 : w60.cell? ⟨w.heap.size, 4, none⟩ = some (v1) := (by rw [b60.cell (by first | omega | (simp; done) | (simp; omega))]; go_cell)
        have a5_60 : w60.cell? ⟨w.heap.size, 5, none⟩ = some (v2) := (by rw [b60.cell (by first | omega | (simp; done) | (simp; omega))]; go_cell)
        have a6_60 : w60.cell? ⟨w.heap.size, 6, none⟩ = some (v3) := (by rw [b60.cell (by first | omega | (simp; done) | (simp; omega))]; go_cell)
        have a7_60 : w60.cell? ⟨w.heap.size, 7, none⟩ = some (.slice lo Lg.length lc) := (by rw [b60.cell (by first | omega | (simp; done) | (simp; omega))]; go_cell)
        have al_60 : w.heap.size < w60.heap.size := (by have := b60.size; first | omega | (revert this; simp; done) | (revert this; simp; omega))
        clear a0_50 a1_50 a2_50 a3_50 a4_50 a5_50 a6_50 a7_50 al_50
        have HR60 := hid (HRW.out.later d60)
        clear b60 d60
        by_cases hlt : k < 24
        · have hkey : (k : Int) < 24 := by omega
          obtain ⟨ra, rb, rl, ru, hx, e0, e1, e2, hu⟩ := atK_2k ((HCR.out k hlt).later HBR.out c60)
          have hu2 := (HRD.out k hlt).later c60
          have y0 := HR60.out.ver k hlt
          have y1 := HR60.out.num k hlt
          have y2 := HR60.out.kin k hlt
          have hrl := rowAt_len Lg Lg.length (k : Int)
          obtain ⟨x, hxx⟩ : ∃ x, rowAt Lg Lg.length (k : Int) = x := ⟨_, rfl⟩
          have HXX := hid hxx
          rw [hxx] at hu2 y0 y1 hrl
          obtain ⟨sn, sl⟩ := x
          obtain ⟨sa, sb, rfl⟩ : ∃ a b, sn = [a, b] := by
            match sn, hrl with
            | [a, b], _ => exact ⟨a, b, rfl⟩
          replace y0 : w60.cell? ⟨w1.heap.size, k * 3, none⟩ = some (.int .i64 sa) := y0
          replace y1 : w60.cell? ⟨w1.heap.size, k * 3 + 1, none⟩ = some (.int .i64 sb) := y1
          have hcase : R.getD k kd0 = rowAt Lg Lg.length (k : Int) ↔ ra = sa ∧ eqV rb sb rl sl = true := by
            rw [hx, hxx]
            by_cases z1 : ra = sa <;> by_cases z2 : rb = sb <;> simp [eqV, eqL, z1, z2]
          have HNO : Hid (¬ (ra = sa ∧ eqV rb sb rl sl = true) → logB p R Lg = false) := hid (fun z => logB_norow hlt (fun q => z (hcase.1 q)))
          have HM : Hid (ra = sa → eqV rb sb rl sl = true → ∀ q, q < k + 1 → R.getD q kd0 = rowAt Lg Lg.length (q : Int)) := hid (fun z1 z2 q hq => by
            by_cases e : q = k
            · rw [e]; exact hcase.2 ⟨z1, z2⟩
            · exact hsame.out q (by omega))
          have HLT := hid hlt
          have HB60 := hid hbel.out
          have HU1 := hid hu
          have HU2 := hid hu2
          obtain ⟨uo, uc, rfl, _⟩ := hu
          obtain ⟨so, sc, hs, _⟩ := hu2
          rw [hs] at y2 HU2
          clear hx hxx hrl hcase hsame hbel hlt hs
          go_wp2_with fail
          have rg := cell_regrown a3_60
          have rx0 := cell_regrown e0
          have rx1 := cell_regrown e1
          have rx2 := cell_regrown e2
          have ry0 := cell_regrown y0
          have ry1 := cell_regrown y1
          have ry2 := cell_regrown y2
          by_cases h0 : ra = sa
          case neg =>
            have g0 : (ra != sa) = true := by simpa using h0
            have hno := HNO.out (fun z => h0 z.1)
            have HN0 := hid h0
            clear h0
            refine wp_region_quiet_below (by kernel_rfl) (by kernel_rfl) ?_
            repeat (first | go_big_quiet_skip | (go_big_quiet_want; go_big_quiet_op; first | go_big_quiet_on | go_big_quiet_call (first | (fail))))
            refine wpQuiet_nil ?_
            rintro wq ⟨pq, hwq⟩
            have hq : Below w60.heap.size w60 wq := by rw [hwq]; exact below_regrown _ _ _
            clear hwq pq
            have cq := c60.trans (hq.mono c60.size)
            go_wp2
            go_ret
            exact ⟨by first | (simp; done) | simp [hno], cq⟩
          have g0 : (ra != sa) = false := by simpa using h0
          have H0 := hid h0
          clear h0
          cases hv : eqV rb sb rl sl with
          | false =>
            have HV := hid hv
            clear hv
            have hno := HNO.out (fun z => by rw [HV.out] at z; cases z.2)
            refine wp_region_quiet_below (by kernel_rfl) (by kernel_rfl) ?_
            repeat (first | go_big_quiet_skip | (go_big_quiet_want; go_big_quiet_op; first | go_big_quiet_on | go_big_quiet_call (first | (go_at_call 21; exact Calls.regrown_of (specVSame_is HV.out _ (HU1.out.later (below_regrown _ _ _)) (HU2.out.later (below_regrown _ _ _)))))))
            refine wpQuiet_nil ?_
            rintro wq ⟨pq, hwq⟩
            have hq : Below w60.heap.size w60 wq := by rw [hwq]; exact below_regrown _ _ _
            clear hwq pq
            have cq := c60.trans (hq.mono c60.size)
            go_wp2
            go_ret
            exact ⟨by first | (simp; done) | simp [hno], cq⟩
          | true =>
            have HV := hid hv
            clear hv
            have HN := hid (HM.out H0.out HV.out)
            refine wp_region_quiet_below (by kernel_rfl) (by kernel_rfl) ?_
            repeat (first | go_big_quiet_skip | (go_big_quiet_want; go_big_quiet_op; first | go_big_quiet_on | go_big_quiet_call (first | (go_at_call 21; exact Calls.regrown_of (specVSame_is HV.out _ (HU1.out.later (below_regrown _ _ _)) (HU2.out.later (below_regrown _ _ _)))))))
            refine wpQuiet_nil ?_
            rintro wq ⟨pq, hwq⟩
            have hq : Below w60.heap.size w60 wq := by rw [hwq]; exact below_regrown _ _ _
            clear hwq pq
            have HQ := hid (HB60.out.trans (hq.mono HB60.out.size))
            go_wp2_with fail
            go_roundw
            case rel => exact ⟨k + 1, by have := HLT.out; omega, by go_num, HN, HQ⟩
            case measure =>
              have := HLT.out
              simp [intOf]
              omega
        · obtain rfl : k = 24 := by omega
          have hyes : logB p R Lg = true := decide_eq_true ⟨H24.out, H60.out, HLOG.out, hsame.out⟩
          go_wp2
          go_ret
          exact ⟨by first | (simp; done) | simp [hyes], c60⟩
end Go.Proofs.YtefhpbcdjgllnaaGreat
