/- impl.logRight: contract. -/
import Derived.Test.YtadjajappnhipaaGreatS4c
import Derived.Test.YtadjajappnhipaaGreatSb
import Derived.Test.YtadjajappnhipaaGreatGrC
import Derived.Test.YtadjajappnhipaaGreatKw
import Derived.BigQuiet
import Derived.Lib.QuietBelow
import Derived.Deep.RegionHeld3
namespace Go.Proofs.YtadjajappnhipaaGreat
open Go.RowKit
attribute [local go_sem ↓] Go.wp_at_zero Go.wp_at_succ

theorem logB_is {p : Int} {R Lg : List KD} (h3 : ∀ i, i < Lg.length → (Lg.getD i kd0).1.length = 3) (h60 : Lg.length ≤ 60) (hk : ∀ i, i < Lg.length → partOf (keyK (Lg.getD i kd0)) = p ∧ okV (keyK (Lg.getD i kd0)) (colK Lg i 2) (Lg.getD i kd0).2 = true) :
    logB p R Lg = (eqM Lg (newLog Lg Lg.length) && eqM R (newRows Lg)) := by
  rw [Bool.eq_iff_iff, ← logB_new h3, Bool.and_eq_true]
  simp only [eqM, decide_eq_true_eq]
  exact ⟨fun h => h.2.2, fun h => ⟨h60, hk, h⟩⟩
theorem Tru.log {w : World} {B K rb n : Nat} {p f st : Int} {db : Nat} {iv : Value} {sb : Nat} {N : Int → KD} {M : List KD} {lv : Value} {us : Int → Value} {xs : List Value} {ts : Nat → Value} (h : Tru w B K rb n p f st db iv sb N M lv us xs ts) : RdM 4 3 true w lv M :=
  h.row.rdM (fun i hi => (h.kin.own i hi).rd)
theorem equalCommits_is {va vb : Value} {la lb : List KD} {w : World} {r : Bool} (hr : eqM la lb = r) (ha : RdM 4 3 true w va la) (hb : RdM 4 3 true w vb lb) :
    Calls Tryz.prog 49 #[va, vb, .func (.func 50) #[] #[]] w fun e w' => e = .returned (.bool r) ∧ Below w.heap.size w w' := hr ▸ equalCommits_any va vb la lb w ha hb
theorem equalRows_is {va vb : Value} {la lb : List KD} {w : World} {r : Bool} (hr : eqM la lb = r) (ha : RdM 3 2 true w va la) (hb : RdM 3 2 true w vb lb) :
    Calls Tryz.prog 51 #[va, vb, .func (.func 53) #[] #[]] w fun e w' => e = .returned (.bool r) ∧ Below w.heap.size w w' := hr ▸ equalRows_any va vb la lb w ha hb
set_option maxRecDepth 100000 in
set_option maxHeartbeats 8000000 in
theorem logRight_any (p f st : Int) (v0 v1 v2 v3 v4 : Value) (R Lg : List KD) (w : World) (hR : RdM 3 2 true w v0 R) (hL : RdM 4 3 true w v4 Lg) :
    Calls Tryz.prog 24 #[.agg #[.int .i64 p, .int .i64 f, .int .i64 st, v0, v1, v2, v3, v4]] w fun e w' => e = .returned (.bool (logB p R Lg)) ∧ Below w.heap.size w w' := by
  have HR := hid hR
  have HL := hid hL
  obtain ⟨ro, rc, rfl, _⟩ := hR
  obtain ⟨lo, lc, rfl, hml, hcl⟩ := hL
  have HC := hid hcl
  have h3 : ∀ i, i < Lg.length → (Lg.getD i kd0).1.length = 3 := fun i hi => by
    obtain ⟨b, o, _, _, hcc⟩ := hcl (by omega)
    exact (hcc i hi).len
  have H3 := hid h3
  clear h3 hcl
  unfold maxLen at hml
  go_enter Tryz.func24, Tryz.ntmps24
  by_cases h60 : Lg.length ≤ 60
  case neg =>
    have hno : logB p R Lg = false := logB_len (fun q => h60 q.2)
    have g1 : decide ((Lg.length : Int) > 60) = true := by simp; omega
    go_wp2
    go_ret
    exact ⟨by simp [hno], by go_grown⟩
  have g1 : decide ((Lg.length : Int) > 60) = false := by simp; omega
  go_wp2_with fail
  generalize hW1 : (w.alloc (.cells #[.int .i64 p, .int .i64 f, .int .i64 st, .slice ro R.length rc, v1, v2, v3, .slice lo Lg.length lc] 37)) = w1
  have a0_1 : w1.cell? ⟨w.heap.size, 0, none⟩ = some (.int .i64 p) := by subst hW1; go_cell
  have a1_1 : w1.cell? ⟨w.heap.size, 1, none⟩ = some (.int .i64 f) := by subst hW1; go_cell
  have a2_1 : w1.cell? ⟨w.heap.size, 2, none⟩ = some (.int .i64 st) := by subst hW1; go_cell
  have a3_1 : w1.cell? ⟨w.heap.size, 3, none⟩ = some (.slice ro R.length rc) := by subst hW1; go_cell
  have a4_1 : w1.cell? ⟨w.heap.size, 4, none⟩ = some (v1) := by subst hW1; go_cell
  have a5_1 : w1.cell? ⟨w.heap.size, 5, none⟩ = some (v2) := by subst hW1; go_cell
  have a6_1 : w1.cell? ⟨w.heap.size, 6, none⟩ = some (v3) := by subst hW1; go_cell
  have a7_1 : w1.cell? ⟨w.heap.size, 7, none⟩ = some (.slice lo Lg.length lc) := by subst hW1; go_cell
  have al_1 : w.heap.size < w1.heap.size := by subst hW1; first | (simp; done) | (simp; omega)
  have c1 : Below w.heap.size w w1 := by subst hW1; go_grown
  have s1 : w1.heap.size = w.heap.size + 1 := by subst hW1; simp
  clear hW1
  have qa0_1 := cell_regrown a0_1
  have qa1_1 := cell_regrown a1_1
  have qa2_1 := cell_regrown a2_1
  have qa3_1 := cell_regrown a3_1
  have qa4_1 := cell_regrown a4_1
  have qa5_1 := cell_regrown a5_1
  have qa6_1 := cell_regrown a6_1
  have qa7_1 := cell_regrown a7_1
  clear qa0_1 qa1_1 qa2_1 qa3_1 qa4_1 qa5_1 qa6_1 qa7_1 g1
  go_loopw [13] (fun i wr => ∃ k : Nat, k ≤ Lg.length ∧ i = .int .i64 k ∧ Hid (∀ i, i < k → partOf (keyK (Lg.getD i kd0)) = p ∧ okV (keyK (Lg.getD i kd0)) (colK Lg i 2) (Lg.getD i kd0).2 = true) ∧ Hid (Below w1.heap.size w1 wr)) (fun i _ => Lg.length - (intOf i).toNat)
  case atStart => exact ⟨0, Nat.zero_le _, rfl, hid (fun j hj => absurd hj (Nat.not_lt_zero j)), hid (Below.refl _ _)⟩
  case round =>
    obtain ⟨k, hk, rfl, hpre, hbel⟩ := hrel
    obtain ⟨w50, hw50⟩ : ∃ y, y = wr := ⟨_, rfl⟩
    subst hw50
    have b50 := hbel.out
    have d50 : Below w1.heap.size w1 w50 := (Below.trans (by go_grown) (b50.mono (by first | omega | (simp; done) | (simp; omega))))
    have c50 : Below w.heap.size w w50 := c1.trans (d50.mono c1.size)
    have a0_50 : w50.cell? ⟨w.heap.size, 0, none⟩ = some (.int .i64 p) := (by rw [b50.cell (by first | omega | (simp; done) | (simp; omega))]; go_cell)
    have a1_50 : w50.cell? ⟨w.heap.size, 1, none⟩ = some (.int .i64 f) := (by rw [b50.cell (by first | omega | (simp; done) | (simp; omega))]; go_cell)
    have a2_50 : w50.cell? ⟨w.heap.size, 2, none⟩ = some (.int .i64 st) := (by rw [b50.cell (by first | omega | (simp; done) | (simp; omega))]; go_cell)
    have a3_50 : w50.cell? ⟨w.heap.size, 3, none⟩ = some (.slice ro R.length rc) := (by rw [b50.cell (by first | omega | (simp; done) | (simp; omega))]; go_cell)
    have a4_50 : w50.cell? ⟨w.heap.size, 4, none⟩ = some (v1) := (by rw [b50.cell (by first | omega | (simp; done) | (simp; omega))]; go_cell)
    have a5_50 : w50.cell? ⟨w.heap.size, 5, none⟩ = some (v2) := (by rw [b50.cell (by first | omega | (simp; done) | (simp; omega))]; go_cell)
    have a6_50 : w50.cell? ⟨w.heap.size, 6, none⟩ = some (v3) := (by rw [b50.cell (by first | omega | (simp; done) | (simp; omega))]; go_cell)
    have a7_50 : w50.cell? ⟨w.heap.size, 7, none⟩ = some (.slice lo Lg.length lc) := (by rw [b50.cell (by first | omega | (simp; done) | (simp; omega))]; go_cell)
    have al_50 : w.heap.size < w50.heap.size := (by have := b50.size; first | omega | (revert this; simp; done) | (revert this; simp; omega))
    clear a0_1 a1_1 a2_1 a3_1 a4_1 a5_1 a6_1 a7_1 al_1
    clear b50 d50
    by_cases hlt : k < Lg.length
    · obtain ⟨b, o, rfl, hb, hcc⟩ := HC.out (by omega)
      obtain ⟨key, p1, nm, l, u, hx, e0, e1, e2, e3, hu⟩ := atK_3k ((hcc k hlt).later hb c50)
      have HU := hid hu
      have HNO : Hid (¬ (partOf key = p ∧ okV key nm l = true) → logB p R Lg = false) := hid (fun q => logB_no hlt (fun z => q ⟨by have := z.1; rwa [hx] at this, by have := z.2.1; rwa [colK, hx] at this⟩))
      have HMORE : Hid (partOf key = p → okV key nm l = true → ∀ i, i < k + 1 → partOf (keyK (Lg.getD i kd0)) = p ∧ okV (keyK (Lg.getD i kd0)) (colK Lg i 2) (Lg.getD i kd0).2 = true) := hid (fun h1 h2 i hi => by
        by_cases e : i = k
        · subst e
          rw [colK, hx]
          exact ⟨h1, h2⟩
        · exact hpre.out i (by omega))
      obtain ⟨uo, uc, rfl, _⟩ := hu
      have hki : (k : Int) < (Lg.length : Int) := by omega
      have HLT := hid hlt
      have HB1 := hid hbel.out
      clear hx hcc hlt hpre hbel
      go_upto_region 6 with fail
      generalize hW51 : (w50.alloc (.cells #[.int .i64 key, .int .i64 p1, .int .i64 nm, .slice uo l.length uc] 70)) = w51
      have m0_51 : w51.cell? ⟨w50.heap.size, 0, none⟩ = some (.int .i64 key) := by subst hW51; go_cell
      have m1_51 : w51.cell? ⟨w50.heap.size, 1, none⟩ = some (.int .i64 p1) := by subst hW51; go_cell
      have m2_51 : w51.cell? ⟨w50.heap.size, 2, none⟩ = some (.int .i64 nm) := by subst hW51; go_cell
      have m3_51 : w51.cell? ⟨w50.heap.size, 3, none⟩ = some (.slice uo l.length uc) := by subst hW51; go_cell
      have ml_51 : w50.heap.size < w51.heap.size := by subst hW51; simp
      have d51 : Below w50.heap.size w50 w51 := by subst hW51; go_grown
      clear hW51
      have c51 : Below w.heap.size w w51 := c50.trans (d51.mono c50.size)
      have a0_51 : w51.cell? ⟨w.heap.size, 0, none⟩ = some (.int .i64 p) := (by rw [d51.cell (by first | omega | (simp; done) | (simp; omega))]; go_cell)
      have a1_51 : w51.cell? ⟨w.heap.size, 1, none⟩ = some (.int .i64 f) := (by rw [d51.cell (by first | omega | (simp; done) | (simp; omega))]; go_cell)
      have a2_51 : w51.cell? ⟨w.heap.size, 2, none⟩ = some (.int .i64 st) := (by rw [d51.cell (by first | omega | (simp; done) | (simp; omega))]; go_cell)
      have a3_51 : w51.cell? ⟨w.heap.size, 3, none⟩ = some (.slice ro R.length rc) := (by rw [d51.cell (by first | omega | (simp; done) | (simp; omega))]; go_cell)
      have a4_51 : w51.cell? ⟨w.heap.size, 4, none⟩ = some (v1) := (by rw [d51.cell (by first | omega | (simp; done) | (simp; omega))]; go_cell)
      have a5_51 : w51.cell? ⟨w.heap.size, 5, none⟩ = some (v2) := (by rw [d51.cell (by first | omega | (simp; done) | (simp; omega))]; go_cell)
      have a6_51 : w51.cell? ⟨w.heap.size, 6, none⟩ = some (v3) := (by rw [d51.cell (by first | omega | (simp; done) | (simp; omega))]; go_cell)
      have a7_51 : w51.cell? ⟨w.heap.size, 7, none⟩ = some (.slice (some ⟨b, o, none⟩) Lg.length lc) := (by rw [d51.cell (by first | omega | (simp; done) | (simp; omega))]; go_cell)
      have al_51 : w.heap.size < w51.heap.size := (by have := d51.size; omega)
      clear a0_50 a1_50 a2_50 a3_50 a4_50 a5_50 a6_50 a7_50 al_50
      have HD51 := hid d51
      have HU51 := hid (HU.out.later d51)
      clear e0 e1 e2 e3 a1_51 a2_51 a3_51 a4_51 a5_51 a6_51 a7_51
      have ra0 := cell_regrown a0_51
      have rm0 := cell_regrown m0_51
      have rm2 := cell_regrown m2_51
      have rm3 := cell_regrown m3_51
      have OV := fun (W : World) (h : Rd W (.slice uo l.length uc) l) => implOkV_any key nm _ l W h
      by_cases h0 : partOf key = p
      case neg =>
        have g0 : (partOf key != p) = true := by simpa using h0
        have hno := HNO.out (fun q => h0 q.1)
        refine wp_region_quiet_below (by kernel_rfl) (by kernel_rfl) ?_
        repeat (first | go_big_quiet_skip | (go_big_quiet_want; go_big_quiet_op; first | go_big_quiet_on | go_big_quiet_call (first | (go_at_call 46; exact Calls.regrown_of ((implShard_any _ _).mono fun _ _ h => ⟨h.1, by rw [h.2]; exact Below.refl _ _⟩)))))
        refine wpQuiet_nil ?_
        rintro wq ⟨pq, hwq⟩
        have hq : Below w51.heap.size w51 wq := by rw [hwq]; exact below_regrown _ _ _
        clear hwq pq
        have cq := c51.trans (hq.mono c51.size)
        go_wp2
        go_ret
        exact ⟨by simp [hno], cq⟩
      have g0 : (partOf key != p) = false := by simpa using h0
      cases hv : okV key nm l with
      | false =>
        have hno := HNO.out (fun q => by rw [hv] at q; cases q.2)
        rw [hv] at OV
        clear hv
        refine wp_region_quiet_below (by kernel_rfl) (by kernel_rfl) ?_
        repeat (first | go_big_quiet_skip | (go_big_quiet_want; go_big_quiet_op; first | go_big_quiet_on | go_big_quiet_call (first | (go_at_call 46; exact Calls.regrown_of ((implShard_any _ _).mono fun _ _ h => ⟨h.1, by rw [h.2]; exact Below.refl _ _⟩)) | (go_at_call 47; exact Calls.regrown_of (OV _ (HU51.out.later (below_regrown _ _ _)))))))
        refine wpQuiet_nil ?_
        rintro wq ⟨pq, hwq⟩
        have hq : Below w51.heap.size w51 wq := by rw [hwq]; exact below_regrown _ _ _
        clear hwq pq
        have cq := c51.trans (hq.mono c51.size)
        go_wp2
        go_ret
        exact ⟨by simp [hno], cq⟩
      | true =>
        have HM := hid (HMORE.out h0 hv)
        rw [hv] at OV
        clear hv
        refine wp_region_quiet_below (by kernel_rfl) (by kernel_rfl) ?_
        repeat (first | go_big_quiet_skip | (go_big_quiet_want; go_big_quiet_op; first | go_big_quiet_on | go_big_quiet_call (first | (go_at_call 46; exact Calls.regrown_of ((implShard_any _ _).mono fun _ _ h => ⟨h.1, by rw [h.2]; exact Below.refl _ _⟩)) | (go_at_call 47; exact Calls.regrown_of (OV _ (HU51.out.later (below_regrown _ _ _)))))))
        refine wpQuiet_nil ?_
        rintro wq ⟨pq, hwq⟩
        have hq : Below w51.heap.size w51 wq := by rw [hwq]; exact below_regrown _ _ _
        clear hwq pq
        have HQ := hid (HB1.out.trans ((HD51.out.trans (hq.mono HD51.out.size)).mono HB1.out.size))
        go_wp2_with fail
        go_roundw
        case rel => exact ⟨k + 1, by have := HLT.out; omega, by go_num, HM, HQ⟩
        case measure =>
          have := HLT.out
          simp [intOf]
          omega
    · obtain rfl : k = Lg.length := by omega
      have HIS := hid (logB_is (R := R) H3.out h60 hpre.out)
      have hle : ∀ i, i < Lg.length → (Lg.getD i kd0).2.length ≤ 1099511627776 := fun i hi => Nat.le_trans (okV_le (hpre.out i hi).2) (by decide)
      have HLE := hid hle
      have HB1 := hid hbel.out
      clear hle hpre hbel hlt
      go_wp2_with fail
      refine (writtenAnew_any _ Lg _ (HL.out.later c50) (by omega) HLE.out).mono ?_
      rintro e w60 ⟨K, rb, db, sb, lv, us, xs, ts, rfl, hT, b60⟩
      have d60 : Below w50.heap.size w50 w60 := (Below.trans (by go_grown) (b60.mono (by first | omega | (simp; done) | (simp; omega))))
      have c60 : Below w.heap.size w w60 := c50.trans (d60.mono c50.size)
      have a0_60 : w60.cell? ⟨w.heap.size, 0, none⟩ = some (.int .i64 p) := (by rw [b60.cell (by first | omega | (simp; done) | (simp; omega))]; go_cell)
      have a1_60 : w60.cell? ⟨w.heap.size, 1, none⟩ = some (.int .i64 f) := (by rw [b60.cell (by first | omega | (simp; done) | (simp; omega))]; go_cell)
      have a2_60 : w60.cell? ⟨w.heap.size, 2, none⟩ = some (.int .i64 st) := (by rw [b60.cell (by first | omega | (simp; done) | (simp; omega))]; go_cell)
      have a3_60 : w60.cell? ⟨w.heap.size, 3, none⟩ = some (.slice ro R.length rc) := (by rw [b60.cell (by first | omega | (simp; done) | (simp; omega))]; go_cell)
      have a4_60 : w60.cell? ⟨w.heap.size, 4, none⟩ = some (v1) := (by rw [b60.cell (by first | omega | (simp; done) | (simp; omega))]; go_cell)
      have a5_60 : w60.cell? ⟨w.heap.size, 5, none⟩ = some (v2) := (by rw [b60.cell (by first | omega | (simp; done) | (simp; omega))]; go_cell)
      have a6_60 : w60.cell? ⟨w.heap.size, 6, none⟩ = some (v3) := (by rw [b60.cell (by first | omega | (simp; done) | (simp; omega))]; go_cell)
      have a7_60 : w60.cell? ⟨w.heap.size, 7, none⟩ = some (.slice lo Lg.length lc) := (by rw [b60.cell (by first | omega | (simp; done) | (simp; omega))]; go_cell)
      have al_60 : w.heap.size < w60.heap.size := (by have := b60.size; first | omega | (revert this; simp; done) | (revert this; simp; omega))
      clear a0_50 a1_50 a2_50 a3_50 a4_50 a5_50 a6_50 a7_50 al_50
      have HT := hid hT
      have k7 := hT.var.c7
      obtain ⟨no, nc, hlv, _⟩ := hT.log
      subst hlv
      clear b60 d60 hT
      go_upto_region 10 with fail
      have HL60 := hid (HL.out.later c60)
      have HR60 := hid (HR.out.later c60)
      have HTL := hid HT.out.log
      have hKl := HT.out.var.lt
      cases he : eqM Lg (newLog Lg Lg.length) with
      | false =>
        have hno : logB p R Lg = false := by rw [HIS.out, he, Bool.false_and]
        have HE := hid he
        have rk7 := cell_regrown k7
        have ra3 := cell_regrown a3_60
        have ra7 := cell_regrown a7_60
        clear he
        refine wp_region_quiet_below (by kernel_rfl) (by kernel_rfl) ?_
        repeat (first | go_big_quiet_skip | (go_big_quiet_want; go_big_quiet_op; first | go_big_quiet_on | go_big_quiet_call (first | (go_at_call 49; exact Calls.regrown_of (equalCommits_is HE.out (HL60.out.later (below_regrown _ _ _)) (HTL.out.later (below_regrown _ _ _)))))))
        refine wpQuiet_nil ?_
        rintro wq ⟨pq, hwq⟩
        have hq : Below w60.heap.size w60 wq := by rw [hwq]; exact below_regrown _ _ _
        clear hwq pq
        have cq := c60.trans (hq.mono c60.size)
        go_wp2
        go_ret
        exact ⟨by simp [hno], cq⟩
      | true =>
        obtain ⟨r2, hr2⟩ : ∃ z, eqM R (newRows Lg) = z := ⟨_, rfl⟩
        have hyes : logB p R Lg = r2 := by rw [HIS.out, he, hr2, Bool.true_and]
        have HE := hid he
        have HE2 := hid hr2
        clear he hr2
        have S60 := hid (And.intro a3_60 (And.intro a7_60 k7))
        go_region_held3 (fun w' => w'.cell? ⟨w.heap.size, 3, none⟩ = some (.slice ro R.length rc) ∧ w'.cell? ⟨w.heap.size, 7, none⟩ = some (.slice lo Lg.length lc) ∧ w'.cell? ⟨K, 7, none⟩ = some (.slice no (newLog Lg Lg.length).length nc)) (go_keep) (first
          | (go_at_call 49; refine (equalCommits_is HE.out (HL60.out.later (by go_grown)) (HTL.out.later (by go_grown))).mono ?_; rintro e w61 ⟨rfl, b61⟩; have d61 : Below w60.heap.size w60 w61 := (Below.trans (by go_grown) (b61.mono (by first | omega | (simp; done) | (simp; omega)))); have c61 : Below w.heap.size w w61 := c60.trans (d61.mono c60.size); have a0_61 : w61.cell? ⟨w.heap.size, 0, none⟩ = some (.int .i64 p) := (by rw [b61.cell (by first | omega | (simp; done) | (simp; omega))]; go_cell); have a1_61 : w61.cell? ⟨w.heap.size, 1, none⟩ = some (.int .i64 f) := (by rw [b61.cell (by first | omega | (simp; done) | (simp; omega))]; go_cell); have a2_61 : w61.cell? ⟨w.heap.size, 2, none⟩ = some (.int .i64 st) := (by rw [b61.cell (by first | omega | (simp; done) | (simp; omega))]; go_cell); have a3_61 : w61.cell? ⟨w.heap.size, 3, none⟩ = some (.slice ro R.length rc) := (by rw [b61.cell (by first | omega | (simp; done) | (simp; omega))]; go_cell); have a4_61 : w61.cell? ⟨w.heap.size, 4, none⟩ = some (v1) := (by rw [b61.cell (by first | omega | (simp; done) | (simp; omega))]; go_cell); have a5_61 : w61.cell? ⟨w.heap.size, 5, none⟩ = some (v2) := (by rw [b61.cell (by first | omega | (simp; done) | (simp; omega))]; go_cell); have a6_61 : w61.cell? ⟨w.heap.size, 6, none⟩ = some (v3) := (by rw [b61.cell (by first | omega | (simp; done) | (simp; omega))]; go_cell); have a7_61 : w61.cell? ⟨w.heap.size, 7, none⟩ = some (.slice lo Lg.length lc) := (by rw [b61.cell (by first | omega | (simp; done) | (simp; omega))]; go_cell); have al_61 : w.heap.size < w61.heap.size := (by have := b61.size; first | omega | (revert this; simp; done) | (revert this; simp; omega)); clear a0_60 a1_60 a2_60 a3_60 a4_60 a5_60 a6_60 a7_60 al_60; have k7_61 := (d61.cell (p := ⟨K, 7, none⟩) hKl).trans k7; have HT61 := hid (HT.out.later d61))
          | (go_at_call 52; refine (toldRows_any _ _ K rb _ _ _ _ _ _ _ _ _ _ _ _ _ HT61.out (fun q => newAt_len Lg _ q)).mono ?_; rintro e w62 ⟨⟨rv, rfl, hrd⟩, b62⟩; have d62 : Below w61.heap.size w61 w62 := (Below.trans (by go_grown) (b62.mono (by first | omega | (simp; done) | (simp; omega)))); have c62 : Below w.heap.size w w62 := c61.trans (d62.mono c61.size); have a0_62 : w62.cell? ⟨w.heap.size, 0, none⟩ = some (.int .i64 p) := (by rw [b62.cell (by first | omega | (simp; done) | (simp; omega))]; go_cell); have a1_62 : w62.cell? ⟨w.heap.size, 1, none⟩ = some (.int .i64 f) := (by rw [b62.cell (by first | omega | (simp; done) | (simp; omega))]; go_cell); have a2_62 : w62.cell? ⟨w.heap.size, 2, none⟩ = some (.int .i64 st) := (by rw [b62.cell (by first | omega | (simp; done) | (simp; omega))]; go_cell); have a3_62 : w62.cell? ⟨w.heap.size, 3, none⟩ = some (.slice ro R.length rc) := (by rw [b62.cell (by first | omega | (simp; done) | (simp; omega))]; go_cell); have a4_62 : w62.cell? ⟨w.heap.size, 4, none⟩ = some (v1) := (by rw [b62.cell (by first | omega | (simp; done) | (simp; omega))]; go_cell); have a5_62 : w62.cell? ⟨w.heap.size, 5, none⟩ = some (v2) := (by rw [b62.cell (by first | omega | (simp; done) | (simp; omega))]; go_cell); have a6_62 : w62.cell? ⟨w.heap.size, 6, none⟩ = some (v3) := (by rw [b62.cell (by first | omega | (simp; done) | (simp; omega))]; go_cell); have a7_62 : w62.cell? ⟨w.heap.size, 7, none⟩ = some (.slice lo Lg.length lc) := (by rw [b62.cell (by first | omega | (simp; done) | (simp; omega))]; go_cell); have al_62 : w.heap.size < w62.heap.size := (by have := b62.size; first | omega | (revert this; simp; done) | (revert this; simp; omega)); clear a0_61 a1_61 a2_61 a3_61 a4_61 a5_61 a6_61 a7_61 al_61; have k7_62 := (d62.cell (p := ⟨K, 7, none⟩) (Nat.lt_of_lt_of_le hKl d61.size)).trans k7_61; have HRR := hid hrd; have HR62 := hid ((HR60.out.later d61).later d62); obtain ⟨rro, rrc, hrv, _⟩ := hrd; subst hrv)
          | (go_at_call 51; refine (equalRows_is (lb := newRows Lg) HE2.out (HR62.out.later (by go_grown)) (HRR.out.later (by go_grown))).mono ?_; rintro e w63 ⟨rfl, b63⟩; have d63 : Below w62.heap.size w62 w63 := (Below.trans (by go_grown) (b63.mono (by first | omega | (simp; done) | (simp; omega)))); have c63 : Below w.heap.size w w63 := c62.trans (d63.mono c62.size); have a0_63 : w63.cell? ⟨w.heap.size, 0, none⟩ = some (.int .i64 p) := (by rw [b63.cell (by first | omega | (simp; done) | (simp; omega))]; go_cell); have a1_63 : w63.cell? ⟨w.heap.size, 1, none⟩ = some (.int .i64 f) := (by rw [b63.cell (by first | omega | (simp; done) | (simp; omega))]; go_cell); have a2_63 : w63.cell? ⟨w.heap.size, 2, none⟩ = some (.int .i64 st) := (by rw [b63.cell (by first | omega | (simp; done) | (simp; omega))]; go_cell); have a3_63 : w63.cell? ⟨w.heap.size, 3, none⟩ = some (.slice ro R.length rc) := (by rw [b63.cell (by first | omega | (simp; done) | (simp; omega))]; go_cell); have a4_63 : w63.cell? ⟨w.heap.size, 4, none⟩ = some (v1) := (by rw [b63.cell (by first | omega | (simp; done) | (simp; omega))]; go_cell); have a5_63 : w63.cell? ⟨w.heap.size, 5, none⟩ = some (v2) := (by rw [b63.cell (by first | omega | (simp; done) | (simp; omega))]; go_cell); have a6_63 : w63.cell? ⟨w.heap.size, 6, none⟩ = some (v3) := (by rw [b63.cell (by first | omega | (simp; done) | (simp; omega))]; go_cell); have a7_63 : w63.cell? ⟨w.heap.size, 7, none⟩ = some (.slice lo Lg.length lc) := (by rw [b63.cell (by first | omega | (simp; done) | (simp; omega))]; go_cell); have al_63 : w.heap.size < w63.heap.size := (by have := b63.size; first | omega | (revert this; simp; done) | (revert this; simp; omega)); clear a0_62 a1_62 a2_62 a3_62 a4_62 a5_62 a6_62 a7_62 al_62; have k7_63 := (d63.cell (p := ⟨K, 7, none⟩) (Nat.lt_of_lt_of_le hKl (Nat.le_trans d61.size d62.size))).trans k7_62))
        all_goals
          go_wp2
          go_ret
          exact ⟨by simp [hyes], c63⟩
end Go.Proofs.YtadjajappnhipaaGreat
