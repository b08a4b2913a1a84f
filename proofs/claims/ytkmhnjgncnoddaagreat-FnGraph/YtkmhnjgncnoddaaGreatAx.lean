/- spec.GraphOk: contract. -/
import Derived.Test.YtkmhnjgncnoddaaGreatAu
import Derived.Test.YtkmhnjgncnoddaaGreatHas
import Derived.Test.YtkmhnjgncnoddaaGreatKm
namespace Go.Proofs.YtkmhnjgncnoddaaGreat
open Go.RowKit
attribute [local go_sem ↓] Go.wp_at_zero Go.wp_at_succ

def formG (L : List ValD) : Bool := decide (L.length = 24) && rightG L
theorem formG_len {L : List ValD} (h : L.length ≠ 24) : formG L = false := by simp [formG, h]
theorem formG_yes {L : List ValD} (hl : L.length = 24) : formG L = rightG L := by simp [formG, hl]
theorem okG_form (L : List ValD) : okG L = (formG L && (endsG L 16 8 && endsG L 8 16)) := rfl

set_option maxRecDepth 100000 in
set_option maxHeartbeats 1000000 in
theorem l3Form_any (va : Value) (L : List ValD) (w : World) (h : RdG w va L) :
    Calls Tryz.prog 48 #[.agg #[va]] w fun e w' => e = .returned (.bool (formG L)) ∧ Below w.heap.size w w' := by
  obtain ⟨ao, cap, rfl, _, hc⟩ := h
  by_cases hl : L.length = 24
  · obtain ⟨b, off, rfl, hlt, hcc⟩ := hc (by omega)
    rw [hl] at hcc ⊢
    rw [formG_yes hl]
    have g1 : Below w.heap.size w (w.alloc (.cells #[.slice (some ⟨b, off, none⟩) 24 cap] 25)) := by go_grown
    have e0 : (w.alloc (.cells #[.slice (some ⟨b, off, none⟩) 24 cap] 25)).cell? ⟨w.heap.size, 0, none⟩ = some (.slice (some ⟨b, off, none⟩) 24 cap) := by go_cell
    have z0 : w.heap.size < (w.alloc (.cells #[.slice (some ⟨b, off, none⟩) 24 cap] 25)).heap.size := by simp
    have hcc := hid hcc
    clear hc
    go_enter Tryz.func48, Tryz.ntmps48
    go_wp2_with fail
    generalize w.alloc (.cells #[.slice (some ⟨b, off, none⟩) 24 cap] 25) = w1 at *
    go_loopw [3] (fun i wr => ∃ k : Nat, k ≤ 24 ∧ i = .int .i64 k ∧ Hid (RightTo L k) ∧ Below w1.heap.size w1 wr) (fun i _ => 24 - (intOf i).toNat)
    case atStart => exact ⟨0, Nat.zero_le _, rfl, RightTo.zero L, Below.refl _ _⟩
    case round =>
      obtain ⟨k, hk, rfl, hpre, hbel⟩ := hrel
      by_cases hlt' : k < 24
      · obtain ⟨h0, u, h1, hr⟩ := hcc.out k hlt'
        have g2 := g1.trans (hbel.mono g1.size)
        rw [← g2.cell (p := ⟨b, off + k * 2, none⟩) hlt] at h0
        rw [← g2.cell (p := ⟨b, off + k * 2 + 1, none⟩) hlt] at h1
        have e1 := (hbel.cell (p := ⟨w.heap.size, 0, none⟩) z0).trans e0
        have HR := hid (hr.later g2)
        obtain ⟨uo, uc, rfl, _⟩ := id hr
        have hyes : Hid (okV (k : Int) (L.getD k valD0).1 (L.getD k valD0).2 = true → RightTo L (k + 1)) := hid (fun h => hpre.out.step h)
        have hno : Hid (okV (k : Int) (L.getD k valD0).1 (L.getD k valD0).2 = false → rightG L = false) := hid (fun h => rightG_no k hlt' h)
        have hsz := hbel.size
        clear hpre g2 hr
        generalize L.getD k valD0 = x at *
        go_wp2_with fail
        refine (specOkV_any (k : Int) x.1 _ x.2 _ (HR.out.later (by go_grown))).mono ?_
        rintro e w2 ⟨rfl, b2⟩
        have c2 := hid (hbel.trans ((show Below wr.heap.size wr w2 from (Below.trans (by go_grown) (b2.mono (by first | omega | (simp; done) | (simp; omega))))).mono hsz))
        clear b2
        cases hok : okV (k : Int) x.1 x.2 with
        | true =>
          have hN := hid (hyes.out hok)
          go_wp2
          go_roundw
          case rel => exact ⟨k + 1, by omega, by go_num, hN, c2⟩
          case measure => simp [intOf]; omega
        | false =>
          have hN := hno.out hok
          go_wp2
          go_ret
          exact ⟨by simp [hN], g1.trans (c2.out.mono g1.size)⟩
      · have hk24 : k = 24 := by omega
        subst hk24
        have hall : rightG L = true := rightG_iff.2 hpre.out
        go_wp2
        go_ret
        exact ⟨by simp [hall], g1.trans (hbel.mono g1.size)⟩
  · rw [formG_len hl]
    have hlI : ((L.length : Int) != 24) = true := by simp; omega
    go_enter Tryz.func48, Tryz.ntmps48
    go_wp2
    go_ret
    exact ⟨by simp, by go_grown⟩

theorem EndsTo.step {L : List ValD} {p q a : Nat} (h : EndsTo L p q a) (hr : ∀ i, i < (L.getD (p + a) valD0).2.length →
    hasL (L.getD (q + ((L.getD (p + a) valD0).2.getD i (0, 0)).1.toNat) valD0).2 (a : Int) = (((L.getD (p + a) valD0).2.getD i (0, 0)).2, true)) : EndsTo L p q (a + 1) := fun j hj => by
  rcases Nat.lt_succ_iff_lt_or_eq.1 hj with hj | rfl
  · exact h j hj
  · exact hr
theorem endsG_no {L : List ValD} {p q a i : Nat} (ha : a < 8) (hi : i < (L.getD (p + a) valD0).2.length)
    (hn : ¬ hasL (L.getD (q + ((L.getD (p + a) valD0).2.getD i (0, 0)).1.toNat) valD0).2 (a : Int) = (((L.getD (p + a) valD0).2.getD i (0, 0)).2, true)) : endsG L p q = false := by
  rw [Bool.eq_false_iff]
  intro e
  exact hn (endsG_iff.1 e a ha i hi)
theorem make_at (kk : Int) (p : Nat) (hk : ∀ a : Int, 0 ≤ a → a < 8 → keyOf kk a = (p : Int) + a) (a : Nat) (ha : a < 8) (w : World) :
    Calls Tryz.prog 101 #[.int .i64 kk, .int .i64 (a : Int)] w fun e w' => e = .returned (.int .i64 ((p + a : Nat) : Int)) ∧ Below w.heap.size w w' := by
  refine (specMake_any kk (a : Int) w).mono ?_
  rintro e w1 ⟨rfl, rfl⟩
  refine ⟨?_, Below.refl _ _⟩
  rw [hk _ (by omega) (by omega)]
  congr 2
theorem make_to (kk : Int) (q : Nat) (hk : ∀ a : Int, 0 ≤ a → a < 8 → keyOf kk a = (q : Int) + a) (who : Int) (h0 : 0 ≤ who) (h1 : who < 8) (w : World) :
    Calls Tryz.prog 101 #[.int .i64 kk, .int .i64 who] w fun e w' => e = .returned (.int .i64 ((q + who.toNat : Nat) : Int)) ∧ Below w.heap.size w w' := by
  refine (specMake_any kk who w).mono ?_
  rintro e w1 ⟨rfl, rfl⟩
  refine ⟨?_, Below.refl _ _⟩
  rw [hk _ h0 h1]
  congr 2
  omega
theorem has_at (v : Value) (l : List (Int × Int)) (who : Int) (w : World) (h : Rd w v l) :
    Calls Tryz.prog 108 #[v, .int .i64 who] w fun e w' => e = .returned (.tuple #[.int .i64 (hasL l who).1, .bool (hasL l who).2]) ∧ Below w.heap.size w w' :=
  (specHas_any v l who w h).mono fun _ _ ⟨he, hw⟩ => ⟨he, hw ▸ Below.refl _ _⟩

set_option maxRecDepth 100000 in
set_option maxHeartbeats 2000000 in
theorem l3Ends_any (b off cap : Nat) (L : List ValD) (w : World) (kk oo : Int) (p q : Nat) (hlt : b < w.heap.size)
    (hcc : ∀ i, i < 24 → w.cell? ⟨b, off + i * 2, none⟩ = some (.int .i64 (L.getD i valD0).1) ∧ ∃ u, w.cell? ⟨b, off + i * 2 + 1, none⟩ = some u ∧ Rd w u (L.getD i valD0).2)
    (hR : RightTo L 24) (hp : p + 8 ≤ 24) (hq : q + 8 ≤ 24)
    (hk : ∀ a : Int, 0 ≤ a → a < 8 → keyOf kk a = (p : Int) + a) (ho : ∀ a : Int, 0 ≤ a → a < 8 → keyOf oo a = (q : Int) + a) :
    Calls Tryz.prog 49 #[.agg #[.slice (some ⟨b, off, none⟩) 24 cap], .int .i64 kk, .int .i64 oo] w fun e w' => e = .returned (.bool (endsG L p q)) ∧ Below w.heap.size w w' := by
  have g1 : Below w.heap.size w (w.alloc (.cells #[.slice (some ⟨b, off, none⟩) 24 cap] 25)) := by go_grown
  have e0 : (w.alloc (.cells #[.slice (some ⟨b, off, none⟩) 24 cap] 25)).cell? ⟨w.heap.size, 0, none⟩ = some (.slice (some ⟨b, off, none⟩) 24 cap) := by go_cell
  have z0 : w.heap.size < (w.alloc (.cells #[.slice (some ⟨b, off, none⟩) 24 cap] 25)).heap.size := by simp
  have hcc := hid hcc
  have hR := hid hR
  have hk := hid hk
  have ho := hid ho
  go_enter Tryz.func49, Tryz.ntmps49
  go_wp2_with fail
  generalize w.alloc (.cells #[.slice (some ⟨b, off, none⟩) 24 cap] 25) = w1 at *
  go_loopw [7] (fun i wr => ∃ a : Nat, a ≤ 8 ∧ i = .int .i64 a ∧ Hid (EndsTo L p q a) ∧ Below w1.heap.size w1 wr) (fun i _ => 8 - (intOf i).toNat)
  case atStart => exact ⟨0, Nat.zero_le _, rfl, fun _ h => absurd h (Nat.not_lt_zero _), Below.refl _ _⟩
  case round =>
    obtain ⟨a, ha, rfl, hpre, hbel⟩ := hrel
    by_cases hlt' : a < 8
    · obtain ⟨_, u, h1, hr⟩ := hcc.out (p + a) (by omega)
      have g2 := g1.trans (hbel.mono g1.size)
      rw [← g2.cell (p := ⟨b, off + (p + a) * 2 + 1, none⟩) hlt] at h1
      have e1 := (hbel.cell (p := ⟨w.heap.size, 0, none⟩) z0).trans e0
      have HR := hid hr
      obtain ⟨uo, uc, rfl, hul, _⟩ := id hr
      unfold maxLen at hul
      have hltI : (a : Int) < 8 := by omega
      have hcm := fun W => make_at kk p hk.out a hlt' W
      have hyes : Hid ((∀ i, i < (L.getD (p + a) valD0).2.length → hasL (L.getD (q + ((L.getD (p + a) valD0).2.getD i (0, 0)).1.toNat) valD0).2 (a : Int) = (((L.getD (p + a) valD0).2.getD i (0, 0)).2, true)) → EndsTo L p q (a + 1)) := hid (fun h => hpre.out.step h)
      have hno : Hid (∀ i, i < (L.getD (p + a) valD0).2.length → ¬ hasL (L.getD (q + ((L.getD (p + a) valD0).2.getD i (0, 0)).1.toNat) valD0).2 (a : Int) = (((L.getD (p + a) valD0).2.getD i (0, 0)).2, true) → endsG L p q = false) := hid (fun i hi hn => endsG_no hlt' hi hn)
      have hok := hid (hR.out.ok (k := p + a) (by omega))
      have hsz := hbel.size
      obtain ⟨r, hr'⟩ : ∃ r, p + a = r := ⟨_, rfl⟩
      have hr24 : r < 24 := by omega
      rw [hr'] at h1 HR hyes hno hok hcm hul
      clear hpre g2 hr hr'
      generalize (L.getD r valD0).2 = x at *
      go_upto_region 4 with fail
      have q1 := cell_regrown e1
      have q2 := cell_regrown h1
      refine wp_region_quiet_below (by kernel_rfl) (by kernel_rfl) ?_
      repeat (first | go_big_quiet_skip | (go_big_quiet_want; go_big_quiet_op; first | go_big_quiet_on | go_big_quiet_call (first | (go_at_call 101; exact Calls.regrown_of (hcm _)))))
      refine wpQuiet_nil ?_
      rintro wq ⟨pq, hwq⟩
      have hq : Below wr.heap.size wr wq := by rw [hwq]; exact below_regrown _ _ _
      clear hwq pq
      have hb2 := hid (hbel.trans (hq.mono hsz))
      clear hq q1 q2 hbel hsz hcm
      generalize wq = w2 at *
      go_wp2_with fail
      go_loopw [9] (fun i wr => ∃ j : Nat, j ≤ x.length ∧ i = .int .i64 j ∧ Hid (∀ i, i < j → hasL (L.getD (q + (x.getD i (0, 0)).1.toNat) valD0).2 (a : Int) = ((x.getD i (0, 0)).2, true)) ∧ Below w1.heap.size w1 wr) (fun i _ => x.length - (intOf i).toNat)
      case atStart => exact ⟨0, Nat.zero_le _, rfl, fun _ h => absurd h (Nat.not_lt_zero _), hb2.out⟩
      case round =>
        clear hb2
        obtain ⟨j, hj, rfl, hpre, hbel⟩ := hrel
        by_cases hjl : j < x.length
        · have g2 := g1.trans (hbel.mono g1.size)
          obtain ⟨ao', cap', hv', _, hc⟩ := HR.out
          obtain ⟨b2, off2, hao, hbl, hcx⟩ := hc (by omega)
          obtain ⟨c0, c1⟩ := hcx j hjl
          have hau : uo = some ⟨b2, off2, none⟩ := by cases hv'; exact hao
          subst hau
          rw [← g2.cell (p := ⟨b2, off2 + j * 2, none⟩) hbl] at c0
          rw [← g2.cell (p := ⟨b2, off2 + j * 2 + 1, none⟩) hbl] at c1
          have hrb := rightB_iff.1 (okL_mem hok.out (getD_mem hjl))
          have hnext : Hid (hasL (L.getD (q + (x.getD j (0, 0)).1.toNat) valD0).2 (a : Int) = ((x.getD j (0, 0)).2, true) → ∀ i, i < j + 1 → hasL (L.getD (q + (x.getD i (0, 0)).1.toNat) valD0).2 (a : Int) = ((x.getD i (0, 0)).2, true)) := hid (fun h i hi => by
            rcases Nat.lt_succ_iff_lt_or_eq.1 hi with hi | rfl
            · exact hpre.out i hi
            · exact h)
          have hbad := hid (hno.out j hjl)
          obtain ⟨y, hy⟩ : ∃ y, x.getD j (0, 0) = y := ⟨_, rfl⟩
          rw [hy] at c0 c1 hrb hnext hbad
          obtain ⟨_, u2, h2, hr2⟩ := hcc.out (q + y.1.toNat) (by omega)
          rw [← g2.cell (p := ⟨b, off + (q + y.1.toNat) * 2 + 1, none⟩) hlt] at h2
          have hcm := fun W => make_to oo q ho.out y.1 hrb.1 hrb.2.1 W
          obtain ⟨J, hJ⟩ : ∃ J, q + y.1.toNat = J := ⟨_, rfl⟩
          have hJ24 : J < 24 := by omega
          have e1 := (hbel.cell (p := ⟨w.heap.size, 0, none⟩) z0).trans e0
          rw [hJ] at h2 hcm hr2 hnext hbad
          have HR2 := hid (hr2.later g2)
          obtain ⟨o2, c2, rfl, _⟩ := id hr2
          generalize (L.getD J valD0).2 = z at *
          have hch := fun (W : World) (h : Rd W (.slice o2 z.length c2) z) => has_at _ z (a : Int) W h
          have hsz := hbel.size
          clear hv' hc hcx hao hy hr2 hrb hJ hpre g2
          generalize hasL z (a : Int) = H at *
          have q1 := cell_regrown e1
          have q2 := cell_regrown h2
          have q3 := cell_regrown c0
          go_upto_region 8 with fail
          refine wp_region_quiet_below (by kernel_rfl) (by kernel_rfl) ?_
          repeat (first | go_big_quiet_skip | (go_big_quiet_want; go_big_quiet_op; first | go_big_quiet_on | go_big_quiet_call (first | (go_at_call 101; exact Calls.regrown_of (hcm _)) | (go_at_call 108; exact Calls.regrown_of (hch _ (HR2.out.later (below_regrown _ _ _)))))))
          refine wpQuiet_nil ?_
          rintro wq ⟨pq, hwq⟩
          have hq : Below wr.heap.size wr wq := by rw [hwq]; exact below_regrown _ _ _
          clear hwq pq
          have hb3 := hid (hbel.trans (hq.mono hsz))
          have c1' := (hq.cell (p := ⟨b2, off2 + j * 2 + 1, none⟩) (block_lt_of_cell c1)).trans c1
          clear hq q1 q2 q3 c0 c1 hcm hch HR2 hbel hsz e1 h2
          obtain ⟨at', has⟩ := H
          cases has with
          | true =>
            by_cases hat : at' = y.2
            · have hN := hid (hnext.out (by rw [hat]))
              have hne : (at' != y.2) = false := by simp [hat]
              go_wp2
              go_roundw
              case rel => exact ⟨j + 1, by omega, by go_num, hN, hb3.out⟩
              case measure => simp [intOf]; omega
            · have hN := hbad.out (fun e => hat (Prod.mk.inj e).1)
              have hne : (at' != y.2) = true := by simp [hat]
              go_wp2
              go_ret
              exact ⟨by simp [hN], g1.trans (hb3.out.mono g1.size)⟩
          | false =>
            have hN := hbad.out (fun e => by cases (Prod.mk.inj e).2)
            go_wp2
            go_ret
            exact ⟨by simp [hN], g1.trans (hb3.out.mono g1.size)⟩
        · have hjx : j = x.length := by omega
          subst hjx
          have hN := hid (hyes.out hpre.out)
          go_wp2
          go_roundw
          case rel => exact ⟨a + 1, by omega, by go_num, hN, hbel⟩
          case measure => simp [intOf]; omega
    · have ha8 : a = 8 := by omega
      subst ha8
      have hall : endsG L p q = true := endsG_iff.2 hpre.out
      go_wp2
      go_ret
      exact ⟨by simp [hall], g1.trans (hbel.mono g1.size)⟩

set_option maxRecDepth 100000 in
set_option maxHeartbeats 1000000 in
theorem specGOk_any (va : Value) (L : List ValD) (w : World) (h : RdG w va L) :
    Calls Tryz.prog 12 #[.agg #[va]] w fun e w' => e = .returned (.bool (okG L)) ∧ Below w.heap.size w w' := by
  have HR := hid h
  obtain ⟨ao, cap, rfl, _, hc⟩ := h
  rw [okG_form]
  have e0 : (w.alloc (.cells #[.slice ao L.length cap] 25)).cell? ⟨w.heap.size, 0, none⟩ = some (.slice ao L.length cap) := by go_cell
  have g1 : Below w.heap.size w (w.alloc (.cells #[.slice ao L.length cap] 25)) := by go_grown
  have z1 : w.heap.size < (w.alloc (.cells #[.slice ao L.length cap] 25)).heap.size := by simp
  go_enter Tryz.func12, Tryz.ntmps12
  cases hf : formG L with
  | false =>
    have CF := fun W (h : RdG W (.slice ao L.length cap) L) => l3Form_any _ L W h
    rw [hf] at CF
    go_wp2_with fail
    refine (CF _ (HR.out.later (by go_grown))).mono ?_
    rintro e w2 ⟨rfl, b2⟩
    have c2 : Below w.heap.size w w2 := (Below.trans (by go_grown) (b2.mono (by first | omega | (simp; done) | (simp; omega))))
    go_wp2
    go_ret
    exact ⟨by simp, c2⟩
  | true =>
    have CF := fun W (h : RdG W (.slice ao L.length cap) L) => l3Form_any _ L W h
    rw [hf] at CF
    have hl : L.length = 24 := by
      rcases Decidable.em (L.length = 24) with h | h
      · exact h
      · rw [formG_len h] at hf; cases hf
    have hR : RightTo L 24 := by rw [formG_yes hl] at hf; exact rightG_iff.1 hf
    obtain ⟨b, off, rfl, hlt, hcc⟩ := hc (by omega)
    rw [hl] at hcc CF HR e0 g1 z1 ⊢
    have hcc := hid hcc
    have hR := hid hR
    clear hc hf hl
    have CE := fun (W : World) (hb : Below w.heap.size w W) => l3Ends_any b off cap L W 2 1 16 8 (Nat.lt_of_lt_of_le hlt hb.size) (fun i hi => by
      obtain ⟨h0, u, h1, hr⟩ := hcc.out i hi
      exact ⟨(hb.cell (p := ⟨b, off + i * 2, none⟩) hlt).trans h0, u, (hb.cell (p := ⟨b, off + i * 2 + 1, none⟩) hlt).trans h1, hr.later hb⟩) hR.out (by omega) (by omega) (fun a h0 h1 => keyOf_in (by omega) (by omega) h0 h1) (fun a h0 h1 => keyOf_in (by omega) (by omega) h0 h1)
    have CF2 := fun (W : World) (hb : Below w.heap.size w W) => l3Ends_any b off cap L W 1 2 8 16 (Nat.lt_of_lt_of_le hlt hb.size) (fun i hi => by
      obtain ⟨h0, u, h1, hr⟩ := hcc.out i hi
      exact ⟨(hb.cell (p := ⟨b, off + i * 2, none⟩) hlt).trans h0, u, (hb.cell (p := ⟨b, off + i * 2 + 1, none⟩) hlt).trans h1, hr.later hb⟩) hR.out (by omega) (by omega) (fun a h0 h1 => keyOf_in (by omega) (by omega) h0 h1) (fun a h0 h1 => keyOf_in (by omega) (by omega) h0 h1)
    go_wp2_with fail
    refine (CF _ (HR.out.later g1)).mono ?_
    rintro e w2 ⟨rfl, b2⟩
    have c2 : Below w.heap.size w w2 := (Below.trans (by go_grown) (b2.mono (by first | omega | (simp; done) | (simp; omega))))
    have e2 := (b2.cell (p := ⟨w.heap.size, 0, none⟩) z1).trans e0
    have z2 : w.heap.size < w2.heap.size := Nat.lt_of_lt_of_le z1 b2.size
    clear b2
    cases h1 : endsG L 16 8 with
    | false =>
      rw [h1] at CE
      go_wp2_with fail
      refine (CE _ c2).mono ?_
      rintro e w3 ⟨rfl, b3⟩
      go_wp2
      go_ret
      exact ⟨by simp [h1], c2.trans (b3.mono c2.size)⟩
    | true =>
      rw [h1] at CE
      go_wp2_with fail
      refine (CE _ c2).mono ?_
      rintro e w3 ⟨rfl, b3⟩
      have c3 := c2.trans (b3.mono c2.size)
      have e3 := (b3.cell (p := ⟨w.heap.size, 0, none⟩) z2).trans e2
      clear e2 e0
      go_wp2_with fail
      refine (CF2 _ c3).mono ?_
      rintro e w4 ⟨rfl, b4⟩
      go_wp2
      go_ret
      exact ⟨by simp [h1], c3.trans (b4.mono c3.size)⟩
end Go.Proofs.YtkmhnjgncnoddaaGreat
