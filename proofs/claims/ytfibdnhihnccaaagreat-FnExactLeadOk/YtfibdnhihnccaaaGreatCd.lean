/- spec.CacheOk: contract. -/
import Derived.Test.YtfibdnhihnccaaaGreatCc
import Derived.Deep.RegionHeld3
import Derived.BigQuiet
namespace Go.Proofs.YtfibdnhihnccaaaGreat
open Go.RowKit
attribute [local go_sem ↓] Go.wp_at_zero Go.wp_at_succ

theorem FlrTo.next {F : List KD} {k : Nat} {p : Int} (h : FlrTo F k) (e : F.getD k kd0 = ([p], [])) (h0 : 0 ≤ p) (h1 : p ≤ 60) : FlrTo F (k + 1) := by
  intro j hj
  by_cases q : j = k
  · subst q
    rw [flr, e]
    exact verR_iff.2 ⟨h0, h1⟩
  · exact h j (by omega)
theorem FlrTo.not {F : List KD} {k n : Nat} {p : Int} (hk : k < n) (e : F.getD k kd0 = ([p], [])) (hp : ¬ (0 ≤ p ∧ p ≤ 60)) : ¬ FlrTo F n := by
  intro h
  have := h k hk
  rw [flr, e] at this
  exact hp (verR_iff.1 this)
set_option maxRecDepth 100000 in
set_option maxHeartbeats 8000000 in
theorem specCOk_any (v0 v1 : Value) (I F : List KD) (w : World) (h0 : RdM 4 3 true w v0 I) (h1 : RdM 1 1 false w v1 F) :
    Calls Tryz.prog 19 #[.agg #[v0, v1]] w fun e w' => e = .returned (.bool (okC I F)) ∧ Below w.heap.size w w' := by
  obtain ⟨ai, ci, rfl, hli, hci⟩ := h0
  obtain ⟨af, cf, rfl, hlf, hcf⟩ := h1
  unfold maxLen at hli hlf
  by_cases hF : F.length = 24
  case neg =>
    have hno : okC I F = false := okC_no (fun h => hF h.1)
    have hne : ((F.length : Int) != 24) = true := by simp; omega
    go_enter Tryz.func19, Tryz.ntmps19
    go_wp2
    go_ret
    exact ⟨by simp [hno], by go_grown⟩
  have HF := hid hF
  have hnF : ((F.length : Int) != 24) = false := by simp [hF]
  by_cases hI : I.length ≤ 4
  case neg =>
    have hno : okC I F = false := okC_no (fun h => hI h.2.1)
    have hne : decide ((I.length : Int) > 4) = true := by simp; omega
    clear hF
    go_enter Tryz.func19, Tryz.ntmps19
    go_wp2
    go_ret
    exact ⟨by simp [hno], by go_grown⟩
  have HI := hid hI
  have hnI : decide ((I.length : Int) > 4) = false := by simp; omega
  clear hF hI
  go_enter Tryz.func19, Tryz.ntmps19
  go_wp2
  generalize hW1 : (w.alloc (.cells #[.slice ai I.length ci, .slice af F.length cf] 40)) = w1
  have a0_1 : w1.cell? ⟨w.heap.size, 0, none⟩ = some (.slice ai I.length ci) := by subst hW1; go_cell
  have a1_1 : w1.cell? ⟨w.heap.size, 1, none⟩ = some (.slice af F.length cf) := by subst hW1; go_cell
  have al_1 : w.heap.size < w1.heap.size := by subst hW1; first | (simp; done) | (simp; omega)
  have c1 : Below w.heap.size w w1 := by subst hW1; go_grown
  have s1 : w1.heap.size = w.heap.size + 1 := by subst hW1; simp
  clear hW1
  have qa0_1 := cell_regrown a0_1
  have qa1_1 := cell_regrown a1_1
  have A0 := a0_1
  have A1 := a1_1
  go_loopw [3] (fun k wr => ∃ n : Nat, n ≤ 24 ∧ k = .int .i64 n ∧ Hid (FlrTo F n) ∧ Below w1.heap.size w1 wr) (fun k _ => 24 - (intOf k).toNat)
  case atStart => exact ⟨0, Nat.zero_le _, rfl, hid (fun j hj => absurd hj (Nat.not_lt_zero j)), Below.refl _ _⟩
  case round =>
    obtain ⟨n, hn, rfl, hpre, hbel1⟩ := hrel
    have x0 := (hbel1.cell (p := ⟨w.heap.size, 0, none⟩) (by show w.heap.size < _; omega)).trans a0_1
    have x1 := (hbel1.cell (p := ⟨w.heap.size, 1, none⟩) (by show w.heap.size < _; omega)).trans a1_1
    have hbel := c1.trans (hbel1.mono c1.size)
    have hsz1 := hbel1.size
    by_cases hlt : n < 24
    · have hnl : n < F.length := by have := HF.out; omega
      have hni : (n : Int) < 24 := by omega
      have hnf : (n : Int) < (F.length : Int) := by omega
      obtain ⟨bf, of', rfl, hbf, hccf⟩ := hcf (by omega)
      obtain ⟨p, hx, d0⟩ := atK_1n ((hccf n hnl).later hbf hbel)
      rw [Nat.mul_one] at d0
      have r0 := cell_regrown d0
      have r1 := cell_regrown x1
      by_cases hp0 : 0 ≤ p
      · have g0 : decide (p < 0) = false := by simp; omega
        by_cases hp1 : p ≤ 60
        · have g1 : decide (p > 60) = false := by simp; omega
          have hN := hid (hpre.out.next hx hp0 hp1)
          clear hccf hx hci hcf
          go_wp2
          go_roundw
          case rel => exact ⟨n + 1, by omega, by go_num, hN, hbel1⟩
          case measure => simp [intOf]; omega
        · have g1 : decide (p > 60) = true := by simp; omega
          have hno : okC I F = false := okC_no (fun h => FlrTo.not hlt hx (fun q => hp1 q.2) h.2.2.1)
          clear hccf hx hci hcf
          go_wp2
          go_ret
          exact ⟨by simp, hbel⟩
      · have g0 : decide (p < 0) = true := by simp; omega
        have hno : okC I F = false := okC_no (fun h => FlrTo.not hlt hx (fun q => hp0 q.1) h.2.2.1)
        clear hccf hx hci hcf
        go_wp2
        go_ret
        exact ⟨by simp, hbel⟩
    · have hn24 : n = 24 := by omega
      subst hn24
      have HFL := hpre
      have hn24 : ¬ ((24 : Nat) : Int) < 24 := by omega
      clear x0 x1 a0_1 a1_1 qa0_1 qa1_1 hlt hn
      have a0_2 := (hbel1.cell (p := ⟨w.heap.size, 0, none⟩) (by show w.heap.size < _; omega)).trans A0
      have a1_2 := (hbel1.cell (p := ⟨w.heap.size, 1, none⟩) (by show w.heap.size < _; omega)).trans A1
      go_wp2
      go_loopw [4] (fun i ws => ∃ m : Nat, m ≤ I.length ∧ i = .int .i64 m ∧ Hid (ItmTo I F m) ∧ Below wr.heap.size wr ws) (fun i _ => I.length - (intOf i).toNat)
      case atStart => exact ⟨0, Nat.zero_le _, rfl, hid (fun j hj => absurd hj (Nat.not_lt_zero j)), Below.refl _ _⟩
      case round =>
        obtain ⟨m, hm, rfl, hitm, hbel2⟩ := hrel
        have x0 := (hbel2.cell (p := ⟨w.heap.size, 0, none⟩) (by show w.heap.size < _; omega)).trans a0_2
        have x1 := (hbel2.cell (p := ⟨w.heap.size, 1, none⟩) (by show w.heap.size < _; omega)).trans a1_2
        have hbel3 := hbel.trans (hbel2.mono hbel.size)
        have hsz2 := hbel2.size
        by_cases hlt : m < I.length
        · have hmi : (m : Int) < (I.length : Int) := by omega
          obtain ⟨bi, oi, rfl, hbi, hcci⟩ := hci (by omega)
          obtain ⟨bf, of', rfl, hbf, hccf⟩ := hcf (by have := HF.out; omega)
          have HCI := hid hcci
          have HCF := hid hccf
          obtain ⟨p0, p1, p2, lx, ux, hx, e0, e1, e2, e3, hux⟩ := atK_3k ((hcci m hlt).later hbi hbel3)
          have HU := hid hux
          have HX := hid hx
          clear hci hcf hcci hccf hux hx
          have rx0 := cell_regrown x0
          have rx1 := cell_regrown x1
          have re0 := cell_regrown e0
          have re1 := cell_regrown e1
          have re2 := cell_regrown e2
          have re3 := cell_regrown e3
          cases hit : itR p0 p1 p2 lx with
          | false =>
            have hno : okC I F = false := okC_no (fun h => by
              have := (h.2.2.2 m hlt).1
              rw [HX.out] at this
              exact absurd (show itR p0 p1 p2 lx = true from this) (by rw [hit]; decide))
            go_wp2_with fail
            refine wp_region_quiet_below (by kernel_rfl) (by kernel_rfl) ?_
            repeat (first | go_big_quiet_skip | (go_big_quiet_want; go_big_quiet_op; first | go_big_quiet_on | go_big_quiet_call (first | (go_at_call 46; exact Calls.regrown_of (specItem_any p0 p1 p2 _ lx _ (HU.out.later (below_regrown _ _ _)) hit)))))
            refine wpQuiet_nil ?_
            rintro wq ⟨pq, hwq⟩
            have hq : Below wr.heap.size wr wq := by rw [hwq]; exact below_regrown _ _ _
            clear hwq pq
            go_wp2
            go_ret
            exact ⟨by simp [hno], hbel3.trans (hq.mono hbel3.size)⟩
          | true =>
            have hkey := rightK_key (x := ([p0, p1, p2], lx)) hit
            obtain ⟨kk, hkk⟩ : ∃ kk : Nat, p0 = (kk : Int) := ⟨p0.toNat, by have : 0 ≤ p0 := hkey.1; omega⟩
            subst hkk
            have hk24 : kk < 24 := by have : (kk : Int) < 24 := hkey.2; omega
            have hkF : (kk : Int) < (F.length : Int) := by have := HF.out; omega
            clear hkey
            obtain ⟨q, hy, f0⟩ := atK_1n ((HCF.out kk (by have := HF.out; omega)).later hbf hbel3)
            rw [Nat.mul_one] at f0
            have rf0 := cell_regrown f0
            have HY := hid hy
            clear hy
            by_cases hpq : p1 = q
            case neg =>
              have hne : (p1 != q) = true := by simpa using hpq
              have hno : okC I F = false := okC_no (fun h => by
                have := (h.2.2.2 m hlt).2.1
                rw [HX.out] at this
                have e : flr F ((kk : Int)).toNat = q := by rw [Int.toNat_natCast, flr, HY.out]; rfl
                exact hpq ((show p1 = flr F ((kk : Int)).toNat from this).trans e))
              go_wp2_with fail
              refine wp_region_quiet_below (by kernel_rfl) (by kernel_rfl) ?_
              repeat (first | go_big_quiet_skip | (go_big_quiet_want; go_big_quiet_op; first | go_big_quiet_on | go_big_quiet_call (first | (go_at_call 46; exact Calls.regrown_of (specItem_any _ p1 p2 _ lx _ (HU.out.later (below_regrown _ _ _)) hit)))))
              refine wpQuiet_nil ?_
              rintro wq ⟨pq, hwq⟩
              have hq : Below wr.heap.size wr wq := by rw [hwq]; exact below_regrown _ _ _
              clear hwq pq
              go_wp2
              go_ret
              exact ⟨by simp [hno], hbel3.trans (hq.mono hbel3.size)⟩
            subst hpq
            have HV : Hid (p1 = flr F ((kk : Int)).toNat) := hid (by rw [Int.toNat_natCast, flr, HY.out]; rfl)
            go_wp2_with fail
            refine wp_region_quiet_below (by kernel_rfl) (by kernel_rfl) ?_
            repeat (first | go_big_quiet_skip | (go_big_quiet_want; go_big_quiet_op; first | go_big_quiet_on | go_big_quiet_call (first | (go_at_call 46; exact Calls.regrown_of (specItem_any _ p1 p2 _ lx _ (HU.out.later (below_regrown _ _ _)) hit)))))
            refine wpQuiet_nil ?_
            rintro wq ⟨pq, hwq⟩
            have hq : Below wr.heap.size wr wq := by rw [hwq]; exact below_regrown _ _ _
            clear hwq pq
            have hb2q := hbel2.trans (hq.mono hsz2)
            have hb3q := hbel3.trans (hq.mono hbel3.size)
            have hb1q := hbel1.trans (hb2q.mono hsz1)
            have hsq := hq.size
            clear rx0 rx1 re0 re1 re2 re3 rf0 x0 x1 e0 e1 e2 e3 f0
            go_wp2
            go_loopw [5] (fun k wt => ∃ n : Nat, n ≤ m ∧ k = .int .i64 n ∧ Hid (∀ j, j < n → keyK (I.getD j kd0) ≠ (kk : Int)) ∧ Below wq.heap.size wq wt) (fun k _ => m - (intOf k).toNat)
            case atStart => exact ⟨0, Nat.zero_le _, rfl, hid (fun j hj => absurd hj (Nat.not_lt_zero j)), Below.refl _ _⟩
            case round =>
              obtain ⟨n, hn, rfl, hall, hbel4⟩ := hrel
              have hbw := hb3q.trans (hbel4.mono hb3q.size)
              have hb1w := hb1q.trans (hbel4.mono hb1q.size)
              have hsz4 := hbel4.size
              have x0 := (hb1w.cell (p := ⟨w.heap.size, 0, none⟩) (by show w.heap.size < _; omega)).trans A0
              by_cases hln : n < m
              · have hnm : (n : Int) < (m : Int) := by omega
                have hnI : (n : Int) < (I.length : Int) := by omega
                obtain ⟨t0, t1, t2, ly, uy, hz, g0, g1, g2, g3, _⟩ := atK_3k ((HCI.out n (by omega)).later hbi hbw)
                obtain ⟨s0, s1', s2, lz, uz, hz', e0, e1, e2, e3, _⟩ := atK_3k ((HCI.out m hlt).later hbi hbw)
                rw [HX.out] at hz'
                simp at hz'
                obtain ⟨⟨rfl, rfl, rfl⟩, rfl⟩ := hz'
                have HZ := hid hz
                clear hz
                have rx0 := cell_regrown x0
                have rg0 := cell_regrown g0
                have re0 := cell_regrown e0
                by_cases hkt : t0 = (kk : Int)
                · have hno : okC I F = false := okC_no (fun h => by
                    have := (h.2.2.2 m hlt).2.2 n hln
                    rw [HX.out, HZ.out] at this
                    exact this hkt)
                  subst hkt
                  go_wp2_with fail
                  refine wp_region_quiet_below (by kernel_rfl) (by kernel_rfl) ?_
                  repeat (first | go_big_quiet_skip | (go_big_quiet_want; go_big_quiet_op; first | go_big_quiet_on | go_big_quiet_call (first | (fail))))
                  refine wpQuiet_nil ?_
                  rintro wq ⟨pq, hwq⟩
                  have hq : Below wr.heap.size wr wq := by rw [hwq]; exact below_regrown _ _ _
                  clear hwq pq
                  go_wp2
                  go_ret
                  exact ⟨by simp [hno], hbw.trans (hq.mono hbw.size)⟩
                · have hne : (t0 == (kk : Int)) = false := by simpa using hkt
                  have hN : Hid (∀ j, j < n + 1 → keyK (I.getD j kd0) ≠ (kk : Int)) := hid (fun j hj => by
                    by_cases e : j = n
                    · subst e; rw [HZ.out]; exact hkt
                    · exact hall.out j (by omega))
                  go_wp2_with fail
                  refine wp_region_quiet_below (by kernel_rfl) (by kernel_rfl) ?_
                  repeat (first | go_big_quiet_skip | (go_big_quiet_want; go_big_quiet_op; first | go_big_quiet_on | go_big_quiet_call (first | (fail))))
                  refine wpQuiet_nil ?_
                  rintro wq ⟨pq, hwq⟩
                  have hq : Below wr.heap.size wr wq := by rw [hwq]; exact below_regrown _ _ _
                  clear hwq pq
                  go_wp2
                  go_roundw
                  case rel => exact ⟨n + 1, by omega, by go_num, hN, hbel4.trans (hq.mono hsz4)⟩
                  case measure => simp [intOf]; omega
              · have hnm : ¬ (n : Int) < (m : Int) := by omega
                have hN : Hid (ItmTo I F (m + 1)) := hid (fun j hj => by
                  by_cases e : j = m
                  · subst e
                    refine ⟨by rw [HX.out]; exact hit, by rw [HX.out]; exact HV.out, fun k hk => ?_⟩
                    rw [HX.out]
                    exact hall.out k (by omega)
                  · exact hitm.out j (by omega))
                go_wp2
                go_roundw
                case rel => exact ⟨m + 1, by omega, by go_num, hN, hb2q.trans (hbel4.mono hb2q.size)⟩
                case measure => simp [intOf]; omega
        · have hmI : m = I.length := by omega
          have hyes : okC I F = true := okC_iff.2 ⟨HF.out, HI.out, HFL.out, by rw [← hmI]; exact hitm.out⟩
          have hmi : ¬ (m : Int) < (I.length : Int) := by omega
          clear hci hcf hmI
          go_wp2
          go_ret
          exact ⟨by simp, hbel3⟩
end Go.Proofs.YtfibdnhihnccaaaGreat
