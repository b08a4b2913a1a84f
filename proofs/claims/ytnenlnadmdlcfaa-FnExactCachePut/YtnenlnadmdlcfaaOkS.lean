/- spec.EdgeOk: contract. -/
import Derived.Test.YtnenlnadmdlcfaaOk1
import Derived.BigQuiet
import Derived.Lib.QuietBelow
namespace Go.Proofs.Ytnenlnadmdlcfaa
open Go.RowKit
attribute [local go_sem ↓] Go.wp_at_zero Go.wp_at_succ

set_option maxHeartbeats 4000000 in
theorem specOk_any (v : Value) (l : List (Int × Int)) (w : World) (h : Rd w v l) :
    Calls Try.prog 79 #[v] w fun e w' => e = .returned (.bool (okL l)) ∧ Below w.heap.size w w' := by
  obtain ⟨ao, cap, rfl, hl, hc⟩ := h
  unfold maxLen at hl
  go_enter Try.func79, Try.ntmps79
  go_wp2
  go_loopw [3] (fun i wr => ∃ k : Nat, k ≤ l.length ∧ i = .int .i64 k ∧ GoodTo l k ∧ Below w.heap.size w wr) (fun i _ => l.length - (intOf i).toNat)
  case atStart => exact ⟨0, Nat.zero_le _, rfl, GoodTo.zero l, Below.refl _ _⟩
  case round =>
    obtain ⟨k, hk, rfl, hgood, hbel⟩ := hrel
    have hsz := hbel.size
    by_cases hlt : k < l.length
    · obtain ⟨b, o, rfl, hb, hcc⟩ := hc (by omega)
      have hcr : ∀ i, i < l.length → ∀ W, Below w.heap.size w W → W.cell? ⟨b, o + i * 2, none⟩ = some (.int .i64 (l.getD i (0, 0)).1) ∧ W.cell? ⟨b, o + i * 2 + 1, none⟩ = some (.int .i64 (l.getD i (0, 0)).2) :=
        fun i hi W hW => ⟨(hW.cell (p := ⟨b, o + i * 2, none⟩) hb).trans (hcc i hi).1, (hW.cell (p := ⟨b, o + i * 2 + 1, none⟩) hb).trans (hcc i hi).2⟩
      have HC := hid hcr
      clear hcc hc hcr
      obtain ⟨c0, c1⟩ := HC.out k hlt wr hbel
      by_cases hright : rightB (l.getD k (0, 0)) = true
      · have HG : Hid (GoodTo l k) := hgood
        have HR : Hid (rightB (l.getD k (0, 0)) = true) := hright
        obtain ⟨x, hx⟩ : ∃ x, l.getD k (0, 0) = x := ⟨_, rfl⟩
        have HX : Hid (l.getD k (0, 0) = x) := hx
        rw [hx] at c0 c1 hright
        clear hx hgood
        cases k with
        | zero =>
          simp only [Nat.zero_mul, Nat.add_zero] at c0 c1
          go_wp2
          have r0 := cell_regrown c0
          have r1 := cell_regrown c1
          refine wp_region_quiet_below (by kernel_rfl) (by kernel_rfl) ?_
          repeat (first | go_big_quiet_skip | (go_big_quiet_want; go_big_quiet_op; first | go_big_quiet_on | go_big_quiet_call (first | (go_at_call 86; exact Calls.regrown_of (l1One_any _ _ _)) | (go_at_call 87; exact Calls.regrown_of (l1Ahead_any _ _ _ _ _)))))
          refine wpQuiet_nil ?_
          rintro wq ⟨pq, hwq⟩
          have hq : Below wr.heap.size wr wq := by rw [hwq]; exact below_regrown _ _ _
          clear hwq pq
          clear r0 r1
          go_wp2
          go_loopw [4] (fun i wz => i = .int .i64 0 ∧ Below w.heap.size w wz) (fun _ _ => 0)
          case atStart => exact ⟨rfl, hbel.trans (hq.mono hsz)⟩
          case round =>
            obtain ⟨rfl, hbz⟩ := hrel
            go_wp2
            go_roundw
            case rel => exact ⟨1, by omega, by go_num, HG.out.step HR.out (fun h => absurd h (Nat.lt_irrefl 0)) (fun j hj => absurd hj (Nat.not_lt_zero _)), hbz⟩
            case measure => simp [intOf]; omega
        | succ q =>
          obtain ⟨d0, d1⟩ := HC.out q (by omega) wr hbel
          obtain ⟨y, hy⟩ : ∃ y, l.getD q (0, 0) = y := ⟨_, rfl⟩
          have HY : Hid (l.getD q (0, 0) = y) := hy
          rw [hy] at d0 d1
          clear hy
          by_cases hah : aheadB y x = true
          · go_wp2
            have r0 := cell_regrown c0
            have r1 := cell_regrown c1
            have r2 := cell_regrown d0
            have r3 := cell_regrown d1
            refine wp_region_quiet_below (by kernel_rfl) (by kernel_rfl) ?_
            repeat (first | go_big_quiet_skip | (go_big_quiet_want; go_big_quiet_op; first | go_big_quiet_on | go_big_quiet_call (first | (go_at_call 86; exact Calls.regrown_of (l1One_any _ _ _)) | (go_at_call 87; exact Calls.regrown_of (l1Ahead_any _ _ _ _ _)))))
            refine wpQuiet_nil ?_
            rintro wq ⟨pq, hwq⟩
            have hq : Below wr.heap.size wr wq := by rw [hwq]; exact below_regrown _ _ _
            clear hwq pq
            clear r0 r1 r2 r3
            go_wp2
            go_loopw [4] (fun i wz => ∃ j : Nat, j ≤ q + 1 ∧ i = .int .i64 j ∧ Hid (∀ t, t < j → (l.getD t (0, 0)).1 ≠ (l.getD (q + 1) (0, 0)).1) ∧ Below w.heap.size w wz) (fun i _ => q + 1 - (intOf i).toNat)
            case atStart => exact ⟨0, Nat.zero_le _, rfl, fun t ht => absurd ht (Nat.not_lt_zero _), hbel.trans (hq.mono hsz)⟩
            case round =>
              obtain ⟨j, hj, rfl, hno, hbz⟩ := hrel
              by_cases hjk : j < q + 1
              · obtain ⟨e0, _⟩ := HC.out j (by omega) wr hbz
                obtain ⟨f0, _⟩ := HC.out (q + 1) hlt wr hbz
                rw [HX.out] at f0
                have r0 := cell_regrown e0
                have r1 := cell_regrown f0
                have hszz := hbz.size
                by_cases hsame : (l.getD j (0, 0)).1 = x.1
                · have hfalse : okL l = false := okL_no (fun hg => by
                    have := ((hg (q + 1) hlt).2 j hjk).2
                    rw [HX.out] at this
                    exact this hsame)
                  rw [hsame] at r0
                  clear hsame e0 f0
                  go_wp2
                  refine wp_region_quiet_below (by kernel_rfl) (by kernel_rfl) ?_
                  repeat (first | go_big_quiet_skip | (go_big_quiet_want; go_big_quiet_op; first | go_big_quiet_on | go_big_quiet_call (first | (fail))))
                  refine wpQuiet_nil ?_
                  rintro wq ⟨pq, hwq⟩
                  have hq : Below wr.heap.size wr wq := by rw [hwq]; exact below_regrown _ _ _
                  clear hwq pq
                  clear r0 r1
                  go_wp2
                  go_ret
                  exact ⟨by simp [hfalse], hbz.trans (hq.mono hszz)⟩
                · have hnext : Hid (∀ t, t < j + 1 → (l.getD t (0, 0)).1 ≠ (l.getD (q + 1) (0, 0)).1) := fun t ht => by
                    by_cases e : t = j
                    · rw [e, HX.out]; exact hsame
                    · exact hno.out t (by omega)
                  have hne : ((l.getD j (0, 0)).1 == x.1) = false := beq_eq_false_iff_ne.2 hsame
                  clear hsame e0 f0
                  generalize (l.getD j (0, 0)).1 = z at *
                  go_wp2
                  refine wp_region_quiet_below (by kernel_rfl) (by kernel_rfl) ?_
                  repeat (first | go_big_quiet_skip | (go_big_quiet_want; go_big_quiet_op; first | go_big_quiet_on | go_big_quiet_call (first | (fail))))
                  refine wpQuiet_nil ?_
                  rintro wq ⟨pq, hwq⟩
                  have hq : Below wr.heap.size wr wq := by rw [hwq]; exact below_regrown _ _ _
                  clear hwq pq
                  clear r0 r1
                  go_wp2
                  go_roundw
                  case rel => exact ⟨j + 1, by omega, by go_num, hnext, hbz.trans (hq.mono hszz)⟩
                  case measure => simp [intOf]; omega
              · have hjq : j = q + 1 := by omega
                subst hjq
                go_wp2
                go_roundw
                case rel => exact ⟨q + 1 + 1, by omega, by go_num, HG.out.step HR.out (fun _ => by rw [show q + 1 - 1 = q from rfl, HY.out, HX.out]; exact hah) hno.out, hbz⟩
                case measure => simp [intOf]; omega
          · have hah' : aheadB y x = false := by simpa using hah
            clear hah
            have hfalse : okL l = false := okL_no (fun hg => by
              have := ((hg (q + 1) hlt).2 q (by omega)).1
              rw [HX.out, HY.out, hah'] at this
              exact absurd this (by decide))
            go_wp2
            have r0 := cell_regrown c0
            have r1 := cell_regrown c1
            have r2 := cell_regrown d0
            have r3 := cell_regrown d1
            refine wp_region_quiet_below (by kernel_rfl) (by kernel_rfl) ?_
            repeat (first | go_big_quiet_skip | (go_big_quiet_want; go_big_quiet_op; first | go_big_quiet_on | go_big_quiet_call (first | (go_at_call 86; exact Calls.regrown_of (l1One_any _ _ _)) | (go_at_call 87; exact Calls.regrown_of (l1Ahead_any _ _ _ _ _)))))
            refine wpQuiet_nil ?_
            rintro wq ⟨pq, hwq⟩
            have hq : Below wr.heap.size wr wq := by rw [hwq]; exact below_regrown _ _ _
            clear hwq pq
            clear r0 r1 r2 r3
            go_wp2
            go_ret
            exact ⟨by simp [hfalse], hbel.trans (hq.mono hsz)⟩
      · have hfalse : okL l = false := okL_no (fun hg => hright (hg k hlt).1)
        have hright' : rightB (l.getD k (0, 0)) = false := by simpa using hright
        clear hright hgood
        generalize l.getD k (0, 0) = x at *
        go_wp2
        have r0 := cell_regrown c0
        have r1 := cell_regrown c1
        refine wp_region_quiet_below (by kernel_rfl) (by kernel_rfl) ?_
        repeat (first | go_big_quiet_skip | (go_big_quiet_want; go_big_quiet_op; first | go_big_quiet_on | go_big_quiet_call (first | (go_at_call 86; exact Calls.regrown_of (l1One_any _ _ _)) | (go_at_call 87; exact Calls.regrown_of (l1Ahead_any _ _ _ _ _)))))
        refine wpQuiet_nil ?_
        rintro wq ⟨pq, hwq⟩
        have hq : Below wr.heap.size wr wq := by rw [hwq]; exact below_regrown _ _ _
        clear hwq pq
        clear r0 r1
        go_wp2
        go_ret
        exact ⟨by simp [hfalse], hbel.trans (hq.mono hsz)⟩
    · have hkl : k = l.length := by omega
      have htrue : okL l = true := okL_yes (by rw [← hkl]; exact hgood)
      clear hgood
      go_wp2
      go_ret
      exact ⟨by simp [htrue], hbel⟩
end Go.Proofs.Ytnenlnadmdlcfaa
