/- The law's own mark and held helpers of lists of Item: contracts. Written by a program (gk.py). -/
import Derived.Test.YtnenlnadmdlcfaaFb
import Derived.Deep.DrawnRows
import Derived.Lib.QuietBelow
namespace Go.Proofs.Ytnenlnadmdlcfaa
open Go.RowKit
attribute [local go_sem ↓] Go.wp_at_zero Go.wp_at_succ

set_option maxRecDepth 100000 in
set_option maxHeartbeats 2000000 in
theorem markItemS_any {ty : TypeId} (v : Value) (L : List KD) (k : Int) (F : Nat → Prop) (w : World) (h : OwnM ty 4 3 true w F v L) (hk : 0 ≤ k) (hk2 : k + cntM 3 L ≤ 1099511627776) :
    Calls Try.prog 37 #[v, .int .i64 k] w fun e w' => e = .returned (.int .i64 (k + cntM 3 L)) ∧ OwnM ty 4 3 true w' F v (relM 3 k L) ∧ Only F w w' := by
  obtain ⟨xs0, us, h⟩ := h
  rcases h.row.2 with ⟨rfl, hn⟩ | ⟨g, cap, cur, hv, hb, hg, hnc, hcm, hcs, htake⟩
  · have : L = [] := List.eq_nil_of_length_eq_zero hn
    subst this
    clear h hn
    go_enter Try.func37, Try.ntmps37
    go_wp2
    go_loop [1, 5] (fun kk i => i = .int .i64 0 ∧ kk = .int .i64 k) (fun _ _ => 0)
    case atStart => exact ⟨rfl, rfl⟩
    case round =>
      obtain ⟨rfl, rfl⟩ := hrel
      go_wp2
      go_ret
      exact ⟨by simp [cntM], by simpa [relM] using OwnM.nil _ _, Only.refl _ _⟩
  · have hgF : F g := h.inF g (by rw [hv]; rfl)
    subst hv
    have HO := hid h
    have HF := hid hgF
    have HK := hid hk2
    have hLm : L.length ≤ maxLen := Nat.le_trans hnc hcm
    unfold maxLen at hLm
    clear h hg hcs htake hgF hb hnc hcm hk2
    go_enter Try.func37, Try.ntmps37
    go_wp2
    go_loopw [1, 5] (fun kk i wr => ∃ (j : Nat) (M : List KD) (xs : List Value) (q : Int), j ≤ L.length ∧ i = .int .i64 j ∧ kk = .int .i64 q ∧ Hid (q = k + cntM 3 (L.take j)) ∧ Hid (MidM 3 k L M j) ∧
        Hid (OwM ty 4 3 true wr F (.slice (some ⟨g, 0, none⟩) L.length cap) M xs us) ∧ Hid (Only F w wr)) (fun _ i _ => L.length - (intOf i).toNat)
    case atStart => exact ⟨0, L, xs0, k, Nat.zero_le _, rfl, rfl, hid (by simp [cntM]), hid (MidM.start _ _ _), HO, hid (Only.refl _ _)⟩
    case round =>
      obtain ⟨j, M, xs, q, hj, rfl, rfl, hq, hmid, how, honly⟩ := hrel
      by_cases hlt : j < L.length
      · have hML : Hid (M.length = L.length) := hid hmid.out.1
        have hjM : Hid (j < M.length) := hid (by have := hML.out; omega)
        have hMx := hid (hmid.out.2.2 j (Nat.le_refl _) hlt)
        have HOW := hid how.out
        obtain ⟨p0, p1, p2, lx, hx⟩ := kd_3k (how.out.fil.len j (by rw [hML.out]; exact hlt))
        have HX := hid hx
        have hq0 : 0 ≤ q := by have := hq.out; have := cntM_pos 3 (L.take j); omega
        have hq1 : q + 3 + 2 * ((L.getD j kd0).2.length : Int) ≤ 1099511627776 := by
          have := hq.out; have := cntM_step 3 L j hlt; have := cntM_le 3 L (j + 1); have := HK.out; have h9 : cntK 3 (L.getD j kd0) = 3 + 2 * ((L.getD j kd0).2.length : Int) := rfl; omega
        rw [← hMx.out, hx] at hq1
        have hrow := HOW.out.row
        rw [hML.out] at hrow
        obtain ⟨z0, hz0⟩ := row_cell hrow (j * 4) (by omega)
        have f0 := hrow.frozenAt (j * 4)
        obtain ⟨z1, hz1⟩ := row_cell hrow (j * 4 + 1) (by omega)
        have f1 := hrow.frozenAt (j * 4 + 1)
        obtain ⟨z2, hz2⟩ := row_cell hrow (j * 4 + 2) (by omega)
        have f2 := hrow.frozenAt (j * 4 + 2)
        obtain ⟨xs1, hm1⟩ := HOW.out.mark_3k hjM.out HX.out rfl q
        have HM1 := hid hm1
        have hu0 := (HOW.out.fil.kin rfl j (by rw [hML.out]; exact hlt)).1
        have hu1 := (hrow.cellAt (j * 4 + 3) (by omega)).trans hu0
        have hu := (hm1.fil.kin rfl j (by rw [List.length_set]; exact hjM.out)).2
        rw [kd_getD_set hjM.out, if_pos rfl] at hu
        have HU := hid hu
        obtain ⟨uo, uc, huv, _⟩ := hu.1.rd
        simp only at huv
        rw [huv] at hu1
        clear how hx hrow hu0 hu hm1
        go_wp2_with fail
        have HU1 : Hid (Own (((wr.setCell ⟨g, j * 4, none⟩ (.int .i64 (q))).setCell ⟨g, j * 4 + 1, none⟩ (.int .i64 (q + 1))).setCell ⟨g, j * 4 + 2, none⟩ (.int .i64 (q + 1 + 1))) 0 (.slice uo lx.length uc) lx) := hid (huv ▸ HU.out.1)
        refine (mark_any (.slice uo lx.length uc) lx (q + 1 + 1 + 1) 0 _ HU1.out (by omega) (by omega) (by omega)).mono ?_
        rintro e w2 ⟨rfl, ho, hg2⟩
        have HN := hid (HM1.out.setKin (by rw [List.length_set]; exact hjM.out) (huv.symm ▸ ho) (huv.symm ▸ hg2))
        rw [kd_getD_set hjM.out, if_pos rfl, List.set_set, ← relK_3k q p0 p1 p2 lx, ← HX.out, hMx.out] at HN
        have HN2 := hid ((((honly.out.trans (Only.set _ (p := ⟨g, j * 4, none⟩) HF.out (.int .i64 (q)))).trans (Only.set _ (p := ⟨g, j * 4 + 1, none⟩) HF.out (.int .i64 (q + 1)))).trans (Only.set _ (p := ⟨g, j * 4 + 2, none⟩) HF.out (.int .i64 (q + 1 + 1)))).trans (Only.of_grown hg2 (fun b hb => (HU.out.2 b (by rw [huv]; exact hb)).1)))
        have HQ : Hid (q + 1 + 1 + 1 + 2 * (lx.length : Int) = k + cntM 3 (L.take (j + 1))) := hid (by
          have h1 := cntM_step 3 L j hlt
          have h9 : cntK 3 (L.getD j kd0) = 3 + 2 * ((L.getD j kd0).2.length : Int) := rfl
          rw [← hMx.out, HX.out] at h9 h1
          simp only at h9
          rw [h1, h9]
          have := hq.out
          omega)
        clear ho hg2 HU HU1 HM1 HOW huv
        go_wp2
        go_roundw
        case rel =>
          have hstep := hmid.out.step hlt
          rw [← hq.out] at hstep
          exact ⟨j + 1, _, _, _, by omega, by go_num, rfl, HQ, hid hstep, HN, HN2⟩
        case measure => simp [intOf]; omega
      · obtain rfl : j = L.length := by omega
        have HQ : Hid (q = k + cntM 3 L) := hid (by have := hq.out; rwa [List.take_length] at this)
        have HN := hid (show OwnM ty 4 3 true wr F (.slice (some ⟨g, 0, none⟩) L.length cap) (relM 3 k L) from ⟨xs, us, hmid.out.all ▸ how.out⟩)
        clear how hmid hq
        go_wp2
        go_ret
        exact ⟨by rw [HQ.out]; simp, HN.out, honly.out⟩

set_option maxRecDepth 100000 in
set_option maxHeartbeats 2000000 in
theorem heldItemS_any (v : Value) (L : List KD) (k : Int) (w : World) (h : RdM 4 3 true w v (relM 3 k L)) (hlen : ∀ i, i < L.length → (L.getD i kd0).1.length = 3) (hk : 0 ≤ k) (hk2 : k + cntM 3 L ≤ 1099511627776) :
    Calls Try.prog 45 #[v, .int .i64 k] w fun e w' => e = .returned (.int .i64 (k + cntM 3 L)) ∧ Below w.heap.size w w' := by
  obtain ⟨ao, cap, rfl, hl, hc⟩ := h
  rw [relM_length] at hl hc ⊢
  unfold maxLen at hl
  have HK := hid hk2
  have HL := hid hlen
  clear hk2 hlen
  go_enter Try.func45, Try.ntmps45
  go_wp2
  go_loopw [1, 5] (fun kk i wr => ∃ (j : Nat) (q : Int), j ≤ L.length ∧ i = .int .i64 j ∧ kk = .int .i64 q ∧ Hid (q = k + cntM 3 (L.take j)) ∧ Below w.heap.size w wr) (fun _ i _ => L.length - (intOf i).toNat)
  case atStart => exact ⟨0, k, Nat.zero_le _, rfl, rfl, hid (by simp [cntM]), Below.refl _ _⟩
  case round =>
    obtain ⟨j, q, hj, rfl, rfl, hq, hbel⟩ := hrel
    by_cases hlt : j < L.length
    · obtain ⟨b, o, rfl, hb, hcc⟩ := hc (by omega)
      have hat := (hcc j hlt).later hb hbel
      have HS := hid (cntM_step 3 L j hlt)
      have hle := cntM_le 3 L (j + 1)
      have hpos := cntM_pos 3 (L.take j)
      have hll := HL.out j hlt
      rw [relM_get 3 L k j hlt, ← hq.out] at hat
      obtain ⟨p0, p1, p2, lx, hx⟩ := kd_3k hll
      rw [hx, relK_3k] at hat
      obtain ⟨t0, t1, t2, ly, ux, he, c0, c1, c2, c3, hux⟩ := atK_3k hat
      injection he with he1 he2
      simp only [List.cons.injEq, and_true] at he1
      obtain ⟨rfl, rfl, rfl⟩ := he1
      subst he2
      have h9 : cntK 3 (L.getD j kd0) = 3 + 2 * ((L.getD j kd0).2.length : Int) := rfl
      rw [hx] at h9
      simp only at h9
      have HQ : Hid (q + 1 + 1 + 1 + 2 * (lx.length : Int) = k + cntM 3 (L.take (j + 1))) := hid (by have h1 := HS.out; rw [hx, h9] at h1; rw [h1]; have := hq.out; omega)
      have hq0 : 0 ≤ q := by have := hq.out; omega
      have hq1 : q + 1 + 1 + 1 + 2 * (lx.length : Int) ≤ 1099511627776 := by have := HQ.out; have := HK.out; omega
      have HU := hid hux
      obtain ⟨uo, uc, huv, _⟩ := hux
      rw [markL_length] at huv
      subst huv
      clear hcc hc HS hx h9 hll hle hpos
      go_wp2_with fail
      refine (held_any _ lx.length (q + 1 + 1 + 1) _ HU.out (by omega) (by omega) (by omega)).mono ?_
      rintro e w2 ⟨rfl, rfl⟩
      go_wp2
      all_goals first
        | (exfalso; omega)
        | (go_roundw
           case rel => exact ⟨j + 1, _, by omega, by go_num, rfl, HQ, hbel⟩
           case measure => simp [intOf]; omega)
    · obtain rfl : j = L.length := by omega
      have HQ : Hid (q = k + cntM 3 L) := hid (by have := hq.out; rwa [List.take_length] at this)
      go_wp2
      go_ret
      exact ⟨by rw [HQ.out]; simp, hbel⟩
end Go.Proofs.Ytnenlnadmdlcfaa
