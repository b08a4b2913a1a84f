/- The law's own mark and held helpers of lists of Int: contracts. Written by a program (gk.py). -/
import Derived.Test.YtnenlnadmdlcfaaFb
import Derived.Deep.DrawnRows
import Derived.Lib.QuietBelow
namespace Go.Proofs.Ytnenlnadmdlcfaa
open Go.RowKit
attribute [local go_sem ↓] Go.wp_at_zero Go.wp_at_succ

set_option maxRecDepth 100000 in
set_option maxHeartbeats 2000000 in
theorem markIntS_any {ty : TypeId} (v : Value) (L : List KD) (k : Int) (F : Nat → Prop) (w : World) (h : OwnM ty 1 1 false w F v L) (hk : 0 ≤ k) (hk2 : k + cntM 1 L ≤ 1099511627776) :
    Calls Try.prog 38 #[v, .int .i64 k] w fun e w' => e = .returned (.int .i64 (k + cntM 1 L)) ∧ OwnM ty 1 1 false w' F v (relM 1 k L) ∧ Only F w w' := by
  obtain ⟨xs0, us, h⟩ := h
  rcases h.row.2 with ⟨rfl, hn⟩ | ⟨g, cap, cur, hv, hb, hg, hnc, hcm, hcs, htake⟩
  · have : L = [] := List.eq_nil_of_length_eq_zero hn
    subst this
    clear h hn
    go_enter Try.func38, Try.ntmps38
    go_wp2
    go_loop [1, 5] (fun kk i => i = .int .i64 0 ∧ kk = .int .i64 k) (fun _ _ => 0)
    case atStart => exact ⟨rfl, rfl⟩
    case round =>
      obtain ⟨rfl, rfl⟩ := hrel
      go_wp2
      go_ret
      exact ⟨by simp [cntM], by simpa [relM] using OwnM.nil _ _, Only.refl _ _⟩
  · have hgF : F g := h.inF g (by rw [hv]; rfl)
    subst hv
    have HO := hid h
    have HF := hid hgF
    have HK := hid hk2
    have hLm : L.length ≤ maxLen := Nat.le_trans hnc hcm
    unfold maxLen at hLm
    clear h hg hcs htake hgF hb hnc hcm hk2
    go_enter Try.func38, Try.ntmps38
    go_wp2
    go_loopw [1, 5] (fun kk i wr => ∃ (j : Nat) (M : List KD) (xs : List Value) (q : Int), j ≤ L.length ∧ i = .int .i64 j ∧ kk = .int .i64 q ∧ Hid (q = k + cntM 1 (L.take j)) ∧ Hid (MidM 1 k L M j) ∧
        Hid (OwM ty 1 1 false wr F (.slice (some ⟨g, 0, none⟩) L.length cap) M xs us) ∧ Hid (Only F w wr)) (fun _ i _ => L.length - (intOf i).toNat)
    case atStart => exact ⟨0, L, xs0, k, Nat.zero_le _, rfl, rfl, hid (by simp [cntM]), hid (MidM.start _ _ _), HO, hid (Only.refl _ _)⟩
    case round =>
      obtain ⟨j, M, xs, q, hj, rfl, rfl, hq, hmid, how, honly⟩ := hrel
      by_cases hlt : j < L.length
      · have hML : Hid (M.length = L.length) := hid hmid.out.1
        have hjM : Hid (j < M.length) := hid (by have := hML.out; omega)
        have hMx := hid (hmid.out.2.2 j (Nat.le_refl _) hlt)
        have HOW := hid how.out
        obtain ⟨p0, hx⟩ := kd_1n (how.out.fil.len j (by rw [hML.out]; exact hlt)) (how.out.fil.non rfl j (by rw [hML.out]; exact hlt))
        have HX := hid hx
        have hq0 : 0 ≤ q := by have := hq.out; have := cntM_pos 1 (L.take j); omega
        have hq1 : q + 1 + 2 * ((L.getD j kd0).2.length : Int) ≤ 1099511627776 := by
          have := hq.out; have := cntM_step 1 L j hlt; have := cntM_le 1 L (j + 1); have := HK.out; have h9 : cntK 1 (L.getD j kd0) = 1 + 2 * ((L.getD j kd0).2.length : Int) := rfl; omega
        rw [← hMx.out, hx] at hq1
        have hrow := HOW.out.row
        rw [hML.out] at hrow
        obtain ⟨z0, hz0⟩ := row_cell hrow (j) (by omega)
        have f0 := hrow.frozenAt (j)
        obtain ⟨xs1, hm1⟩ := HOW.out.mark_1n hjM.out HX.out rfl q
        rw [Nat.mul_one] at hm1
        have HM1 := hid hm1
        clear how hx hrow hm1
        have HN2 := hid ((honly.out.trans (Only.set _ (p := ⟨g, j, none⟩) HF.out (.int .i64 (q)))))
        rw [← relK_1n q p0, ← HX.out, hMx.out] at HM1
        have HN := hid HM1.out
        clear HM1 HOW
        have HQ : Hid (q + 1 = k + cntM 1 (L.take (j + 1))) := hid (by
          have h1 := cntM_step 1 L j hlt
          have h9 : cntK 1 (L.getD j kd0) = 1 + 2 * ((L.getD j kd0).2.length : Int) := rfl
          rw [← hMx.out, HX.out] at h9 h1
          simp only [List.length_nil] at h9
          rw [h1, h9]
          have := hq.out
          omega)
        go_wp2
        go_roundw
        case rel =>
          have hstep := hmid.out.step hlt
          rw [← hq.out] at hstep
          exact ⟨j + 1, _, _, _, by omega, by go_num, rfl, HQ, hid hstep, HN, HN2⟩
        case measure => simp [intOf]; omega
      · obtain rfl : j = L.length := by omega
        have HQ : Hid (q = k + cntM 1 L) := hid (by have := hq.out; rwa [List.take_length] at this)
        have HN := hid (show OwnM ty 1 1 false wr F (.slice (some ⟨g, 0, none⟩) L.length cap) (relM 1 k L) from ⟨xs, us, hmid.out.all ▸ how.out⟩)
        clear how hmid hq
        go_wp2
        go_ret
        exact ⟨by rw [HQ.out]; simp, HN.out, honly.out⟩

set_option maxRecDepth 100000 in
set_option maxHeartbeats 2000000 in
theorem heldIntS_any (v : Value) (L : List KD) (k : Int) (w : World) (h : RdM 1 1 false w v (relM 1 k L)) (hlen : ∀ i, i < L.length → (L.getD i kd0).1.length = 1 ∧ (L.getD i kd0).2 = []) (hk : 0 ≤ k) (hk2 : k + cntM 1 L ≤ 1099511627776) :
    Calls Try.prog 46 #[v, .int .i64 k] w fun e w' => e = .returned (.int .i64 (k + cntM 1 L)) ∧ Below w.heap.size w w' := by
  obtain ⟨ao, cap, rfl, hl, hc⟩ := h
  rw [relM_length] at hl hc ⊢
  unfold maxLen at hl
  have HK := hid hk2
  have HL := hid hlen
  clear hk2 hlen
  go_enter Try.func46, Try.ntmps46
  go_wp2
  go_loopw [1, 5] (fun kk i wr => ∃ (j : Nat) (q : Int), j ≤ L.length ∧ i = .int .i64 j ∧ kk = .int .i64 q ∧ Hid (q = k + cntM 1 (L.take j)) ∧ Below w.heap.size w wr) (fun _ i _ => L.length - (intOf i).toNat)
  case atStart => exact ⟨0, k, Nat.zero_le _, rfl, rfl, hid (by simp [cntM]), Below.refl _ _⟩
  case round =>
    obtain ⟨j, q, hj, rfl, rfl, hq, hbel⟩ := hrel
    by_cases hlt : j < L.length
    · obtain ⟨b, o, rfl, hb, hcc⟩ := hc (by omega)
      have hat := (hcc j hlt).later hb hbel
      have HS := hid (cntM_step 1 L j hlt)
      have hle := cntM_le 1 L (j + 1)
      have hpos := cntM_pos 1 (L.take j)
      have hll := HL.out j hlt
      rw [relM_get 1 L k j hlt, ← hq.out] at hat
      obtain ⟨p0, hx⟩ := kd_1n hll.1 hll.2
      rw [hx, relK_1n] at hat
      obtain ⟨t0, he, c0⟩ := atK_1n hat
      rw [Nat.mul_one] at c0
      injection he with he1 he2
      simp only [List.cons.injEq, and_true] at he1
      obtain rfl := he1
      have h9 : cntK 1 (L.getD j kd0) = 1 + 2 * ((L.getD j kd0).2.length : Int) := rfl
      rw [hx] at h9
      simp only at h9
      have HQ : Hid (q + 1 = k + cntM 1 (L.take (j + 1))) := hid (by have h1 := HS.out; rw [hx, h9] at h1; rw [h1]; have := hq.out; simp only [List.length_nil] at *; omega)
      have hq0 : 0 ≤ q := by have := hq.out; omega
      have hq1 : q + 1 ≤ 1099511627776 := by have := HQ.out; have := HK.out; omega
      clear hcc hc HS hx h9 hll hle hpos
      go_wp2
      go_roundw
      case rel => exact ⟨j + 1, _, by omega, by go_num, rfl, HQ, by first | exact hbel | (refine hbel.trans ?_; go_grown)⟩
      case measure => simp [intOf]; omega
    · obtain rfl : j = L.length := by omega
      have HQ : Hid (q = k + cntM 1 L) := hid (by have := hq.out; rwa [List.take_length] at this)
      go_wp2
      go_ret
      exact ⟨by rw [HQ.out]; simp, hbel⟩
end Go.Proofs.Ytnenlnadmdlcfaa
