/- Marks on a cache that was answered; how many there are at most. Written by a program (glcd.py). -/
import Derived.Test.YtddpoheoecafjaaGreatXt
import Derived.Test.YtddpoheoecafjaaGreatXp
namespace Go.Proofs.YtddpoheoecafjaaGreat
open Go.RowKit
attribute [local go_sem ↓] Go.wp_at_zero Go.wp_at_succ

set_option maxRecDepth 100000 in
set_option maxHeartbeats 2000000 in
theorem markAns_any (a0 fv : Value) (L0 L1 : List KD) (g C : Nat) (w : World) (ha0 : OwnM 84 4 3 true w (Span (g + 1) C) a0 L0) (hf : OwnFl w g fv L1) (hgC : g < C) (hCw : C ≤ w.heap.size) (hk2 : 1 + cntM 3 L0 + cntM 1 L1 ≤ 1099511627776) :
    Calls Tryz.prog 51 #[.agg #[a0, fv], .int .i64 1] w fun e w' => e = .returned (.int .i64 (1 + cntM 3 L0 + cntM 1 L1)) ∧ OwnM 84 4 3 true w' (Span (g + 1) C) a0 (relM 3 1 L0) ∧ OwnFl w' g fv (relM 1 (1 + cntM 3 L0) L1) ∧ Only (Span g C) w w' := by
  have HA0 := hid ha0
  have hv0 := ha0.rd'
  have hp0 := cntM_pos 3 L0
  have hp1 := cntM_pos 1 L1
  have HF := hid hf
  obtain ⟨fo, fc, hfv⟩ := hf.slice
  subst hfv
  obtain ⟨ao0, ac0, hv, _⟩ := hv0
  subst hv
  clear ha0 hf
  go_enter Tryz.func51, Tryz.ntmps51
  go_wp2_with fail
  generalize hW1 : (w.alloc (.cells #[.slice ao0 L0.length ac0, .slice fo L1.length fc] 36)) = w1
  have a0_1 : w1.cell? ⟨w.heap.size, 0, none⟩ = some (.slice ao0 L0.length ac0) := by subst hW1; go_cell
  have a1_1 : w1.cell? ⟨w.heap.size, 1, none⟩ = some (.slice fo L1.length fc) := by subst hW1; go_cell
  have al_1 : w.heap.size < w1.heap.size := by subst hW1; first | (simp; done) | (simp; omega)
  have c1 : Below w.heap.size w w1 := by subst hW1; go_grown
  have s1 : w1.heap.size = w.heap.size + 1 := by subst hW1; simp
  clear hW1
  have qa0_1 := cell_regrown a0_1
  have qa1_1 := cell_regrown a1_1
  have HA0_1 := hid (HA0.out.later c1)
  have HF_1 := hid (HF.out.later c1)
  have HN1 : Hid (Only (Span g C) w w1) := hid (Only.later c1)
  refine (markItemS_any _ L0 1 (Span (g + 1) C) _ HA0_1.out (by omega) (by omega)).mono ?_
  rintro e w2 ⟨rfl, ho, hn⟩
  have a0_2 := (World.cell?_of_block (a := ⟨w.heap.size, 0, none⟩) (hn.block w.heap.size (by have := al_1; omega) (fun q => by have := q.2; omega))).trans a0_1
  have a1_2 := (World.cell?_of_block (a := ⟨w.heap.size, 1, none⟩) (hn.block w.heap.size (by have := al_1; omega) (fun q => by have := q.2; omega))).trans a1_1
  have al_2 : w.heap.size < w2.heap.size := Nat.lt_of_lt_of_le al_1 hn.size
  have HN2 := hid (HN1.out.trans (hn.mono (fun b hb => ⟨Nat.le_of_succ_le hb.1, hb.2⟩)))
  have HA0_2 := hid ho
  have HF_2 := hid (HF_1.out.agree (fun hg => hn.block g hg (fun q => Nat.lt_irrefl _ q.1)))
  clear ho hn HN1 HA0_1 HF_1 a0_1 a1_1
  go_wp2_with fail
  refine (markFl_any g _ L1 (1 + cntM 3 L0) _ HF_2.out (by omega) (by omega)).mono ?_
  rintro e w3 ⟨rfl, ho, hn⟩
  have HN3 := hid (HN2.out.trans (hn.mono (fun b hb => ⟨Nat.le_of_eq hb.symm, by rw [hb]; exact hgC⟩)))
  have HA0_3 := hid (HA0_2.out.only hn (fun b hb _ hc => by have := hb.1; omega))
  have HF_3 := hid ho
  clear ho hn HN2 HA0_2 HF_2 a0_2 a1_2
  go_wp2
  go_ret
  exact ⟨by simp, HA0_3.out, HF_3.out, HN3.out⟩
theorem cntM_le19 (L : List KD) (h : ∀ x ∈ L, x.2.length ≤ 8) : cntM 3 L ≤ 19 * (L.length : Int) := by
  induction L with
  | nil => simp [cntM]
  | cons x r ih =>
    have h1 := ih (fun y hy => h y (List.mem_cons_of_mem _ hy))
    have h2 := h x (List.mem_cons_self ..)
    rw [cntM_cons, List.length_cons]
    unfold cntK
    omega
theorem ansD_small {w : World} {v : Value} (I F : List KD) (key : Int) (h1 : RdM 1 1 false w v F) : 1 + cntM 3 (ansD I F key).1 + cntM 1 (ansD I F key).2 ≤ 1099511627776 := by
  unfold ansD
  split
  · rename_i hok
    have hs := okC_small hok
    have hf := (floF_of h1 (okC_iff.1 hok).1).all
    have h3 := cntM_le19 (dropI key I) (fun x hx => hs.2 x (List.mem_filter.1 hx).1)
    have h4 : (dropI key I).length ≤ I.length := List.length_filter_le _ _
    simp only
    rw [hf]
    omega
  · simp [cntM]
theorem ansF_small {w : World} {v : Value} (I F : List KD) (key ver : Int) (h1 : RdM 1 1 false w v F) : 1 + cntM 3 (ansF I F key ver).1 + cntM 1 (ansF I F key ver).2 ≤ 1099511627776 := by
  unfold ansF
  split
  · rename_i hok
    have hs := okC_small hok
    have hfl := floF_of h1 (okC_iff.1 hok).1
    split
    · rename_i hra
      have hk : 0 ≤ key ∧ key < 24 := by
        have : keyIn key = true := by simp [raB] at hra; exact hra.1
        simpa [keyIn] using this
      have hf := (hfl.set key.toNat ver (by omega)).all
      have h3 := cntM_le19 (dropI key I) (fun x hx => hs.2 x (List.mem_filter.1 hx).1)
      have h4 : (dropI key I).length ≤ I.length := List.length_filter_le _ _
      simp only [putF]
      rw [hf]
      omega
    · have h3 := cntM_le19 I hs.2
      simp only
      rw [hfl.all]
      omega
  · simp [cntM]
end Go.Proofs.YtddpoheoecafjaaGreat
