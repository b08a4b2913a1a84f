/- Marks on a cache that was answered; how many there are at most. Written by a program (glcd.py). -/
import Derived.Test.YtilbaiohcfhcaaaXt
import Derived.Test.YtilbaiohcfhcaaaXp
namespace Go.Proofs.Ytilbaiohcfhcaaa
open Go.RowKit
attribute [local go_sem ↓] Go.wp_at_zero Go.wp_at_succ

theorem cntM_le19 (L : List KD) (h : ∀ x ∈ L, x.2.length ≤ 8) : cntM 3 L ≤ 19 * (L.length : Int) := by
  induction L with
  | nil => simp [cntM]
  | cons x r ih =>
    have h1 := ih (fun y hy => h y (List.mem_cons_of_mem _ hy))
    have h2 := h x (List.mem_cons_self ..)
    rw [cntM_cons, List.length_cons]
    unfold cntK
    omega
theorem ansD_small {w : World} {v : Value} (I F : List KD) (key : Int) (h1 : RdM 1 1 false w v F) : 1 + cntM 3 (ansD I F key).1 + cntM 1 (ansD I F key).2 ≤ 1099511627776 := by
  unfold ansD
  split
  · rename_i hok
    have hs := okC_small hok
    have hf := (floF_of h1 (okC_iff.1 hok).1).all
    have h3 := cntM_le19 (dropI key I) (fun x hx => hs.2 x (List.mem_filter.1 hx).1)
    have h4 : (dropI key I).length ≤ I.length := List.length_filter_le _ _
    simp only
    rw [hf]
    omega
  · simp [cntM]
theorem ansF_small {w : World} {v : Value} (I F : List KD) (key ver : Int) (h1 : RdM 1 1 false w v F) : 1 + cntM 3 (ansF I F key ver).1 + cntM 1 (ansF I F key ver).2 ≤ 1099511627776 := by
  unfold ansF
  split
  · rename_i hok
    have hs := okC_small hok
    have hfl := floF_of h1 (okC_iff.1 hok).1
    split
    · rename_i hra
      have hk : 0 ≤ key ∧ key < 24 := by
        have : keyIn key = true := by simp [raB] at hra; exact hra.1
        simpa [keyIn] using this
      have hf := (hfl.set key.toNat ver (by omega)).all
      have h3 := cntM_le19 (dropI key I) (fun x hx => hs.2 x (List.mem_filter.1 hx).1)
      have h4 : (dropI key I).length ≤ I.length := List.length_filter_le _ _
      simp only [putF]
      rw [hf]
      omega
    · have h3 := cntM_le19 I hs.2
      simp only
      rw [hfl.all]
      omega
  · simp [cntM]
end Go.Proofs.Ytilbaiohcfhcaaa
