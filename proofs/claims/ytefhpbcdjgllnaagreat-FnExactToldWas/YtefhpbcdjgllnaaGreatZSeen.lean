/- The law's own sz helpers of Seen and of lists of such: contracts. Written by a program (gk.py). -/
import Derived.Test.YtefhpbcdjgllnaaGreatGrA
namespace Go.Proofs.YtefhpbcdjgllnaaGreat
open Go.RowKit
attribute [local go_sem ↓] Go.wp_at_zero Go.wp_at_succ

theorem szSeenS_any (v : Value) (L : List KD) (left : Int) (w : World) (h : RdM 3 3 false w v L) (h0 : 0 ≤ left) (h1 : left ≤ 1048576) :
    Calls Tryz.prog 15 #[v, .int .i64 left] w fun e w' => SzM L left e ∧ Below w.heap.size w w' := by
  have hz : bulkM L = 0 := bulkM_none h
  obtain ⟨ao, cap, rfl, hl, _⟩ := h
  unfold maxLen at hl
  have HZ := hid hz
  clear hz
  by_cases hbig : left < (L.length : Int)
  · have HS : Hid (left - L.length - bulkM L < 0) := hid (by omega)
    go_enter Tryz.func15, Tryz.ntmps15
    go_wp2
    go_ret
    exact ⟨Or.inr ⟨by simp, HS.out⟩, Below.refl _ _⟩
  · have hr0 : ¬ (left - (L.length : Int) < 0) := by omega
    have HS : Hid (0 ≤ left - L.length - bulkM L) := hid (by have := HZ.out; omega)
    go_enter Tryz.func15, Tryz.ntmps15
    go_wp2
    go_ret
    exact ⟨Or.inl ⟨by rw [HZ.out]; simp, HS.out⟩, Below.refl _ _⟩

end Go.Proofs.YtefhpbcdjgllnaaGreat
