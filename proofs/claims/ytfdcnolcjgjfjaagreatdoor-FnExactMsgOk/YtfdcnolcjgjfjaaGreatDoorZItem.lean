/- The law's own sz helpers of Item and of lists of such: contracts. Written by a program (gk.py). -/
import Derived.Test.YtfdcnolcjgjfjaaGreatDoorFs
import Derived.Test.YtfdcnolcjgjfjaaGreatDoorGe
namespace Go.Proofs.YtfdcnolcjgjfjaaGreatDoor
open Go.RowKit
attribute [local go_sem ↓] Go.wp_at_zero Go.wp_at_succ

theorem szItem_two (p0 p1 p2 : Int) (u : Value) (l : List (Int × Int)) (left : Int) (w : World) (h : Rd w u l) (h0 : 0 ≤ left) (h1 : left ≤ 1048576) :
    Calls Tryz.prog 45 #[.agg #[.int .i64 p0, .int .i64 p1, .int .i64 p2, u], .int .i64 left] w fun e w' => (∃ r : Int, e = .returned (.int .i64 r) ∧ Hid ((r = left - l.length ∧ 0 ≤ r) ∨ (r = -1 ∧ left - l.length < 0))) ∧ Below w.heap.size w w' := by
  obtain ⟨ao, cap, rfl, hl, _⟩ := h
  by_cases hf : (l.length : Int) ≤ left
  · have HS : Hid (0 ≤ left - (l.length : Int)) := hid (by omega)
    have hr0 : ¬ (left - (l.length : Int) < 0) := by omega
    go_enter Tryz.func45, Tryz.ntmps45
    go_wp2_with (first | (go_at_call 89; refine (szVal_fits p2 ao l.length cap left hf h1 _).mono ?_; rintro e w1 ⟨rfl, b1⟩; have bb : Below w.heap.size w w1 := (Below.trans (by go_grown) (b1.mono (by first | omega | (simp; done) | (simp; omega))))))
    go_ret
    exact ⟨⟨_, by simp, hid (Or.inl ⟨rfl, HS.out⟩)⟩, bb⟩
  · have HS : Hid (left - (l.length : Int) < 0) := hid (by omega)
    go_enter Tryz.func45, Tryz.ntmps45
    go_wp2_with (first | (go_at_call 89; refine (szVal_over p2 ao l.length cap left hl (by omega) h0 h1 _).mono ?_; rintro e w1 ⟨rfl, b1⟩; have bb : Below w.heap.size w w1 := (Below.trans (by go_grown) (b1.mono (by first | omega | (simp; done) | (simp; omega))))))
    go_ret
    exact ⟨⟨_, by simp, hid (Or.inr ⟨rfl, HS.out⟩)⟩, bb⟩

end Go.Proofs.YtfdcnolcjgjfjaaGreatDoor
