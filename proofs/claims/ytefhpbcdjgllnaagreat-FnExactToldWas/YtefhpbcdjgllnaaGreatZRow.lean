/- The law's own sz helpers of Row and of lists of such: contracts. Written by a program (gk.py). -/
import Derived.Test.YtefhpbcdjgllnaaGreatGrA
namespace Go.Proofs.YtefhpbcdjgllnaaGreat
open Go.RowKit
attribute [local go_sem ↓] Go.wp_at_zero Go.wp_at_succ

theorem szRow_two (p0 p1 : Int) (u : Value) (l : List (Int × Int)) (left : Int) (w : World) (h : Rd w u l) (h0 : 0 ≤ left) (h1 : left ≤ 1048576) :
    Calls Tryz.prog 38 #[.agg #[.int .i64 p0, .int .i64 p1, u], .int .i64 left] w fun e w' => (∃ r : Int, e = .returned (.int .i64 r) ∧ Hid ((r = left - l.length ∧ 0 ≤ r) ∨ (r = -1 ∧ left - l.length < 0))) ∧ Below w.heap.size w w' := by
  obtain ⟨ao, cap, rfl, hl, _⟩ := h
  by_cases hf : (l.length : Int) ≤ left
  · have HS : Hid (0 ≤ left - (l.length : Int)) := hid (by omega)
    have hr0 : ¬ (left - (l.length : Int) < 0) := by omega
    go_enter Tryz.func38, Tryz.ntmps38
    go_wp2_with (first | (go_at_call 17; refine (szVal_fits p1 ao l.length cap left hf h1 _).mono ?_; rintro e w1 ⟨rfl, b1⟩; have bb : Below w.heap.size w w1 := (Below.trans (by go_grown) (b1.mono (by first | omega | (simp; done) | (simp; omega))))))
    go_ret
    exact ⟨⟨_, by simp, hid (Or.inl ⟨rfl, HS.out⟩)⟩, bb⟩
  · have HS : Hid (left - (l.length : Int) < 0) := hid (by omega)
    go_enter Tryz.func38, Tryz.ntmps38
    go_wp2_with (first | (go_at_call 17; refine (szVal_over p1 ao l.length cap left hl (by omega) h0 h1 _).mono ?_; rintro e w1 ⟨rfl, b1⟩; have bb : Below w.heap.size w w1 := (Below.trans (by go_grown) (b1.mono (by first | omega | (simp; done) | (simp; omega))))))
    go_ret
    exact ⟨⟨_, by simp, hid (Or.inr ⟨rfl, HS.out⟩)⟩, bb⟩

set_option maxRecDepth 100000 in
set_option maxHeartbeats 2000000 in
theorem szRowS_any (v : Value) (L : List KD) (left : Int) (w : World) (h : RdM 3 2 true w v L) (h0 : 0 ≤ left) (h1 : left ≤ 1048576) :
    Calls Tryz.prog 12 #[v, .int .i64 left] w fun e w' => SzM L left e ∧ Below w.heap.size w w' := by
  obtain ⟨ao, cap, rfl, hl, hc⟩ := h
  unfold maxLen at hl
  by_cases hbig : left < (L.length : Int)
  · have HS : Hid (left - L.length - bulkM L < 0) := hid (by omega)
    go_enter Tryz.func12, Tryz.ntmps12
    go_wp2
    go_ret
    exact ⟨Or.inr ⟨by simp, HS.out⟩, Below.refl _ _⟩
  · go_enter Tryz.func12, Tryz.ntmps12
    go_wp2
    go_loopw [1, 5] (fun s i wr => ∃ (k : Nat) (r : Int), k ≤ L.length ∧ i = .int .i64 k ∧ s = .int .i64 r ∧ Hid (r = left - L.length - bulkM (L.take k)) ∧ 0 ≤ r ∧ r ≤ 1048576 ∧ Below w.heap.size w wr) (fun _ i _ => L.length - (intOf i).toNat)
    case atStart => exact ⟨0, left - L.length, Nat.zero_le _, rfl, by first | rfl | (simp; done), hid (by simp [bulkM]), by omega, by omega, Below.refl _ _⟩
    case round =>
      obtain ⟨k, r, hk, rfl, rfl, hr, hr0, hr1, hbel⟩ := hrel
      by_cases hlt : k < L.length
      · obtain ⟨b, o, rfl, hb, hcc⟩ := hc (by omega)
        obtain ⟨p0, p1, lx, ux, hx, c0, c1, c2, hux⟩ := atK_2k ((hcc k hlt).later hb hbel)
        have HU := hid hux
        have HB := hid (bulkM_step L k hlt)
        rw [hx] at HB
        have HT := hid (bulkM_take L (k + 1))
        have hsz := hbel.size
        clear hcc hc hux hx
        go_wp2_with fail
        refine (szRow_two p0 p1 ux lx r _ HU.out hr0 hr1).mono ?_
        rintro e w2 ⟨⟨q, rfl, hq⟩, b2⟩
        have c2' := hbel.trans (b2.mono hsz)
        by_cases hneg : q < 0
        · have HS : Hid (left - L.length - bulkM L < 0) := hid (by
            have := hr.out; have := HB.out; have := HT.out
            rcases hq.out with ⟨_, h2⟩ | ⟨_, h2⟩ <;> omega)
          go_wp2
          go_ret
          exact ⟨Or.inr ⟨by simp, HS.out⟩, c2'⟩
        · have HQ : Hid (q = left - L.length - bulkM (L.take (k + 1))) := hid (by
            have := hr.out; have := HB.out
            rcases hq.out with ⟨h2, _⟩ | ⟨h2, _⟩ <;> omega)
          have hq1 : q ≤ 1048576 := by rcases hq.out with ⟨h2, _⟩ | ⟨h2, _⟩ <;> omega
          clear hq hr HB HT
          go_wp2
          go_roundw
          case rel => exact ⟨k + 1, q, by omega, by go_num, rfl, HQ, by omega, hq1, c2'⟩
          case measure => simp [intOf]; omega
      · obtain rfl : k = L.length := by omega
        have HQ : Hid (r = left - L.length - bulkM L) := hid (by have := hr.out; rwa [List.take_length] at this)
        clear hr
        go_wp2
        go_ret
        exact ⟨Or.inl ⟨by rw [← HQ.out]; simp, by rw [← HQ.out]; exact hr0⟩, hbel⟩

end Go.Proofs.YtefhpbcdjgllnaaGreat
