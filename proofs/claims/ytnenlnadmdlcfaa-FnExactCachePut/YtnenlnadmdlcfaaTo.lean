/- The law's own helpers toEdge, toEdgeS: contracts. -/
import Derived.Test.YtnenlnadmdlcfaaPl
import Derived.Deep.RegionHeld3
import Derived.Deep.DrawnRows
namespace Go.Proofs.Ytnenlnadmdlcfaa
open Go.RowKit
attribute [local go_sem ↓] Go.wp_at_zero Go.wp_at_succ

theorem Try.info62 : (Try.prog.info? 62).map (fun i => (i.zero, i.size, i.bytes)) = some (some (.agg #[.int .i64 0, .int .i64 0]), 2, 16) := by kernel_rfl

set_option maxHeartbeats 400000 in
theorem toEdge_any (a b : Int) (w : World) :
    Calls Try.prog 76 #[.agg #[.int .i64 a, .int .i64 b]] w fun e w' => e = .returned (.agg #[.int .i64 a, .int .i64 b]) ∧ Below w.heap.size w w' := by
  go_enter Try.func76, Try.ntmps76
  go_wp2
  refine bodyPost_ret (v := .agg #[.int .i64 a, .int .i64 b]) (by simp [results, Try.results76, go_sem]) rfl ⟨rfl, ?_⟩
  go_grown

set_option maxHeartbeats 1000000 in
theorem toEdgeS_any (v : Value) (l : List (Int × Int)) (w : World) (h : Rd w v l) (hl : l.length ≤ 1048576) :
    Calls Try.prog 66 #[v] w fun e w' => ∃ v', e = .returned v' ∧ Own w' w.heap.size v' l ∧ Below w.heap.size w w' := by
  obtain ⟨ao, cap, rfl, _, hc⟩ := h
  obtain ⟨i0, hi, hz0, hz1, hz2⟩ := info_parts Try.info62
  have hby : i0.bytes * l.length ≤ 281474976710656 := by rw [hz2]; omega
  have hml : l.length ≤ maxLen := by unfold maxLen; omega
  go_enter Try.func66, Try.ntmps66
  go_wp2_with (first | (at_make; refine wpList_make_full _ rfl (.tmp 6) (.tmp 6) 27 rfl w.heap.size 62 i0 _ 2 Try.underlying27 hi hz0 hz1 .i64 .i64 _ _ l.length rfl rfl rfl rfl hby hml (Nat.le_refl _) ?_; intro w1 hown hgrow))
  go_loopw [4] (fun i wr => ∃ (k : Nat) (xs : List Value), k ≤ l.length ∧ i = .int .i64 k ∧ Filled xs l k ∧ Below w.heap.size w wr ∧
      wr.ownsRow w.heap.size 62 2 (.slice (some ⟨w.heap.size, 0, none⟩) l.length l.length) l.length xs) (fun i _ => l.length - (intOf i).toNat)
  case atStart => exact ⟨0, _, Nat.zero_le _, rfl, Filled.zero _ _, (Below.refl _ _).grown hgrow (Nat.le_refl _) (by simp), hown⟩
  case round =>
    obtain ⟨k, xs, hk, rfl, hfil, hbel, hrow⟩ := hrel
    clear hown hgrow hby hi hz0 hz1 hz2
    by_cases hlt : k < l.length
    · obtain ⟨b, o, rfl, hb, hcc⟩ := hc (by omega)
      obtain ⟨c0, c1⟩ := hcc k hlt
      rw [← hbel.cell (p := ⟨b, o + k * 2, none⟩) hb] at c0
      rw [← hbel.cell (p := ⟨b, o + k * 2 + 1, none⟩) hb] at c1
      have hstep := hfil.step hlt hrow.1
      clear hcc hc hfil
      generalize l.getD k (0, 0) = x at *
      have hsz := hbel.size
      go_wp2_with (first | (go_at_call 76; refine (toEdge_any _ _ _).mono ?_; rintro e w2 ⟨rfl, hb2⟩; have hrow2 := row_later hrow hb2; obtain ⟨q0, hq0⟩ := row_cell hrow2 (k * 2) (by omega); obtain ⟨q1, hq1⟩ := row_cell hrow2 (k * 2 + 1) (by omega); have f0 := hrow2.frozenAt (k * 2); have f1 := hrow2.frozenAt (k * 2 + 1)))
      go_roundw
      case rel => exact ⟨k + 1, _, by omega, by go_num, hstep, ((hbel.trans (hb2.mono hsz)).setCell (Nat.le_refl _) _).setCell (Nat.le_refl _) _, row_two hrow2 (k * 2) _ _⟩
      case measure => simp [intOf]; omega
    · have hkl : k = l.length := by omega
      subst hkl
      go_wp2
      go_ret
      refine ⟨_, rfl, ?_, hbel⟩
      have := hfil.all hrow.1
      subst this
      exact hrow
end Go.Proofs.Ytnenlnadmdlcfaa
