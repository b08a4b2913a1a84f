/- The law's own to helpers of Int and of lists of such: contracts. Written by a program (gk.py). -/
import Derived.Test.YtnenlnadmdlcfaaFb
import Derived.Test.YtnenlnadmdlcfaaGe
namespace Go.Proofs.Ytnenlnadmdlcfaa
open Go.RowKit
attribute [local go_sem ↓] Go.wp_at_zero Go.wp_at_succ

theorem Try.infoInt_K : (Try.prog.info? 3).map (fun i => (i.zero, i.size, i.bytes)) = some (some (.int .i64 0), 1, 8) := by kernel_rfl
set_option maxRecDepth 100000 in
set_option maxHeartbeats 2000000 in
theorem toIntS_own (v : Value) (L : List KD) (w : World) (h : RdM 1 1 false w v L) (hl : L.length ≤ 1048576) :
    Calls Try.prog 30 #[v] w fun e w' => ∃ v', e = .returned v' ∧ OwnM 3 1 1 false w' (Span w.heap.size w'.heap.size) v' L ∧ Below w.heap.size w w' := by
  obtain ⟨ao, cap, rfl, _, hc⟩ := h
  obtain ⟨i0, hi, hz0, hz1, hz2⟩ := info_parts Try.infoInt_K
  have hby : i0.bytes * L.length ≤ 281474976710656 := by rw [hz2]; omega
  have hml : L.length ≤ maxLen := by unfold maxLen; omega
  go_enter Try.func30, Try.ntmps30
  go_wp2_with (first | (at_make; refine wpList_make_full _ rfl (.tmp 6) (.tmp 6) 23 rfl w.heap.size 3 i0 _ 1 Try.underlying23 hi hz0 hz1 .i64 .i64 _ _ L.length rfl rfl rfl rfl hby hml (Nat.le_refl _) ?_; intro w1 hown hgrow))
  go_loopw [4] (fun i wr => ∃ (k : Nat) (xs : List Value) (us : Nat → Value), k ≤ L.length ∧ i = .int .i64 k ∧ Hid (FilM 1 1 false wr (Span (w.heap.size + 1) wr.heap.size) (some w.heap.size) xs us L k) ∧ Below w.heap.size w wr ∧
      wr.ownsRow w.heap.size 3 1 (.slice (some ⟨w.heap.size, 0, none⟩) L.length L.length) L.length xs) (fun i _ => L.length - (intOf i).toNat)
  case atStart => exact ⟨0, _, fun _ => .bool false, Nat.zero_le _, rfl, hid (FilM.zero _ _ _ _ _ _), (Below.refl _ _).grown hgrow (Nat.le_refl _) (by simp), hown⟩
  case round =>
    obtain ⟨k, xs, us, hk, rfl, hfil, hbel, hrow⟩ := hrel
    clear hown hgrow hby hi hz0 hz1 hz2
    by_cases hlt : k < L.length
    · obtain ⟨b, o, rfl, hb, hcc⟩ := hc (by omega)
      obtain ⟨p0, hx, c0⟩ := atK_1n ((hcc k hlt).later hb hbel)
      have hxl : xs.length = L.length * 1 := hrow.1
      have hgl := (hrow.lt w.heap.size rfl).2
      rw [Nat.mul_one] at c0
      have HX := hid hx
      have HROW := hid hrow
      have hsz := hbel.size
      clear hcc hc hx
      have hrow2 := hrow
      obtain ⟨q0, hq0⟩ := row_cell hrow2 (k) (by omega)
      have f0 := hrow2.frozenAt (k)
      have HR2 := hid hrow
      have HB2 := hid (Below.refl wr.heap.size wr)
      clear hrow hrow2
      go_wp2
      go_roundw
      case rel =>
        have hsl : ∀ p, p < k → (xs.set (k) (.int .i64 p0))[p]? = xs[p]? := fun p hp => by rw [List.getElem?_set_ne (by omega)]
        have hs0 : (xs.set (k) (.int .i64 p0))[k]? = some (.int .i64 p0) := by rw [List.getElem?_set_self (by first | omega | (simp only [List.length_set]; omega))]
        refine ⟨k + 1, _, _, by omega, by go_num, hid (FilM.step hfil.out (.bool false) (fun b _ hne hl => (heap_set_ne (j := k) (x := (.int .i64 p0)) (fun q => hne (by rw [q])) (HB2.out.block b hl))) (fun b hb hl => ⟨hb.1, by have := hb.2; simp only [World.setCell, Array.size_modify]; omega⟩) (by decide) (by decide) (by rw [Nat.mul_one]; exact hsl) (by rw [HX.out]; rfl) (by rw [HX.out]; intro j hj; match j, hj with | 0, _ => (rw [Nat.mul_one]; exact hs0)) (fun q => by cases q) (fun _ => by rw [HX.out])), ((hbel.trans (HB2.out.mono hsz)).setCell (p := ⟨w.heap.size, k, none⟩) (Nat.le_refl _) (.int .i64 p0)), (row_put1 HR2.out (k) (.int .i64 p0))⟩
      case measure => simp [intOf]; omega
    · have hkl : k = L.length := by omega
      go_wp2
      go_ret
      subst hkl
      exact ⟨_, rfl, ⟨xs, us, row_mono0 hrow, fun g hg => by cases hg; exact ⟨Nat.le_refl _, (hrow.lt _ rfl).2⟩, hfil.out.agree (fun _ _ _ _ => rfl) (fun b hb _ => ⟨Nat.le_of_succ_le hb.1, hb.2⟩)⟩, hbel⟩
end Go.Proofs.Ytnenlnadmdlcfaa
