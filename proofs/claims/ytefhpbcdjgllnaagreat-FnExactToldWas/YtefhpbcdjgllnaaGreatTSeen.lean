/- The law's own to helpers of Seen and of lists of such: contracts. Written by a program (gk.py). -/
import Derived.Test.YtefhpbcdjgllnaaGreatGrA
namespace Go.Proofs.YtefhpbcdjgllnaaGreat
open Go.RowKit
attribute [local go_sem ↓] Go.wp_at_zero Go.wp_at_succ

set_option maxRecDepth 100000 in
set_option maxHeartbeats 16000000 in
theorem toSeen_any (p0 p1 p2 : Int) (w : World) :
    Calls Tryz.prog 51 #[.agg #[.int .i64 p0, .int .i64 p1, .int .i64 p2]] w fun e w' => e = .returned (.agg #[.int .i64 p0, .int .i64 p1, .int .i64 p2]) ∧ Below w.heap.size w w' := by
  go_enter Tryz.func51, Tryz.ntmps51
  go_wp2
  refine bodyPost_ret (v := .agg #[.int .i64 p0, .int .i64 p1, .int .i64 p2]) (by simp [results, Tryz.results51, go_sem]) rfl ⟨rfl, ?_⟩
  go_grown

theorem Tryz.infoSeen_K : (Tryz.prog.info? 105).map (fun i => (i.zero, i.size, i.bytes)) = some (some (.agg #[.int .i64 0, .int .i64 0, .int .i64 0]), 3, 24) := by kernel_rfl
set_option maxRecDepth 100000 in
set_option maxHeartbeats 2000000 in
theorem toSeenS_own (v : Value) (L : List KD) (w : World) (h : RdM 3 3 false w v L) (hl : L.length ≤ 1048576) :
    Calls Tryz.prog 25 #[v] w fun e w' => ∃ v', e = .returned v' ∧ OwnM 105 3 3 false w' (Span w.heap.size w'.heap.size) v' L ∧ Below w.heap.size w w' := by
  obtain ⟨ao, cap, rfl, _, hc⟩ := h
  obtain ⟨i0, hi, hz0, hz1, hz2⟩ := info_parts Tryz.infoSeen_K
  have hby : i0.bytes * L.length ≤ 281474976710656 := by rw [hz2]; omega
  have hml : L.length ≤ maxLen := by unfold maxLen; omega
  go_enter Tryz.func25, Tryz.ntmps25
  go_wp2_with (first | (at_make; refine wpList_make_full _ rfl (.tmp 6) (.tmp 6) 40 rfl w.heap.size 105 i0 _ 3 Tryz.underlying40 hi hz0 hz1 .i64 .i64 _ _ L.length rfl rfl rfl rfl hby hml (Nat.le_refl _) ?_; intro w1 hown hgrow))
  go_loopw [4] (fun i wr => ∃ (k : Nat) (xs : List Value) (us : Nat → Value), k ≤ L.length ∧ i = .int .i64 k ∧ Hid (FilM 3 3 false wr (Span (w.heap.size + 1) wr.heap.size) (some w.heap.size) xs us L k) ∧ Below w.heap.size w wr ∧
      wr.ownsRow w.heap.size 105 3 (.slice (some ⟨w.heap.size, 0, none⟩) L.length L.length) L.length xs) (fun i _ => L.length - (intOf i).toNat)
  case atStart => exact ⟨0, _, fun _ => .bool false, Nat.zero_le _, rfl, hid (FilM.zero _ _ _ _ _ _), (Below.refl _ _).grown hgrow (Nat.le_refl _) (by simp), hown⟩
  case round =>
    obtain ⟨k, xs, us, hk, rfl, hfil, hbel, hrow⟩ := hrel
    clear hown hgrow hby hi hz0 hz1 hz2
    by_cases hlt : k < L.length
    · obtain ⟨b, o, rfl, hb, hcc⟩ := hc (by omega)
      obtain ⟨p0, p1, p2, hx, c0, c1, c2⟩ := atK_3n ((hcc k hlt).later hb hbel)
      have hxl : xs.length = L.length * 3 := hrow.1
      have hgl := (hrow.lt w.heap.size rfl).2
      have HX := hid hx
      have HROW := hid hrow
      have hsz := hbel.size
      clear hcc hc hx
      go_wp2_with (first | (go_at_call 51; refine (toSeen_any p0 p1 p2 _).mono ?_; rintro e w2 ⟨rfl, hb2⟩; have hrow2 := row_later hrow hb2; have HR2 := hid hrow2; have HB2 := hid hb2; have hz2 := hb2.size; obtain ⟨q0, hq0⟩ := row_cell hrow2 (k * 3) (by omega); obtain ⟨q1, hq1⟩ := row_cell hrow2 (k * 3 + 1) (by omega); obtain ⟨q2, hq2⟩ := row_cell hrow2 (k * 3 + 2) (by omega); have f0 := hrow2.frozenAt (k * 3); have f1 := hrow2.frozenAt (k * 3 + 1); have f2 := hrow2.frozenAt (k * 3 + 2); clear hrow2 hrow hb2))
      go_roundw
      case rel =>
        have hsl : ∀ p, p < k * 3 → (((xs.set (k * 3) (.int .i64 p0)).set (k * 3 + 1) (.int .i64 p1)).set (k * 3 + 2) (.int .i64 p2))[p]? = xs[p]? := fun p hp => by rw [List.getElem?_set_ne (by omega), List.getElem?_set_ne (by omega), List.getElem?_set_ne (by omega)]
        have hs0 : (((xs.set (k * 3) (.int .i64 p0)).set (k * 3 + 1) (.int .i64 p1)).set (k * 3 + 2) (.int .i64 p2))[k * 3]? = some (.int .i64 p0) := by rw [List.getElem?_set_ne (by omega), List.getElem?_set_ne (by omega), List.getElem?_set_self (by first | omega | (simp only [List.length_set]; omega))]
        have hs1 : (((xs.set (k * 3) (.int .i64 p0)).set (k * 3 + 1) (.int .i64 p1)).set (k * 3 + 2) (.int .i64 p2))[k * 3 + 1]? = some (.int .i64 p1) := by rw [List.getElem?_set_ne (by omega), List.getElem?_set_self (by first | omega | (simp only [List.length_set]; omega))]
        have hs2 : (((xs.set (k * 3) (.int .i64 p0)).set (k * 3 + 1) (.int .i64 p1)).set (k * 3 + 2) (.int .i64 p2))[k * 3 + 2]? = some (.int .i64 p2) := by rw [List.getElem?_set_self (by first | omega | (simp only [List.length_set]; omega))]
        refine ⟨k + 1, _, _, by omega, by go_num, hid (FilM.step hfil.out (.bool false) (fun b _ hne hl => (heap_set_ne (j := k * 3 + 2) (x := (.int .i64 p2)) (fun q => hne (by rw [q])) (heap_set_ne (j := k * 3 + 1) (x := (.int .i64 p1)) (fun q => hne (by rw [q])) (heap_set_ne (j := k * 3) (x := (.int .i64 p0)) (fun q => hne (by rw [q])) (HB2.out.block b hl))))) (fun b hb hl => ⟨hb.1, by have := hb.2; simp only [World.setCell, Array.size_modify]; omega⟩) (by decide) (by decide) hsl (by rw [HX.out]; rfl) (by rw [HX.out]; intro j hj; match j, hj with | 0, _ => exact hs0 | 1, _ => exact hs1 | 2, _ => exact hs2) (fun q => by cases q) (fun _ => by rw [HX.out])), ((((hbel.trans (HB2.out.mono hsz)).setCell (p := ⟨w.heap.size, k * 3, none⟩) (Nat.le_refl _) (.int .i64 p0)).setCell (p := ⟨w.heap.size, k * 3 + 1, none⟩) (Nat.le_refl _) (.int .i64 p1)).setCell (p := ⟨w.heap.size, k * 3 + 2, none⟩) (Nat.le_refl _) (.int .i64 p2)), (row_put1 (row_put1 (row_put1 HR2.out (k * 3) (.int .i64 p0)) (k * 3 + 1) (.int .i64 p1)) (k * 3 + 2) (.int .i64 p2))⟩
      case measure => simp [intOf]; omega
    · have hkl : k = L.length := by omega
      go_wp2
      go_ret
      subst hkl
      exact ⟨_, rfl, ⟨xs, us, row_mono0 hrow, fun g hg => by cases hg; exact ⟨Nat.le_refl _, (hrow.lt _ rfl).2⟩, hfil.out.agree (fun _ _ _ _ => rfl) (fun b hb _ => ⟨Nat.le_of_succ_le hb.1, hb.2⟩)⟩, hbel⟩
end Go.Proofs.YtefhpbcdjgllnaaGreat
