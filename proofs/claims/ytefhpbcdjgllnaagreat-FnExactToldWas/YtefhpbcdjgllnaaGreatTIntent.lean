/- The law's own to helpers of Intent and of lists of such: contracts. Written by a program (gk.py). -/
import Derived.Test.YtefhpbcdjgllnaaGreatGrA
import Derived.Test.YtefhpbcdjgllnaaGreatKIntent
namespace Go.Proofs.YtefhpbcdjgllnaaGreat
open Go.RowKit
attribute [local go_sem ↓] Go.wp_at_zero Go.wp_at_succ

set_option maxRecDepth 100000 in
set_option maxHeartbeats 16000000 in
theorem toIntent_any (p0 p1 p2 p3 p4 : Int) (w : World) :
    Calls Tryz.prog 50 #[.agg #[.int .i64 p0, .int .i64 p1, .int .i64 p2, .int .i64 p3, .int .i64 p4]] w fun e w' => e = .returned (.agg #[.int .i64 p0, .int .i64 p1, .int .i64 p2, .int .i64 p3, .int .i64 p4]) ∧ Below w.heap.size w w' := by
  go_enter Tryz.func50, Tryz.ntmps50
  go_wp2_with fail
  refine (toOp_all p1 p2 p3 p4 _).mono ?_
  rintro e w2 ⟨rfl, b2⟩
  have o0 : w2.cell? ⟨w.heap.size + 1 + 1, 0, none⟩ = some (.int .i64 p0) := by rw [b2.cell (by simp)]; go_cell
  have fo0 : w2.frozen? ⟨w.heap.size + 1 + 1, 0, none⟩ = false := by rw [b2.frozen (by simp)]; (first | go_cell | (simp [World.frozen?, World.alloc]; done) | rfl)
  have r0 : w2.cell? ⟨w.heap.size + 1, 0, none⟩ = some (.int .i64 0) := by rw [b2.cell (by simp)]; go_cell
  have fr0 : w2.frozen? ⟨w.heap.size + 1, 0, none⟩ = false := by rw [b2.frozen (by simp)]; (first | go_cell | (simp [World.frozen?, World.alloc]; done) | rfl)
  have ar0 : w2.cell? ⟨w.heap.size, 0, none⟩ = some (.int .i64 p0) := by rw [b2.cell (by first | omega | (simp; done) | (simp; omega))]; go_cell
  have o1 : w2.cell? ⟨w.heap.size + 1 + 1, 1, none⟩ = some (.int .i64 0) := by rw [b2.cell (by simp)]; go_cell
  have fo1 : w2.frozen? ⟨w.heap.size + 1 + 1, 1, none⟩ = false := by rw [b2.frozen (by simp)]; (first | go_cell | (simp [World.frozen?, World.alloc]; done) | rfl)
  have r1 : w2.cell? ⟨w.heap.size + 1, 1, none⟩ = some (.int .i64 0) := by rw [b2.cell (by simp)]; go_cell
  have fr1 : w2.frozen? ⟨w.heap.size + 1, 1, none⟩ = false := by rw [b2.frozen (by simp)]; (first | go_cell | (simp [World.frozen?, World.alloc]; done) | rfl)
  have ar1 : w2.cell? ⟨w.heap.size, 1, none⟩ = some (.int .i64 p1) := by rw [b2.cell (by first | omega | (simp; done) | (simp; omega))]; go_cell
  have o2 : w2.cell? ⟨w.heap.size + 1 + 1, 2, none⟩ = some (.int .i64 0) := by rw [b2.cell (by simp)]; go_cell
  have fo2 : w2.frozen? ⟨w.heap.size + 1 + 1, 2, none⟩ = false := by rw [b2.frozen (by simp)]; (first | go_cell | (simp [World.frozen?, World.alloc]; done) | rfl)
  have r2 : w2.cell? ⟨w.heap.size + 1, 2, none⟩ = some (.int .i64 0) := by rw [b2.cell (by simp)]; go_cell
  have fr2 : w2.frozen? ⟨w.heap.size + 1, 2, none⟩ = false := by rw [b2.frozen (by simp)]; (first | go_cell | (simp [World.frozen?, World.alloc]; done) | rfl)
  have ar2 : w2.cell? ⟨w.heap.size, 2, none⟩ = some (.int .i64 p2) := by rw [b2.cell (by first | omega | (simp; done) | (simp; omega))]; go_cell
  have o3 : w2.cell? ⟨w.heap.size + 1 + 1, 3, none⟩ = some (.int .i64 0) := by rw [b2.cell (by simp)]; go_cell
  have fo3 : w2.frozen? ⟨w.heap.size + 1 + 1, 3, none⟩ = false := by rw [b2.frozen (by simp)]; (first | go_cell | (simp [World.frozen?, World.alloc]; done) | rfl)
  have r3 : w2.cell? ⟨w.heap.size + 1, 3, none⟩ = some (.int .i64 0) := by rw [b2.cell (by simp)]; go_cell
  have fr3 : w2.frozen? ⟨w.heap.size + 1, 3, none⟩ = false := by rw [b2.frozen (by simp)]; (first | go_cell | (simp [World.frozen?, World.alloc]; done) | rfl)
  have ar3 : w2.cell? ⟨w.heap.size, 3, none⟩ = some (.int .i64 p3) := by rw [b2.cell (by first | omega | (simp; done) | (simp; omega))]; go_cell
  have o4 : w2.cell? ⟨w.heap.size + 1 + 1, 4, none⟩ = some (.int .i64 0) := by rw [b2.cell (by simp)]; go_cell
  have fo4 : w2.frozen? ⟨w.heap.size + 1 + 1, 4, none⟩ = false := by rw [b2.frozen (by simp)]; (first | go_cell | (simp [World.frozen?, World.alloc]; done) | rfl)
  have r4 : w2.cell? ⟨w.heap.size + 1, 4, none⟩ = some (.int .i64 0) := by rw [b2.cell (by simp)]; go_cell
  have fr4 : w2.frozen? ⟨w.heap.size + 1, 4, none⟩ = false := by rw [b2.frozen (by simp)]; (first | go_cell | (simp [World.frozen?, World.alloc]; done) | rfl)
  have ar4 : w2.cell? ⟨w.heap.size, 4, none⟩ = some (.int .i64 p4) := by rw [b2.cell (by first | omega | (simp; done) | (simp; omega))]; go_cell
  have bb : Below w.heap.size w w2 := (Below.trans (by go_grown) (b2.mono (by first | omega | (simp; done) | (simp; omega))))
  have hz2 : w.heap.size + 3 ≤ w2.heap.size := by have := b2.size; simp at this; omega
  clear b2
  go_wp2
  have e0 : (((((((((w2.setCell ⟨w.heap.size + 1 + 1, 1, none⟩ (.int .i64 p1)).setCell ⟨w.heap.size + 1 + 1, 2, none⟩ (.int .i64 p2)).setCell ⟨w.heap.size + 1 + 1, 3, none⟩ (.int .i64 p3)).setCell ⟨w.heap.size + 1 + 1, 4, none⟩ (.int .i64 p4)).setCell ⟨w.heap.size + 1, 0, none⟩ (.int .i64 p0)).setCell ⟨w.heap.size + 1, 1, none⟩ (.int .i64 p1)).setCell ⟨w.heap.size + 1, 2, none⟩ (.int .i64 p2)).setCell ⟨w.heap.size + 1, 3, none⟩ (.int .i64 p3)).setCell ⟨w.heap.size + 1, 4, none⟩ (.int .i64 p4)).cell? ⟨w.heap.size + 1, 0, none⟩ = some (.int .i64 p0) := by go_cell
  have e1 : (((((((((w2.setCell ⟨w.heap.size + 1 + 1, 1, none⟩ (.int .i64 p1)).setCell ⟨w.heap.size + 1 + 1, 2, none⟩ (.int .i64 p2)).setCell ⟨w.heap.size + 1 + 1, 3, none⟩ (.int .i64 p3)).setCell ⟨w.heap.size + 1 + 1, 4, none⟩ (.int .i64 p4)).setCell ⟨w.heap.size + 1, 0, none⟩ (.int .i64 p0)).setCell ⟨w.heap.size + 1, 1, none⟩ (.int .i64 p1)).setCell ⟨w.heap.size + 1, 2, none⟩ (.int .i64 p2)).setCell ⟨w.heap.size + 1, 3, none⟩ (.int .i64 p3)).setCell ⟨w.heap.size + 1, 4, none⟩ (.int .i64 p4)).cell? ⟨w.heap.size + 1, 1, none⟩ = some (.int .i64 p1) := by go_cell
  have e2 : (((((((((w2.setCell ⟨w.heap.size + 1 + 1, 1, none⟩ (.int .i64 p1)).setCell ⟨w.heap.size + 1 + 1, 2, none⟩ (.int .i64 p2)).setCell ⟨w.heap.size + 1 + 1, 3, none⟩ (.int .i64 p3)).setCell ⟨w.heap.size + 1 + 1, 4, none⟩ (.int .i64 p4)).setCell ⟨w.heap.size + 1, 0, none⟩ (.int .i64 p0)).setCell ⟨w.heap.size + 1, 1, none⟩ (.int .i64 p1)).setCell ⟨w.heap.size + 1, 2, none⟩ (.int .i64 p2)).setCell ⟨w.heap.size + 1, 3, none⟩ (.int .i64 p3)).setCell ⟨w.heap.size + 1, 4, none⟩ (.int .i64 p4)).cell? ⟨w.heap.size + 1, 2, none⟩ = some (.int .i64 p2) := by go_cell
  have e3 : (((((((((w2.setCell ⟨w.heap.size + 1 + 1, 1, none⟩ (.int .i64 p1)).setCell ⟨w.heap.size + 1 + 1, 2, none⟩ (.int .i64 p2)).setCell ⟨w.heap.size + 1 + 1, 3, none⟩ (.int .i64 p3)).setCell ⟨w.heap.size + 1 + 1, 4, none⟩ (.int .i64 p4)).setCell ⟨w.heap.size + 1, 0, none⟩ (.int .i64 p0)).setCell ⟨w.heap.size + 1, 1, none⟩ (.int .i64 p1)).setCell ⟨w.heap.size + 1, 2, none⟩ (.int .i64 p2)).setCell ⟨w.heap.size + 1, 3, none⟩ (.int .i64 p3)).setCell ⟨w.heap.size + 1, 4, none⟩ (.int .i64 p4)).cell? ⟨w.heap.size + 1, 3, none⟩ = some (.int .i64 p3) := by go_cell
  have e4 : (((((((((w2.setCell ⟨w.heap.size + 1 + 1, 1, none⟩ (.int .i64 p1)).setCell ⟨w.heap.size + 1 + 1, 2, none⟩ (.int .i64 p2)).setCell ⟨w.heap.size + 1 + 1, 3, none⟩ (.int .i64 p3)).setCell ⟨w.heap.size + 1 + 1, 4, none⟩ (.int .i64 p4)).setCell ⟨w.heap.size + 1, 0, none⟩ (.int .i64 p0)).setCell ⟨w.heap.size + 1, 1, none⟩ (.int .i64 p1)).setCell ⟨w.heap.size + 1, 2, none⟩ (.int .i64 p2)).setCell ⟨w.heap.size + 1, 3, none⟩ (.int .i64 p3)).setCell ⟨w.heap.size + 1, 4, none⟩ (.int .i64 p4)).cell? ⟨w.heap.size + 1, 4, none⟩ = some (.int .i64 p4) := by go_cell
  refine bodyPost_ret (v := .agg #[.int .i64 p0, .int .i64 p1, .int .i64 p2, .int .i64 p3, .int .i64 p4]) (by simp [results, Tryz.results50, go_sem, e0, e1, e2, e3, e4]) rfl ⟨rfl, ?_⟩
  go_grown

theorem Tryz.infoIntent_K : (Tryz.prog.info? 99).map (fun i => (i.zero, i.size, i.bytes)) = some (some (.agg #[.int .i64 0, .int .i64 0, .int .i64 0, .int .i64 0, .int .i64 0]), 5, 40) := by kernel_rfl
set_option maxRecDepth 100000 in
set_option maxHeartbeats 2000000 in
theorem toIntentS_own (v : Value) (L : List KD) (w : World) (h : RdM 5 5 false w v L) (hl : L.length ≤ 1048576) :
    Calls Tryz.prog 24 #[v] w fun e w' => ∃ v', e = .returned v' ∧ OwnM 99 5 5 false w' (Span w.heap.size w'.heap.size) v' L ∧ Below w.heap.size w w' := by
  obtain ⟨ao, cap, rfl, _, hc⟩ := h
  obtain ⟨i0, hi, hz0, hz1, hz2⟩ := info_parts Tryz.infoIntent_K
  have hby : i0.bytes * L.length ≤ 281474976710656 := by rw [hz2]; omega
  have hml : L.length ≤ maxLen := by unfold maxLen; omega
  go_enter Tryz.func24, Tryz.ntmps24
  go_wp2_with (first | (at_make; refine wpList_make_full _ rfl (.tmp 6) (.tmp 6) 39 rfl w.heap.size 99 i0 _ 5 Tryz.underlying39 hi hz0 hz1 .i64 .i64 _ _ L.length rfl rfl rfl rfl hby hml (Nat.le_refl _) ?_; intro w1 hown hgrow))
  go_loopw [4] (fun i wr => ∃ (k : Nat) (xs : List Value) (us : Nat → Value), k ≤ L.length ∧ i = .int .i64 k ∧ Hid (FilM 5 5 false wr (Span (w.heap.size + 1) wr.heap.size) (some w.heap.size) xs us L k) ∧ Below w.heap.size w wr ∧
      wr.ownsRow w.heap.size 99 5 (.slice (some ⟨w.heap.size, 0, none⟩) L.length L.length) L.length xs) (fun i _ => L.length - (intOf i).toNat)
  case atStart => exact ⟨0, _, fun _ => .bool false, Nat.zero_le _, rfl, hid (FilM.zero _ _ _ _ _ _), (Below.refl _ _).grown hgrow (Nat.le_refl _) (by simp), hown⟩
  case round =>
    obtain ⟨k, xs, us, hk, rfl, hfil, hbel, hrow⟩ := hrel
    clear hown hgrow hby hi hz0 hz1 hz2
    by_cases hlt : k < L.length
    · obtain ⟨b, o, rfl, hb, hcc⟩ := hc (by omega)
      obtain ⟨p0, p1, p2, p3, p4, hx, c0, c1, c2, c3, c4⟩ := atK_5n ((hcc k hlt).later hb hbel)
      have hxl : xs.length = L.length * 5 := hrow.1
      have hgl := (hrow.lt w.heap.size rfl).2
      have HX := hid hx
      have HROW := hid hrow
      have hsz := hbel.size
      clear hcc hc hx
      go_wp2_with (first | (go_at_call 50; refine (toIntent_any p0 p1 p2 p3 p4 _).mono ?_; rintro e w2 ⟨rfl, hb2⟩; have hrow2 := row_later hrow hb2; have HR2 := hid hrow2; have HB2 := hid hb2; have hz2 := hb2.size; obtain ⟨q0, hq0⟩ := row_cell hrow2 (k * 5) (by omega); obtain ⟨q1, hq1⟩ := row_cell hrow2 (k * 5 + 1) (by omega); obtain ⟨q2, hq2⟩ := row_cell hrow2 (k * 5 + 2) (by omega); obtain ⟨q3, hq3⟩ := row_cell hrow2 (k * 5 + 3) (by omega); obtain ⟨q4, hq4⟩ := row_cell hrow2 (k * 5 + 4) (by omega); have f0 := hrow2.frozenAt (k * 5); have f1 := hrow2.frozenAt (k * 5 + 1); have f2 := hrow2.frozenAt (k * 5 + 2); have f3 := hrow2.frozenAt (k * 5 + 3); have f4 := hrow2.frozenAt (k * 5 + 4); clear hrow2 hrow hb2))
      go_roundw
      case rel =>
        have hsl : ∀ p, p < k * 5 → (((((xs.set (k * 5) (.int .i64 p0)).set (k * 5 + 1) (.int .i64 p1)).set (k * 5 + 2) (.int .i64 p2)).set (k * 5 + 3) (.int .i64 p3)).set (k * 5 + 4) (.int .i64 p4))[p]? = xs[p]? := fun p hp => by rw [List.getElem?_set_ne (by omega), List.getElem?_set_ne (by omega), List.getElem?_set_ne (by omega), List.getElem?_set_ne (by omega), List.getElem?_set_ne (by omega)]
        have hs0 : (((((xs.set (k * 5) (.int .i64 p0)).set (k * 5 + 1) (.int .i64 p1)).set (k * 5 + 2) (.int .i64 p2)).set (k * 5 + 3) (.int .i64 p3)).set (k * 5 + 4) (.int .i64 p4))[k * 5]? = some (.int .i64 p0) := by rw [List.getElem?_set_ne (by omega), List.getElem?_set_ne (by omega), List.getElem?_set_ne (by omega), List.getElem?_set_ne (by omega), List.getElem?_set_self (by first | omega | (simp only [List.length_set]; omega))]
        have hs1 : (((((xs.set (k * 5) (.int .i64 p0)).set (k * 5 + 1) (.int .i64 p1)).set (k * 5 + 2) (.int .i64 p2)).set (k * 5 + 3) (.int .i64 p3)).set (k * 5 + 4) (.int .i64 p4))[k * 5 + 1]? = some (.int .i64 p1) := by rw [List.getElem?_set_ne (by omega), List.getElem?_set_ne (by omega), List.getElem?_set_ne (by omega), List.getElem?_set_self (by first | omega | (simp only [List.length_set]; omega))]
        have hs2 : (((((xs.set (k * 5) (.int .i64 p0)).set (k * 5 + 1) (.int .i64 p1)).set (k * 5 + 2) (.int .i64 p2)).set (k * 5 + 3) (.int .i64 p3)).set (k * 5 + 4) (.int .i64 p4))[k * 5 + 2]? = some (.int .i64 p2) := by rw [List.getElem?_set_ne (by omega), List.getElem?_set_ne (by omega), List.getElem?_set_self (by first | omega | (simp only [List.length_set]; omega))]
        have hs3 : (((((xs.set (k * 5) (.int .i64 p0)).set (k * 5 + 1) (.int .i64 p1)).set (k * 5 + 2) (.int .i64 p2)).set (k * 5 + 3) (.int .i64 p3)).set (k * 5 + 4) (.int .i64 p4))[k * 5 + 3]? = some (.int .i64 p3) := by rw [List.getElem?_set_ne (by omega), List.getElem?_set_self (by first | omega | (simp only [List.length_set]; omega))]
        have hs4 : (((((xs.set (k * 5) (.int .i64 p0)).set (k * 5 + 1) (.int .i64 p1)).set (k * 5 + 2) (.int .i64 p2)).set (k * 5 + 3) (.int .i64 p3)).set (k * 5 + 4) (.int .i64 p4))[k * 5 + 4]? = some (.int .i64 p4) := by rw [List.getElem?_set_self (by first | omega | (simp only [List.length_set]; omega))]
        refine ⟨k + 1, _, _, by omega, by go_num, hid (FilM.step hfil.out (.bool false) (fun b _ hne hl => (heap_set_ne (j := k * 5 + 4) (x := (.int .i64 p4)) (fun q => hne (by rw [q])) (heap_set_ne (j := k * 5 + 3) (x := (.int .i64 p3)) (fun q => hne (by rw [q])) (heap_set_ne (j := k * 5 + 2) (x := (.int .i64 p2)) (fun q => hne (by rw [q])) (heap_set_ne (j := k * 5 + 1) (x := (.int .i64 p1)) (fun q => hne (by rw [q])) (heap_set_ne (j := k * 5) (x := (.int .i64 p0)) (fun q => hne (by rw [q])) (HB2.out.block b hl))))))) (fun b hb hl => ⟨hb.1, by have := hb.2; simp only [World.setCell, Array.size_modify]; omega⟩) (by decide) (by decide) hsl (by rw [HX.out]; rfl) (by rw [HX.out]; intro j hj; match j, hj with | 0, _ => exact hs0 | 1, _ => exact hs1 | 2, _ => exact hs2 | 3, _ => exact hs3 | 4, _ => exact hs4) (fun q => by cases q) (fun _ => by rw [HX.out])), ((((((hbel.trans (HB2.out.mono hsz)).setCell (p := ⟨w.heap.size, k * 5, none⟩) (Nat.le_refl _) (.int .i64 p0)).setCell (p := ⟨w.heap.size, k * 5 + 1, none⟩) (Nat.le_refl _) (.int .i64 p1)).setCell (p := ⟨w.heap.size, k * 5 + 2, none⟩) (Nat.le_refl _) (.int .i64 p2)).setCell (p := ⟨w.heap.size, k * 5 + 3, none⟩) (Nat.le_refl _) (.int .i64 p3)).setCell (p := ⟨w.heap.size, k * 5 + 4, none⟩) (Nat.le_refl _) (.int .i64 p4)), (row_put1 (row_put1 (row_put1 (row_put1 (row_put1 HR2.out (k * 5) (.int .i64 p0)) (k * 5 + 1) (.int .i64 p1)) (k * 5 + 2) (.int .i64 p2)) (k * 5 + 3) (.int .i64 p3)) (k * 5 + 4) (.int .i64 p4))⟩
      case measure => simp [intOf]; omega
    · have hkl : k = L.length := by omega
      go_wp2
      go_ret
      subst hkl
      exact ⟨_, rfl, ⟨xs, us, row_mono0 hrow, fun g hg => by cases hg; exact ⟨Nat.le_refl _, (hrow.lt _ rfl).2⟩, hfil.out.agree (fun _ _ _ _ => rfl) (fun b hb _ => ⟨Nat.le_of_succ_le hb.1, hb.2⟩)⟩, hbel⟩
end Go.Proofs.YtefhpbcdjgllnaaGreat
