/- The law's own to helpers of Commit and of lists of such: contracts. Written by a program (gk.py). -/
import Derived.Test.YtefhpbcdjgllnaaGreatGrA
namespace Go.Proofs.YtefhpbcdjgllnaaGreat
open Go.RowKit
attribute [local go_sem ↓] Go.wp_at_zero Go.wp_at_succ

set_option maxRecDepth 100000 in
set_option maxHeartbeats 2000000 in
theorem toCommit_any (p0 p1 p2 : Int) (v : Value) (l : List (Int × Int)) (w : World) (h : Rd w v l) (hl : l.length ≤ 1048576) :
    Calls Tryz.prog 52 #[.agg #[.int .i64 p0, .int .i64 p1, .int .i64 p2, v]] w fun e w' => ∃ v', e = .returned (.agg #[.int .i64 p0, .int .i64 p1, .int .i64 p2, v']) ∧ Own w' w.heap.size v' l ∧ Below w.heap.size w w' := by
  have HR := hid h
  obtain ⟨ao0, cap0, hv0, _⟩ := h
  subst hv0
  go_enter Tryz.func52, Tryz.ntmps52
  go_wp2_with fail
  refine (toVal_any p2 _ l _ (HR.out.later (by go_grown)) hl).mono ?_
  rintro e w2 ⟨v', rfl, ho, b2⟩
  have o0 : w2.cell? ⟨w.heap.size + 1 + 1, 0, none⟩ = some (.int .i64 p0) := by rw [b2.cell (by simp)]; go_cell
  have fo0 : w2.frozen? ⟨w.heap.size + 1 + 1, 0, none⟩ = false := by rw [b2.frozen (by simp)]; (first | go_cell | (simp [World.frozen?, World.alloc]; done) | rfl)
  have o1 : w2.cell? ⟨w.heap.size + 1 + 1, 1, none⟩ = some (.int .i64 p1) := by rw [b2.cell (by simp)]; go_cell
  have fo1 : w2.frozen? ⟨w.heap.size + 1 + 1, 1, none⟩ = false := by rw [b2.frozen (by simp)]; (first | go_cell | (simp [World.frozen?, World.alloc]; done) | rfl)
  have o2 : w2.cell? ⟨w.heap.size + 1 + 1, 2, none⟩ = some (.int .i64 0) := by rw [b2.cell (by simp)]; go_cell
  have fo2 : w2.frozen? ⟨w.heap.size + 1 + 1, 2, none⟩ = false := by rw [b2.frozen (by simp)]; (first | go_cell | (simp [World.frozen?, World.alloc]; done) | rfl)
  have o3 : w2.cell? ⟨w.heap.size + 1 + 1, 3, none⟩ = some (.slice none 0 0) := by rw [b2.cell (by simp)]; go_cell
  have fo3 : w2.frozen? ⟨w.heap.size + 1 + 1, 3, none⟩ = false := by rw [b2.frozen (by simp)]; (first | go_cell | (simp [World.frozen?, World.alloc]; done) | rfl)
  have r0 : w2.cell? ⟨w.heap.size + 1, 0, none⟩ = some (.int .i64 0) := by rw [b2.cell (by simp)]; go_cell
  have fr0 : w2.frozen? ⟨w.heap.size + 1, 0, none⟩ = false := by rw [b2.frozen (by simp)]; (first | go_cell | (simp [World.frozen?, World.alloc]; done) | rfl)
  have r1 : w2.cell? ⟨w.heap.size + 1, 1, none⟩ = some (.int .i64 0) := by rw [b2.cell (by simp)]; go_cell
  have fr1 : w2.frozen? ⟨w.heap.size + 1, 1, none⟩ = false := by rw [b2.frozen (by simp)]; (first | go_cell | (simp [World.frozen?, World.alloc]; done) | rfl)
  have r2 : w2.cell? ⟨w.heap.size + 1, 2, none⟩ = some (.int .i64 0) := by rw [b2.cell (by simp)]; go_cell
  have fr2 : w2.frozen? ⟨w.heap.size + 1, 2, none⟩ = false := by rw [b2.frozen (by simp)]; (first | go_cell | (simp [World.frozen?, World.alloc]; done) | rfl)
  have r3 : w2.cell? ⟨w.heap.size + 1, 3, none⟩ = some (.slice none 0 0) := by rw [b2.cell (by simp)]; go_cell
  have fr3 : w2.frozen? ⟨w.heap.size + 1, 3, none⟩ = false := by rw [b2.frozen (by simp)]; (first | go_cell | (simp [World.frozen?, World.alloc]; done) | rfl)
  have bb : Below w.heap.size w w2 := (Below.trans (by go_grown) (b2.mono (by first | omega | (simp; done) | (simp; omega))))
  have ho' : Own w2 (w.heap.size + 3) v' l := by simpa using ho
  have hz2 : w.heap.size + 3 ≤ w2.heap.size := by have := b2.size; simp at this; omega
  clear b2 ho
  obtain ⟨ao, cap, hv, _⟩ := ho'.rd
  subst hv
  have HO := hid ho'
  clear ho'
  go_wp2
  have e0 : ((((((w2.setCell ⟨w.heap.size + 1 + 1, 2, none⟩ (.int .i64 p2)).setCell ⟨w.heap.size + 1 + 1, 3, none⟩ (.slice ao l.length cap)).setCell ⟨w.heap.size + 1, 0, none⟩ (.int .i64 p0)).setCell ⟨w.heap.size + 1, 1, none⟩ (.int .i64 p1)).setCell ⟨w.heap.size + 1, 2, none⟩ (.int .i64 p2)).setCell ⟨w.heap.size + 1, 3, none⟩ (.slice ao l.length cap)).cell? ⟨w.heap.size + 1, 0, none⟩ = some (.int .i64 p0) := by go_cell
  have e1 : ((((((w2.setCell ⟨w.heap.size + 1 + 1, 2, none⟩ (.int .i64 p2)).setCell ⟨w.heap.size + 1 + 1, 3, none⟩ (.slice ao l.length cap)).setCell ⟨w.heap.size + 1, 0, none⟩ (.int .i64 p0)).setCell ⟨w.heap.size + 1, 1, none⟩ (.int .i64 p1)).setCell ⟨w.heap.size + 1, 2, none⟩ (.int .i64 p2)).setCell ⟨w.heap.size + 1, 3, none⟩ (.slice ao l.length cap)).cell? ⟨w.heap.size + 1, 1, none⟩ = some (.int .i64 p1) := by go_cell
  have e2 : ((((((w2.setCell ⟨w.heap.size + 1 + 1, 2, none⟩ (.int .i64 p2)).setCell ⟨w.heap.size + 1 + 1, 3, none⟩ (.slice ao l.length cap)).setCell ⟨w.heap.size + 1, 0, none⟩ (.int .i64 p0)).setCell ⟨w.heap.size + 1, 1, none⟩ (.int .i64 p1)).setCell ⟨w.heap.size + 1, 2, none⟩ (.int .i64 p2)).setCell ⟨w.heap.size + 1, 3, none⟩ (.slice ao l.length cap)).cell? ⟨w.heap.size + 1, 2, none⟩ = some (.int .i64 p2) := by go_cell
  have e3 : ((((((w2.setCell ⟨w.heap.size + 1 + 1, 2, none⟩ (.int .i64 p2)).setCell ⟨w.heap.size + 1 + 1, 3, none⟩ (.slice ao l.length cap)).setCell ⟨w.heap.size + 1, 0, none⟩ (.int .i64 p0)).setCell ⟨w.heap.size + 1, 1, none⟩ (.int .i64 p1)).setCell ⟨w.heap.size + 1, 2, none⟩ (.int .i64 p2)).setCell ⟨w.heap.size + 1, 3, none⟩ (.slice ao l.length cap)).cell? ⟨w.heap.size + 1, 3, none⟩ = some (.slice ao l.length cap) := by go_cell
  refine bodyPost_ret (v := .agg #[.int .i64 p0, .int .i64 p1, .int .i64 p2, .slice ao l.length cap]) (by simp [results, Tryz.results52, go_sem, e0, e1, e2, e3]) rfl ⟨_, rfl, ?_, ?_⟩
  · exact ((((((HO.out.apartSet (by simp) _).apartSet (by simp) _).apartSet (by simp) _).apartSet (by simp) _).apartSet (by simp) _).apartSet (by simp) _).mono (by omega)
  · go_grown

theorem Tryz.infoCommit_K : (Tryz.prog.info? 64).map (fun i => (i.zero, i.size, i.bytes)) = some (some (.agg #[.int .i64 0, .int .i64 0, .int .i64 0, .slice none 0 0]), 4, 48) := by kernel_rfl
set_option maxRecDepth 100000 in
set_option maxHeartbeats 2000000 in
theorem toCommitS_own (v : Value) (L : List KD) (w : World) (h : RdM 4 3 true w v L) (hl : L.length ≤ 1048576) (hbk : ∀ i, i < L.length → (L.getD i kd0).2.length ≤ 1048576) :
    Calls Tryz.prog 26 #[v] w fun e w' => ∃ v', e = .returned v' ∧ OwnM 64 4 3 true w' (Span w.heap.size w'.heap.size) v' L ∧ Below w.heap.size w w' := by
  obtain ⟨ao, cap, rfl, _, hc⟩ := h
  obtain ⟨i0, hi, hz0, hz1, hz2⟩ := info_parts Tryz.infoCommit_K
  have hby : i0.bytes * L.length ≤ 281474976710656 := by rw [hz2]; omega
  have hml : L.length ≤ maxLen := by unfold maxLen; omega
  have HBK := hid hbk
  clear hbk
  go_enter Tryz.func26, Tryz.ntmps26
  go_wp2_with (first | (at_make; refine wpList_make_full _ rfl (.tmp 6) (.tmp 6) 41 rfl w.heap.size 64 i0 _ 4 Tryz.underlying41 hi hz0 hz1 .i64 .i64 _ _ L.length rfl rfl rfl rfl hby hml (Nat.le_refl _) ?_; intro w1 hown hgrow))
  go_loopw [4] (fun i wr => ∃ (k : Nat) (xs : List Value) (us : Nat → Value), k ≤ L.length ∧ i = .int .i64 k ∧ Hid (FilM 4 3 true wr (Span (w.heap.size + 1) wr.heap.size) (some w.heap.size) xs us L k) ∧ Below w.heap.size w wr ∧
      wr.ownsRow w.heap.size 64 4 (.slice (some ⟨w.heap.size, 0, none⟩) L.length L.length) L.length xs) (fun i _ => L.length - (intOf i).toNat)
  case atStart => exact ⟨0, _, fun _ => .bool false, Nat.zero_le _, rfl, hid (FilM.zero _ _ _ _ _ _), (Below.refl _ _).grown hgrow (Nat.le_refl _) (by simp), hown⟩
  case round =>
    obtain ⟨k, xs, us, hk, rfl, hfil, hbel, hrow⟩ := hrel
    clear hown hgrow hby hi hz0 hz1 hz2
    by_cases hlt : k < L.length
    · obtain ⟨b, o, rfl, hb, hcc⟩ := hc (by omega)
      obtain ⟨p0, p1, p2, lx, ux, hx, c0, c1, c2, c3, hux⟩ := atK_3k ((hcc k hlt).later hb hbel)
      have hxl : xs.length = L.length * 4 := hrow.1
      have hgl := (hrow.lt w.heap.size rfl).2
      have HX := hid hx
      have HROW := hid hrow
      have hsz := hbel.size
      have HU := hid hux
      have hlen : lx.length ≤ 1048576 := by have := HBK.out k hlt; rw [hx] at this; exact this
      clear hux
      clear hcc hc hx
      go_wp2_with (first | (go_at_call 52; refine (toCommit_any p0 p1 p2 ux lx _ HU.out hlen).mono ?_; rintro e w2 ⟨z, rfl, oz, hb2⟩; obtain ⟨zo, zc, hzv, _⟩ := oz.rd; subst hzv; have HOZ := hid oz; clear oz; have hrow2 := row_later hrow hb2; have HR2 := hid hrow2; have HB2 := hid hb2; have hz2 := hb2.size; obtain ⟨q0, hq0⟩ := row_cell hrow2 (k * 4) (by omega); obtain ⟨q1, hq1⟩ := row_cell hrow2 (k * 4 + 1) (by omega); obtain ⟨q2, hq2⟩ := row_cell hrow2 (k * 4 + 2) (by omega); obtain ⟨q3, hq3⟩ := row_cell hrow2 (k * 4 + 3) (by omega); have f0 := hrow2.frozenAt (k * 4); have f1 := hrow2.frozenAt (k * 4 + 1); have f2 := hrow2.frozenAt (k * 4 + 2); have f3 := hrow2.frozenAt (k * 4 + 3); clear hrow2 hrow hb2))
      go_roundw
      case rel =>
        have hsl : ∀ p, p < k * 4 → ((((xs.set (k * 4) (.int .i64 p0)).set (k * 4 + 1) (.int .i64 p1)).set (k * 4 + 2) (.int .i64 p2)).set (k * 4 + 3) (.slice zo lx.length zc))[p]? = xs[p]? := fun p hp => by rw [List.getElem?_set_ne (by omega), List.getElem?_set_ne (by omega), List.getElem?_set_ne (by omega), List.getElem?_set_ne (by omega)]
        have hs0 : ((((xs.set (k * 4) (.int .i64 p0)).set (k * 4 + 1) (.int .i64 p1)).set (k * 4 + 2) (.int .i64 p2)).set (k * 4 + 3) (.slice zo lx.length zc))[k * 4]? = some (.int .i64 p0) := by rw [List.getElem?_set_ne (by omega), List.getElem?_set_ne (by omega), List.getElem?_set_ne (by omega), List.getElem?_set_self (by first | omega | (simp only [List.length_set]; omega))]
        have hs1 : ((((xs.set (k * 4) (.int .i64 p0)).set (k * 4 + 1) (.int .i64 p1)).set (k * 4 + 2) (.int .i64 p2)).set (k * 4 + 3) (.slice zo lx.length zc))[k * 4 + 1]? = some (.int .i64 p1) := by rw [List.getElem?_set_ne (by omega), List.getElem?_set_ne (by omega), List.getElem?_set_self (by first | omega | (simp only [List.length_set]; omega))]
        have hs2 : ((((xs.set (k * 4) (.int .i64 p0)).set (k * 4 + 1) (.int .i64 p1)).set (k * 4 + 2) (.int .i64 p2)).set (k * 4 + 3) (.slice zo lx.length zc))[k * 4 + 2]? = some (.int .i64 p2) := by rw [List.getElem?_set_ne (by omega), List.getElem?_set_self (by first | omega | (simp only [List.length_set]; omega))]
        have hs3 : ((((xs.set (k * 4) (.int .i64 p0)).set (k * 4 + 1) (.int .i64 p1)).set (k * 4 + 2) (.int .i64 p2)).set (k * 4 + 3) (.slice zo lx.length zc))[k * 4 + 3]? = some (.slice zo lx.length zc) := by rw [List.getElem?_set_self (by first | omega | (simp only [List.length_set]; omega))]
        refine ⟨k + 1, _, _, by omega, by go_num, hid (FilM.step hfil.out (.slice zo lx.length zc) (fun b _ hne hl => (heap_set_ne (j := k * 4 + 3) (x := (.slice zo lx.length zc)) (fun q => hne (by rw [q])) (heap_set_ne (j := k * 4 + 2) (x := (.int .i64 p2)) (fun q => hne (by rw [q])) (heap_set_ne (j := k * 4 + 1) (x := (.int .i64 p1)) (fun q => hne (by rw [q])) (heap_set_ne (j := k * 4) (x := (.int .i64 p0)) (fun q => hne (by rw [q])) (HB2.out.block b hl)))))) (fun b hb hl => ⟨hb.1, by have := hb.2; simp only [World.setCell, Array.size_modify]; omega⟩) (by decide) (by decide) hsl (by rw [HX.out]; rfl) (by rw [HX.out]; intro j hj; match j, hj with | 0, _ => exact hs0 | 1, _ => exact hs1 | 2, _ => exact hs2) (fun _ => by rw [HX.out]; exact ⟨hs3, (Own.agree (Own.mono HOZ.out (Nat.zero_le _)) (fun b hb => (heap_set_ne (j := k * 4 + 3) (x := (.slice zo lx.length zc)) (fun q => Nat.lt_irrefl _ (Nat.lt_of_lt_of_le (q ▸ hgl) (HOZ.out.block b hb).1)) (heap_set_ne (j := k * 4 + 2) (x := (.int .i64 p2)) (fun q => Nat.lt_irrefl _ (Nat.lt_of_lt_of_le (q ▸ hgl) (HOZ.out.block b hb).1)) (heap_set_ne (j := k * 4 + 1) (x := (.int .i64 p1)) (fun q => Nat.lt_irrefl _ (Nat.lt_of_lt_of_le (q ▸ hgl) (HOZ.out.block b hb).1)) (heap_set_ne (j := k * 4) (x := (.int .i64 p0)) (fun q => Nat.lt_irrefl _ (Nat.lt_of_lt_of_le (q ▸ hgl) (HOZ.out.block b hb).1)) rfl)))))), (fun b hb => by have h1 := (HOZ.out.block b hb).1; have h2 := (HOZ.out.block b hb).2; exact ⟨⟨by omega, by simp only [World.setCell, Array.size_modify]; exact h2⟩, fun q => by injection q with q; omega, h1⟩)⟩) (fun q => by cases q)), (((((hbel.trans (HB2.out.mono hsz)).setCell (p := ⟨w.heap.size, k * 4, none⟩) (Nat.le_refl _) (.int .i64 p0)).setCell (p := ⟨w.heap.size, k * 4 + 1, none⟩) (Nat.le_refl _) (.int .i64 p1)).setCell (p := ⟨w.heap.size, k * 4 + 2, none⟩) (Nat.le_refl _) (.int .i64 p2)).setCell (p := ⟨w.heap.size, k * 4 + 3, none⟩) (Nat.le_refl _) (.slice zo lx.length zc)), (row_put1 (row_put1 (row_put1 (row_put1 HR2.out (k * 4) (.int .i64 p0)) (k * 4 + 1) (.int .i64 p1)) (k * 4 + 2) (.int .i64 p2)) (k * 4 + 3) (.slice zo lx.length zc))⟩
      case measure => simp [intOf]; omega
    · have hkl : k = L.length := by omega
      go_wp2
      go_ret
      subst hkl
      exact ⟨_, rfl, ⟨xs, us, row_mono0 hrow, fun g hg => by cases hg; exact ⟨Nat.le_refl _, (hrow.lt _ rfl).2⟩, hfil.out.agree (fun _ _ _ _ => rfl) (fun b hb _ => ⟨Nat.le_of_succ_le hb.1, hb.2⟩)⟩, hbel⟩
end Go.Proofs.YtefhpbcdjgllnaaGreat
