/- The draw of a graph: l3Graph, its loop: contract. -/
import Derived.Test.YtkmhnjgncnoddaaGreatDw
import Derived.Deep.Cut
import Derived.Deep.CutRange
namespace Go.Proofs.YtkmhnjgncnoddaaGreat
open Go.RowKit
attribute [local go_sem ↓] Go.wp_at_zero Go.wp_at_succ

theorem nums_four (w : World) (a b c d : Int) (P : Int → Prop) (ha : P a) (hb : P b) (hc : P c) (hd : P d) : Nums (w.alloc (.cells #[.int .i64 a, .int .i64 b, .int .i64 c, .int .i64 d] 3)) w.heap.size 4 P := by
  refine ⟨by simp, fun i hi => ?_⟩
  rcases i with _ | _ | _ | _ | i
  · exact ⟨a, by go_cell, ha⟩
  · exact ⟨b, by go_cell, hb⟩
  · exact ⟨c, by go_cell, hc⟩
  · exact ⟨d, by go_cell, hd⟩
  · omega
theorem many_four (w : World) : Nums (w.alloc (.cells #[.int .i64 0, .int .i64 3, .int .i64 8, .int .i64 15] 3)) w.heap.size 4 (fun z => 0 ≤ z ∧ z ≤ 15) :=
  nums_four w 0 3 8 15 (fun z => 0 ≤ z ∧ z ≤ 15) ⟨by omega, by omega⟩ ⟨by omega, by omega⟩ ⟨by omega, by omega⟩ ⟨by omega, by omega⟩

theorem grown_undrew {w w' : World} {row : Option Nat} (h : w.drew.grownBy w' row) : w.grownBy w' row := ⟨h.os, h.tape, h.output, h.size, h.block⟩
theorem grown_newrow {a b c : World} {row row' : Option Nat} (h : a.grownBy b row) (hg : b.grownBy c row') (hr : ∀ k, row' = some k → a.heap.size ≤ k) : a.grownBy c row :=
  ⟨hg.os.trans h.os, hg.tape.trans h.tape, hg.output.trans h.output, Nat.le_trans h.size hg.size, fun k hk hne => (hg.block k (Nat.lt_of_lt_of_le hk h.size) (fun e => by have := hr k e.symm; omega)).trans (h.block k hk hne)⟩

set_option maxRecDepth 100000 in
set_option maxHeartbeats 8000000 in
theorem l3Graph_any (gr p B : Nat) (w : World) (h : Rdr w B gr p) (hp : p ≤ 1000000) :
    Calls Tryz.prog 32 #[.pointer (some ⟨gr, 0, none⟩)] w fun e w' => (∃ (L : List ValD) (v : Value) (q : Nat), e = .returned (.agg #[v]) ∧ FromG w.heap.size w' v L ∧ q ≤ p + 1000 ∧ Rdr w' B gr q) ∧ w.grownBy w' (some gr) := by
  have hgr := h.2.1
  have HR := hid h
  clear h
  go_enter Tryz.func32, Tryz.ntmps32
  go_wp2_with fail
  have r0_1 : (w.alloc (.cells #[.slice none 0 0] 25)).cell? ⟨w.heap.size, 0, none⟩ = some (.slice none 0 0) := by go_cell
  have rf0_1 : (w.alloc (.cells #[.slice none 0 0] 25)).frozen? ⟨w.heap.size, 0, none⟩ = false := by (first | go_cell | (simp [World.frozen?, World.alloc]; done) | rfl)
  have rl_1 : w.heap.size < (w.alloc (.cells #[.slice none 0 0] 25)).heap.size := by first | (simp; done) | (simp; omega)
  have c1 : Below w.heap.size w (w.alloc (.cells #[.slice none 0 0] 25)) := by go_grown
  have s1 : (w.alloc (.cells #[.slice none 0 0] 25)).heap.size = w.heap.size + 1 := by simp
  generalize (w.alloc (.cells #[.slice none 0 0] 25)) = w1 at r0_1 rf0_1 rl_1 c1 s1 ⊢
  have qr0_1 := cell_regrown r0_1
  have g1 := hid (show w.grownBy w1 (some gr) from grown_wide (grownBelowR c1))
  refine (specGOpenR_any _).mono ?_
  rintro e w2 ⟨⟨g, xs, rfl, hrow⟩, b2⟩
  have d2 : Below w1.heap.size w1 w2 := (Below.trans (by go_grown) (b2.mono (by first | omega | (simp; done) | (simp; omega))))
  have c2 : Below w.heap.size w w2 := c1.trans (d2.mono c1.size)
  have r0_2 : w2.cell? ⟨w.heap.size, 0, none⟩ = some (.slice none 0 0) := (by rw [b2.cell (by first | omega | (simp; done) | (simp; omega))]; go_cell)
  have rf0_2 : w2.frozen? ⟨w.heap.size, 0, none⟩ = false := (by rw [b2.frozen (by first | omega | (simp; done) | (simp; omega))]; (first | go_cell | (simp [World.frozen?, World.alloc]; done) | rfl))
  have rl_2 : w.heap.size < w2.heap.size := (by have := b2.size; first | omega | (revert this; simp; done) | (revert this; simp; omega))
  clear r0_1 rf0_1 rl_1
  have HK2 := hid (hrow.mono (B' := w.heap.size + 1) (by omega))
  have hz2 : w.heap.size < w2.heap.size := rl_2
  clear b2 d2 hrow
  go_wp2_with fail
  have hG3 := hid (show GrL w (w2.alloc (.cells #[.slice (some ⟨g, 0, none⟩) 24 24] 25)) B gr p w2.heap.size (.slice (some ⟨g, 0, none⟩) 24 24) zeroG from by
    have hb : Below w2.heap.size w2 (w2.alloc (.cells #[.slice (some ⟨g, 0, none⟩) 24 24] 25)) := (Below.refl _ w2).alloc (Nat.le_refl _) _
    have ct := c2.trans (hb.mono c2.size)
    exact ⟨HR.out.later ct, grown_wide (grownBelowR ct), hgr, (hb.cell (p := ⟨w.heap.size, 0, none⟩) hz2).trans r0_2, (hb.frozen (p := ⟨w.heap.size, 0, none⟩) hz2).trans rf0_2, by go_cell, by (first | go_cell | (simp [World.frozen?, World.alloc]; done) | rfl),
      ⟨_, heap_alloc_new w2 _⟩, hz2, by simp, ⟨xs, HK2.out.later hb⟩⟩)
  have hs3 : (w2.alloc (.cells #[.slice (some ⟨g, 0, none⟩) 24 24] 25)).heap.size = w2.heap.size + 1 := by simp
  clear HK2 r0_2 rf0_2 rl_2 c2 g1 HR c1 s1
  generalize (w2.alloc (.cells #[.slice (some ⟨g, 0, none⟩) 24 24] 25)) = w3 at *
  generalize w2.heap.size = bg at *
  have hN4 := many_four w3
  rw [hs3] at hN4
  have hA := hid (hG3.out.below (w' := w3.alloc (.cells #[.int .i64 0, .int .i64 3, .int .i64 8, .int .i64 15] 3)) (by go_grown))
  have hg3 := Nat.lt_of_lt_of_le hgr hG3.out.grown.size
  refine (num_any gr p (bg + 1) 4 4 B _ _ hA.out.rdr (by omega) (by omega) (by omega) (by omega) hN4).mono ?_
  rintro e w4 ⟨z0, rfl, hz0, R4, g4⟩
  have hG4 := hid (hA.out.kept R4 g4)
  clear hA hG3 R4 g4 hg3 hN4 hs3
  go_wp2_with fail
  go_loopw [4] (fun i wr => ∃ (z : Int) (q : Nat) (v : Value) (L : List ValD), i = .int .i64 z ∧ 0 ≤ z ∧ z ≤ 15 ∧ q + 20 * z.toNat ≤ p + 400 ∧ Hid (GrL w wr B gr q bg v L) ∧ Hid (okG L = true)) (fun i _ => (intOf i).toNat)
  case atStart => exact ⟨z0, p + 1, _, zeroG, rfl, hz0.1, hz0.2, by omega, hG4, hid okG_zero⟩
  case round =>
    obtain ⟨z, q, v, L, rfl, hz1, hz2', hq, hG, hok⟩ := hrel
    have hlen := hid (okG_true hok.out).1
    obtain ⟨xs2, hrw⟩ := hG.out.row
    obtain ⟨g2, cp2, hv⟩ := ownsRow_succ hrw.1
    subst hv
    have hRG := hid (hrw.rdG hlen.out)
    clear hrw
    have v0 := hG.out.var
    have vf := hG.out.varf
    have hbz := hG.out.sz
    have hbw := hG.out.hbg
    have hBr := hG.out.rdr.1
    have hgrw := Nat.lt_of_lt_of_le hgr hG.out.grown.size
    have hbw' : bg < wr.heap.size := hbz
    by_cases hpos : 0 < z
    · go_upto_region 5 with fail
      go_cut [5, 6] from 15 to 23 (fun s5 s6 wx => GrX w wr B gr q bg (.slice (some ⟨g2, 0, none⟩) 24 cp2) L s5 s6 wx)
      case first =>
        go_region_with (first
          | (go_at_call 33; refine (l3Op_any gr q B _ (hG.out.rdr.later (by go_grown)) (by omega)).mono ?_; rintro e w5 ⟨k, a, c, n, q5, rfl, hB5, hq5, R5, g5⟩; (first | with_reducible have Z5 := VarG.drawn g5 hgrw | skip); have hG5 := hid ((hG.out.below (by go_grown)).kept R5 g5); have hRG5 := hid (show RdG w5 (.slice (some ⟨g2, 0, none⟩) 24 cp2) L from by obtain ⟨xs5, hx5⟩ := hG5.out.row; exact hx5.rdG hlen.out); have s5' := g5.size; have zz5 : wr.heap.size ≤ w5.heap.size := (by simp at s5'; omega); have v05 := hG5.out.var; have b05 := hG5.out.sz; clear R5 g5)
          | (go_at_call 9; refine (specGDo_any _ L k a c n _ (hRG5.out.later (by go_grown)) hok.out).mono ?_; rintro e w6 ⟨⟨v6, xs6, rfl, hr6⟩, b6⟩; obtain ⟨g6, cp6, hv6⟩ := ownsRow_succ hr6.1; subst hv6; have d6 : Below w5.heap.size w5 w6 := (Below.trans (by go_grown) (b6.mono (by first | omega | (simp; done) | (simp; omega)))); (first | (with_reducible have Z6 := VarG.later Z5 d6; have y0 := Z6.c0; have y1 := Z6.f0; have y2 := Z6.lt) | (with_reducible have Z6 := VarG.past b6; have y0 := Z6.c0; have y1 := Z6.f0; have y2 := Z6.lt) | skip); have hG6 := hid (hG5.out.below d6); have hr6 := hid hr6; have s6' := d6.size; clear b6))
        all_goals
          go_wp2_with fail
          go_meet
          first
            | (with_reducible refine GrX.of_new hG6.out (by omega) hB5 hr6.out ?_; first | omega | (simp; omega))
            | (with_reducible refine GrX.of_set Z6 hG6.out (by omega) hB5 hr6.out ?_ ?_ ?_ ?_ <;> first | omega | (simp; done) | (simp; omega) | (have s5q := s5'; simp at s5q; omega) | (have s5q := s5'; simp at s5q; simp; omega))
      case rest =>
        obtain ⟨bx, g', c', q', k, a, c, n, xs', rfl, rfl, hG6, hq6, x0, xl, hr6, hB6⟩ := hcut
        obtain ⟨w6, hw6⟩ : ∃ y, y = wc := ⟨_, rfl⟩
        subst hw6
        have hG6 := hid hG6
        have hr6 := hid hr6
        have hq7 : q' + 20 * (z - 1).toNat ≤ p + 400 := by omega
        have v6 := hG6.out.var
        have vf6 := hG6.out.varf
        have hbz6 := hG6.out.sz
        clear hG v0 vf hbz hRG
        have hokn := hid (okG_do hok.out k a c n)
        cases hO : opOk k a c n with
        | true =>
          have hG7 := hid (hG6.out.put hr6.out hbw')
          go_wp2
          go_roundw
          case rel => exact ⟨z - 1, q', _, _, by go_num, by omega, by omega, hq7, hG7, hokn⟩
          case measure => simp [intOf]; omega
        | false =>
          go_wp2
          go_roundw
          case rel => exact ⟨z - 1, q', _, _, by go_num, by omega, by omega, hq7, hG6, hok⟩
          case measure => simp [intOf]; omega
    · have hz0' : z = 0 := by omega
      subst hz0'
      go_wp2_with fail
      refine (pick_any gr q 30 B _ hG.out.rdr (by omega) (by omega)).mono ?_
      rintro e w7 ⟨r, rfl, hr0, hr1, R7, g7⟩
      have hG7 := hid (hG.out.kept R7 g7)
      clear R7 g7 hG v0 vf hbz hRG
      obtain ⟨xs7, hk⟩ := hG7.out.row
      have hk7 := hid hk
      have hcp : 24 ≤ cp2 := by
        rcases hk.1.2 with ⟨h, _⟩ | ⟨_, _, _, h, _, _, hle, _⟩
        · cases h
        · cases h; exact hle
      obtain ⟨cs7, ht7⟩ := hG7.out.typ
      have HT := hid ht7
      clear hk ht7
      have v7 := hG7.out.var
      have vf7 := hG7.out.varf
      have s7 := hG7.out.res
      have sf7 := hG7.out.resf
      have hbz7 := hG7.out.sz
      have hgl7 := (hk7.out.1.lt g2 rfl).2
      have hB1 := (hk7.out.1.lt g2 rfl).1
      have HQ := hid (show q ≤ p + 400 from by omega)
      have hwb : w.heap.size ≠ bg := by omega
      have hgg : w.heap.size ≠ g2 := by omega
      have hgb : bg ≠ g2 := fun e => row_off_typ hk7.out.1 HT.out (by show some g2 = some bg; rw [e])
      by_cases e0 : r = 0
      · subst e0
        have HF := hid (((hk7.out.offVar (x := .slice (some ⟨g2, 0, none⟩) 20 cp2) HT.out).fromTake hlen.out (show 20 ≤ 24 by omega) cp2).set (p := ⟨w.heap.size, 0, none⟩) (by show w.heap.size < w.heap.size + 1; omega) (.slice (some ⟨g2, 0, none⟩) 20 cp2))
        have HRR := hid ((hG7.out.rdr.setFar (a := ⟨bg, 0, none⟩) (by show B ≤ bg; omega) (by show ¬ bg = gr; omega) (.slice (some ⟨g2, 0, none⟩) 20 cp2)).setFar (a := ⟨w.heap.size, 0, none⟩) (by show B ≤ w.heap.size; omega) (by show ¬ w.heap.size = gr; omega) (.slice (some ⟨g2, 0, none⟩) 20 cp2))
        have HGG := hid (grown_set_new (grown_set_new hG7.out.grown (a := ⟨bg, 0, none⟩) (by show w.heap.size ≤ bg; omega) (.slice (some ⟨g2, 0, none⟩) 20 cp2)) (a := ⟨w.heap.size, 0, none⟩) (Nat.le_refl _) (.slice (some ⟨g2, 0, none⟩) 20 cp2))
        have x0 : ((w7.setCell ⟨bg, 0, none⟩ (.slice (some ⟨g2, 0, none⟩) 20 cp2)).setCell ⟨w.heap.size, 0, none⟩ (.slice (some ⟨g2, 0, none⟩) 20 cp2)).cell? ⟨w.heap.size, 0, none⟩ = some (.slice (some ⟨g2, 0, none⟩) 20 cp2) := by go_cell
        go_wp2
        refine bodyPost_ret (v := .agg #[.slice (some ⟨g2, 0, none⟩) 20 cp2]) (by simp [results, Tryz.results32, go_sem, x0]) rfl ⟨⟨_, _, _, rfl, HF.out.mono (by omega), ?_, HRR.out⟩, HGG.out⟩
        have := HQ.out
        omega
      by_cases e1 : r = 1
      · subst e1
        obtain ⟨h8, u8, hu8, ho8⟩ := hk7.out.2 8 (by omega)
        have hlk : (L.getD 8 valD0).2.length ≤ 8 := okL_le ((okG_true hok.out).2.1.ok (by omega))
        generalize L.getD 8 valD0 = l8 at h8 ho8 hlk
        obtain ⟨uo, uc, huv, _⟩ := ho8.rd
        have hu8c : w7.cell? ⟨g2, 17, none⟩ = some u8 := (hk7.out.1.cellAt 17 (by omega)).trans hu8
        subst huv
        obtain ⟨i0, hi, hz0, hz1, hz2⟩ := info_parts Tryz.info137
        have hal := hid ((Below.refl w7.heap.size w7).alloc (Nat.le_refl _) (.cells #[.int .i64 7, .int .i64 0] 137))
        have hk8 := hid (hk7.out.later hal.out)
        have ho8' := hid ((ho8.later hal.out) : Own _ _ _ _)
        have HU8 := hid hu8
        have hGa := hid (hG7.out.below hal.out)
        have HNW := hid (cells_two_new w7 (.int .i64 7) (.int .i64 0) 137)
        have f17 := hk7.out.frz 17
        have hkm : l8.2.length + 1 ≤ maxLen := by unfold maxLen; omega
        have hkb : (l8.2.length + 1) * 16 ≤ 140737488355328 := by omega
        have hzz : w.heap.size + 1 ≤ (w7.alloc (.cells #[.int .i64 7, .int .i64 0] 137)).heap.size := by simp; omega
        have hne17 : some (⟨g2, 17, none⟩ : Addr).block ≠ (Value.slice uo l8.2.length uc).ownBlock := fun e => own_off_row hk7.out.1 ho8 g2 rfl e.symm
        have c17 := hid ((hal.out.cell (p := ⟨g2, 17, none⟩) hgl7).trans hu8c)
        have f17a := hid ((hal.out.frozen (p := ⟨g2, 17, none⟩) hgl7).trans f17)
        have hgla := Nat.lt_of_lt_of_le hgl7 hal.out.size
        have hneb : some (⟨bg, 0, none⟩ : Addr).block ≠ (Value.slice uo l8.2.length uc).ownBlock := fun e => kin_off_typ ho8 HT.out e.symm
        have hner : some (⟨w.heap.size, 0, none⟩ : Addr).block ≠ (Value.slice uo l8.2.length uc).ownBlock := fun e => by have := (ho8.block _ e.symm).1; simp only at this; omega
        have vb0 := hid (hGa.out.var)
        have sb0 := hid (hGa.out.res)
        have sbf := hid (hGa.out.resf)
        have hszr : w.heap.size < (w7.alloc (.cells #[.int .i64 7, .int .i64 0] 137)).heap.size := by omega
        clear hu8 ho8 h8
        go_wp2_with fail
        go_region_law (first
          | (refine step_append_own rfl _ _ 36 rfl (w.heap.size + 1) 137 i0 (.agg #[.int .i64 0, .int .i64 0]) 2 16 Tryz.underlying36 hi hz0 hz1 hz2 rfl (by decide) (.slice uo l8.2.length uc) l8.2.length _ (by simp [Act.eval]) ho8'.out ⟨w7.heap.size, 0, none⟩ 1 1 [.int .i64 7, .int .i64 0] (by simp [Act.eval]) rfl HNW.out (by simp [Value.oneCell']) hkm hkb hzz ?_; intro v9 w9 hown9 hgrow9 _; obtain ⟨g9, c9, hv9⟩ := ownsRow_succ hown9; subst hv9; have HO9 := hid hown9; have HG9 := hid (grown_undrew hgrow9); have y17 := hgrow9.cell c17.out hne17; have yb := hgrow9.cell vb0.out hneb; have yr := hgrow9.cell sb0.out hner; have yf := (hgrow9.frozen_far ⟨w.heap.size, 0, none⟩ hszr hner).trans sbf.out; have z17 := (hgrow9.frozen_far ⟨g2, 17, none⟩ hgla hne17).trans f17a.out; clear hown9 hgrow9))
        all_goals
          have HOw := hid (show Own w9 (w.heap.size + 1) (.slice (some ⟨g9, 0, none⟩) (l8.2.length + 1) c9) (l8.2 ++ [(7, 0)]) from by
            have h := HO9.out
            show World.ownsRow _ _ _ _ _ _ _
            rw [ecells_append, List.length_append]
            exact h)
          have HF := hid ((RowN.kin hk8.out hlen.out (show 8 < 24 by omega) HU8.out HG9.out HOw.out).set (p := ⟨w.heap.size, 0, none⟩) (by show w.heap.size < w.heap.size + 1; omega) (.slice (some ⟨g2, 0, none⟩) 24 cp2))
          have hrow9 : ∀ j, (Value.slice uo l8.2.length uc).ownBlock = some j → w.heap.size + 1 ≤ j := fun j hj => (ho8'.out.block j hj).1
          have R9 := hid (hGa.out.rdr.kept HG9.out (fun j e => by have := hrow9 j e; have := hGa.out.rdr.1; omega) (fun e => by have := hrow9 gr e; omega))
          have HRR := hid ((R9.out.setFar (a := ⟨g2, 17, none⟩) (by show B ≤ g2; omega) (by show ¬ g2 = gr; omega) (.slice (some ⟨g9, 0, none⟩) (l8.2.length + 1) c9)).setFar (a := ⟨w.heap.size, 0, none⟩) (by show B ≤ w.heap.size; omega) (by show ¬ w.heap.size = gr; omega) (.slice (some ⟨g2, 0, none⟩) 24 cp2))
          have G9 := hid (grown_newrow hGa.out.grown HG9.out (fun j e => by have := hrow9 j e; omega))
          have HGG := hid (grown_set_new (grown_set_new G9.out (a := ⟨g2, 17, none⟩) (by show w.heap.size ≤ g2; omega) (.slice (some ⟨g9, 0, none⟩) (l8.2.length + 1) c9)) (a := ⟨w.heap.size, 0, none⟩) (Nat.le_refl _) (.slice (some ⟨g2, 0, none⟩) 24 cp2))
          have x0 : ((w9.setCell ⟨g2, 17, none⟩ (.slice (some ⟨g9, 0, none⟩) (l8.2.length + 1) c9)).setCell ⟨w.heap.size, 0, none⟩ (.slice (some ⟨g2, 0, none⟩) 24 cp2)).cell? ⟨w.heap.size, 0, none⟩ = some (.slice (some ⟨g2, 0, none⟩) 24 cp2) := by go_cell
          go_wp2
          refine bodyPost_ret (v := .agg #[.slice (some ⟨g2, 0, none⟩) 24 cp2]) (by simp [results, Tryz.results32, go_sem, x0]) rfl ⟨⟨_, _, _, rfl, HF.out.mono (by omega), ?_, HRR.out⟩, HGG.out⟩
          have := HQ.out
          omega
      by_cases e2 : r = 2
      · subst e2
        have HF := hid ((show FromG (w.heap.size + 1) (w7.setCell ⟨g2, 2, none⟩ (.int .i64 (-1))) (.slice (some ⟨g2, 0, none⟩) 24 cp2) _ from hk7.out.num hlen.out (show 1 < 24 by omega) (-1)).set (p := ⟨w.heap.size, 0, none⟩) (by show w.heap.size < w.heap.size + 1; omega) (.slice (some ⟨g2, 0, none⟩) 24 cp2))
        have hg2g : g2 ≠ gr := by omega
        have HRR := hid ((hG7.out.rdr.setFar (a := ⟨g2, 2, none⟩) (by show B ≤ g2; omega) (by show ¬ g2 = gr; omega) (.int .i64 (-1))).setFar (a := ⟨w.heap.size, 0, none⟩) (by show B ≤ w.heap.size; omega) (by show ¬ w.heap.size = gr; omega) (.slice (some ⟨g2, 0, none⟩) 24 cp2))
        have HGG := hid (grown_set_new (grown_set_new hG7.out.grown (a := ⟨g2, 2, none⟩) (by show w.heap.size ≤ g2; omega) (.int .i64 (-1))) (a := ⟨w.heap.size, 0, none⟩) (Nat.le_refl _) (.slice (some ⟨g2, 0, none⟩) 24 cp2))
        have y2 : ∃ y, w7.cell? ⟨g2, 2, none⟩ = some y := ⟨_, hk7.out.c0 (k := 1) (by omega)⟩
        obtain ⟨y, y2⟩ := y2
        have f2 := hk7.out.frz 2
        have x0 : ((w7.setCell ⟨g2, 2, none⟩ (.int .i64 (-1))).setCell ⟨w.heap.size, 0, none⟩ (.slice (some ⟨g2, 0, none⟩) 24 cp2)).cell? ⟨w.heap.size, 0, none⟩ = some (.slice (some ⟨g2, 0, none⟩) 24 cp2) := by go_cell
        go_wp2
        refine bodyPost_ret (v := .agg #[.slice (some ⟨g2, 0, none⟩) 24 cp2]) (by simp [results, Tryz.results32, go_sem, x0]) rfl ⟨⟨_, _, _, rfl, HF.out.mono (by omega), ?_, HRR.out⟩, HGG.out⟩
        have := HQ.out
        omega
      have e0' : (r == 0) = false := by simpa using e0
      have e1' : (r == 1) = false := by simpa using e1
      have e2' : (r == 2) = false := by simpa using e2
      have HF := hid ((hk7.out.from hlen.out).set (p := ⟨w.heap.size, 0, none⟩) (by show w.heap.size < w.heap.size + 1; omega) (.slice (some ⟨g2, 0, none⟩) 24 cp2))
      have HRR := hid (hG7.out.rdr.setFar (a := ⟨w.heap.size, 0, none⟩) (by show B ≤ w.heap.size; omega) (by show ¬ w.heap.size = gr; omega) (.slice (some ⟨g2, 0, none⟩) 24 cp2))
      have HGG := hid (grown_set_new hG7.out.grown (a := ⟨w.heap.size, 0, none⟩) (Nat.le_refl _) (.slice (some ⟨g2, 0, none⟩) 24 cp2))
      have x0 : (w7.setCell ⟨w.heap.size, 0, none⟩ (.slice (some ⟨g2, 0, none⟩) 24 cp2)).cell? ⟨w.heap.size, 0, none⟩ = some (.slice (some ⟨g2, 0, none⟩) 24 cp2) := by go_cell
      go_wp2
      refine bodyPost_ret (v := .agg #[.slice (some ⟨g2, 0, none⟩) 24 cp2]) (by simp [results, Tryz.results32, go_sem, x0]) rfl ⟨⟨_, _, _, rfl, HF.out.mono (by omega), ?_, HRR.out⟩, HGG.out⟩
      have := HQ.out
      omega
end Go.Proofs.YtkmhnjgncnoddaaGreat
