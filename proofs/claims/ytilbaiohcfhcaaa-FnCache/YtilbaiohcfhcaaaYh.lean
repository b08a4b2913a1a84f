/- The draw of a cache, a key and a floor: contract. Written by a program (gyf.py). -/
import Derived.Test.YtilbaiohcfhcaaaYf
import Derived.Deep.Cut
namespace Go.Proofs.Ytilbaiohcfhcaaa
open Go.RowKit
attribute [local go_sem ↓] Go.wp_at_zero Go.wp_at_succ

theorem nums_past8 {w w' : World} {g : Nat} (hg : ((w.alloc (.cells #[.int .i64 0, .int .i64 1, .int .i64 2, .int .i64 4, .int .i64 6, .int .i64 60, .int .i64 61, .int .i64 (-1)] 3)).drew).grownBy w' (some g)) (hne : w.heap.size ≠ g) : Nums w' w.heap.size 8 (fun z => -1 ≤ z ∧ z ≤ 61) :=
  (nums_eight w).kept (show (w.alloc (.cells #[.int .i64 0, .int .i64 1, .int .i64 2, .int .i64 4, .int .i64 6, .int .i64 60, .int .i64 61, .int .i64 (-1)] 3)).grownBy w' (some g) from ⟨hg.os, hg.tape, hg.output, hg.size, hg.block⟩) hne
set_option maxRecDepth 100000 in
set_option maxHeartbeats 8000000 in
theorem drawCFloor_any (v : Value) (n : Nat) (w : World) (h : Bs w v n) :
    Calls Try.prog 12 #[v] w fun e w' => (∃ (v0 v1 : Value) (I F : List KD) (key ver : Int), e = .returned (.tuple #[.agg #[v0, v1], .int .i64 key, .int .i64 ver]) ∧ RSCache w' v0 v1 I F ∧ (-1 ≤ ver ∧ ver ≤ 61)) ∧ Below w.heap.size w w' := by
  have hbs := hid h
  obtain ⟨ao, cap, rfl, h0, h1, h2, h3⟩ := h
  have hV1 := hid (VarAt.new2 w (.slice none 0 0) (.slice none 0 0) 26)
  have hW0 := hid (show Below w.heap.size w (w.alloc (.cells #[.slice none 0 0, .slice none 0 0] 26)) from by go_grown)
  have hWs : w.heap.size + 1 = (w.alloc (.cells #[.slice none 0 0, .slice none 0 0] 26)).heap.size := by simp
  have HWS := hid hWs
  clear hWs
  go_enter Try.func12, Try.ntmps12
  go_wp2_with fail
  generalize w.alloc (.cells #[.slice none 0 0, .slice none 0 0] 26) = W at hV1 hW0 HWS ⊢
  obtain ⟨ao', cap', hv', _, _, _, h3'⟩ := (hbs.out.later hW0.out)
  cases hv'
  refine (open_any ao n cap _ h0 h1 h2 h3').mono ?_
  rintro e w1 ⟨g, rfl, R1, b1⟩
  have hgW := R1.1
  have hg1 := R1.2.1
  have hRw : w.heap.size < W.heap.size := by have := HWS.out; omega
  have hgr : some g ≠ some w.heap.size := fun e => by have := Option.some.inj e; omega
  have V1 := hid (hV1.out.later b1)
  have C1 := hid (hW0.out.trans (b1.mono hW0.out.size))
  have HR1 := hid R1
  have hz1 := b1.size
  clear b1 R1 hV1 hW0 
  go_wp2_with fail
  refine (l5Drawn_any g 0 _ _ HR1.out (by omega)).mono ?_
  rintro e w2 ⟨⟨v0, v1, I, F, rfl, hI8, hap⟩, g2, q, hq, R2⟩
  obtain ⟨o0, o1, c0, c1, rfl, rfl⟩ := hap.self.open
  have HR2 := hid R2
  have V2 := hid (V1.out.kept g2 hgr)
  have C2 := hid (show Below w.heap.size w w2 from C1.out.grown g2 C1.out.size (fun j e => by have := Option.some.inj e; omega))
  have AP2 := hid hap.apC
  have hz2 := g2.size
  clear R2 g2 hap V1 C1 HR1 
  go_wp2_with fail
  have L3 : Below w2.heap.size w2 (w2.alloc (.cells #[.slice o0 I.length c0, .slice o1 F.length c1] 26)) := by go_grown
  have VC3 := hid (VarAt.new2 w2 (.slice o0 I.length c0) (.slice o1 F.length c1) 26)
  have HR3 := hid (HR2.out.later L3)
  have V3 := hid (V2.out.later L3)
  have C3 := hid (C2.out.trans (L3.mono C2.out.size))
  have AP3 := hid (AP2.out.later L3)
  have hz3 : w2.heap.size < (w2.alloc (.cells #[.slice o0 I.length c0, .slice o1 F.length c1] 26)).heap.size := by simp
  clear L3 HR2 V2 C2 AP2 
  generalize w2.alloc (.cells #[.slice o0 I.length c0, .slice o1 F.length c1] 26) = w3 at VC3 HR3 V3 C3 AP3 hz3 ⊢
  obtain ⟨bc, hbc⟩ : ∃ b, w2.heap.size = b := ⟨_, rfl⟩
  rw [hbc] at VC3 AP3 hz2 hz3 ⊢
  clear hbc
  have hgb : some g ≠ some bc := fun e => by have := Option.some.inj e; omega
  have hrw1 : w.heap.size < w1.heap.size := by omega
  refine (l2Key_any g q _ _ HR3.out (by omega)).mono ?_
  rintro e w4 ⟨k, rfl, _, ⟨q4, hqa, hqb, R4⟩, g4⟩
  have VC4 := hid (VC3.out.kept (show w3.grownBy w4 (some g) from ⟨g4.os, g4.tape, g4.output, g4.size, g4.block⟩) hgb)
  have V4 := hid (V3.out.kept (show w3.grownBy w4 (some g) from ⟨g4.os, g4.tape, g4.output, g4.size, g4.block⟩) hgr)
  have AP4 := hid (AP3.out.kept (show w3.grownBy w4 (some g) from ⟨g4.os, g4.tape, g4.output, g4.size, g4.block⟩) hg1)
  have C4 := hid (show Below w.heap.size w w4 from C3.out.grown (show w3.grownBy w4 (some g) from ⟨g4.os, g4.tape, g4.output, g4.size, g4.block⟩) C3.out.size (fun j e => by have := Option.some.inj e; omega))
  have HR4 := hid R4
  have x0_4 := VC4.out.c 0 rfl
  have x1_4 := VC4.out.c 1 rfl
  have xl_4 := VC4.out.1
  have r0_4 := V4.out.c 0 rfl
  have r1_4 := V4.out.c 1 rfl
  have rf0_4 := V4.out.f 0 rfl
  have rf1_4 := V4.out.f 1 rfl
  have rl_4 := V4.out.1
  clear R4 g4 VC3 V3 AP3 C3 HR3
  by_cases hI : 0 < I.length
  · have hIl : (0 : Int) < (I.length : Int) := by omega
    obtain ⟨bi, oi, ho0⟩ := rdm_some AP4.out.self.h0 hI
    subst ho0
    go_wp2_with fail
    refine (pick_any g q4 2 _ _ HR4.out (by omega) (by omega)).mono ?_
    rintro e w5 ⟨z, rfl, z0, z1, R5, g5⟩
    have VC5 := hid (VC4.out.kept (show w4.grownBy w5 (some g) from ⟨g5.os, g5.tape, g5.output, g5.size, g5.block⟩) hgb)
    have V5 := hid (V4.out.kept (show w4.grownBy w5 (some g) from ⟨g5.os, g5.tape, g5.output, g5.size, g5.block⟩) hgr)
    have AP5 := hid (AP4.out.kept (show w4.grownBy w5 (some g) from ⟨g5.os, g5.tape, g5.output, g5.size, g5.block⟩) hg1)
    have C5 := hid (show Below w.heap.size w w5 from C4.out.grown (show w4.grownBy w5 (some g) from ⟨g5.os, g5.tape, g5.output, g5.size, g5.block⟩) C4.out.size (fun j e => by have := Option.some.inj e; omega))
    have HR5 := hid R5
    have x0_5 := VC5.out.c 0 rfl
    have x1_5 := VC5.out.c 1 rfl
    have xl_5 := VC5.out.1
    have r0_5 := V5.out.c 0 rfl
    have r1_5 := V5.out.c 1 rfl
    have rf0_5 := V5.out.f 0 rfl
    have rf1_5 := V5.out.f 1 rfl
    have rl_5 := V5.out.1
    clear R5 g5 z1 VC4 V4 AP4 C4 HR4 x0_4 x1_4 r0_4 r1_4 rf0_4 rf1_4
    by_cases hz : z = 0
    · subst hz
      have kc := key_cell AP5.out.self.h0 0 hI
      obtain ⟨key, hkey⟩ : ∃ z : Int, keyK (I.getD 0 kd0) = z := ⟨_, rfl⟩
      rw [hkey, Nat.zero_mul, Nat.add_zero] at kc
      clear hkey
      go_upto_region 6 with fail
      go_region_with (first
        | (go_at_call 32; refine (num_any g (q4 + 1) w5.heap.size 8 8 _ _ _ (HR5.out.later (by go_grown)) (by omega) (by omega) (by omega) (by have := HR5.out.2.1; omega) ((nums_eight w5).later (by go_grown))).mono ?_; rintro e w59 ⟨ver, rfl, hver, R59, g9⟩; have G9 := (show w5.grownBy w59 (some g) from grown_trans (show w5.grownBy _ (some g) from grown_wide (grownBelowR (by go_grown))) g9); have VC59 := hid (VC5.out.kept G9 hgb); have V59 := hid (V5.out.kept G9 hgr); have AP59 := hid (AP5.out.kept G9 hg1); have C59 := hid (show Below w.heap.size w w59 from C5.out.grown G9 C5.out.size (fun j e => by have := Option.some.inj e; omega)); have x0_59 := VC59.out.c 0 rfl; have x1_59 := VC59.out.c 1 rfl; have xl_59 := VC59.out.1; have r0_59 := V59.out.c 0 rfl; have r1_59 := V59.out.c 1 rfl; have rf0_59 := V59.out.f 0 rfl; have rf1_59 := V59.out.f 1 rfl; have rl_59 := V59.out.1; clear R59 g9 G9))
      all_goals
        go_wp2_with fail
        have k0 : ((w59.setCell ⟨w.heap.size, 0, none⟩ (.slice (some ⟨bi, oi, none⟩) I.length c0)).setCell ⟨w.heap.size, 1, none⟩ (.slice o1 F.length c1)).cell? ⟨w.heap.size, 0, none⟩ = some (.slice (some ⟨bi, oi, none⟩) I.length c0) := by go_cell
        have k1 : ((w59.setCell ⟨w.heap.size, 0, none⟩ (.slice (some ⟨bi, oi, none⟩) I.length c0)).setCell ⟨w.heap.size, 1, none⟩ (.slice o1 F.length c1)).cell? ⟨w.heap.size, 1, none⟩ = some (.slice o1 F.length c1) := by go_cell
        have KB := (C59.out.setCell (p := ⟨w.heap.size, 0, none⟩) (Nat.le_refl _) (.slice (some ⟨bi, oi, none⟩) I.length c0)).setCell (p := ⟨w.heap.size, 1, none⟩) (Nat.le_refl _) (.slice o1 F.length c1)
        have KA := (((AP59.out.set (p := ⟨w.heap.size, 0, none⟩) (Or.inl hrw1) (.slice (some ⟨bi, oi, none⟩) I.length c0)).set (p := ⟨w.heap.size, 1, none⟩) (Or.inl hrw1) (.slice o1 F.length c1))).self
        exact bodyPost_ret (v := .tuple #[.agg #[(.slice (some ⟨bi, oi, none⟩) I.length c0), (.slice o1 F.length c1)], .int .i64 key, .int .i64 ver]) (by simp [results, Try.results12, go_sem, k0, k1]) rfl ⟨⟨_, _, I, F, key, ver, rfl, KA, hver⟩, KB⟩
    · have hzz : (z == 0) = false := by simpa using hz
      clear hz
      go_upto_region 6 with fail
      go_region_with (first
        | (go_at_call 32; refine (num_any g (q4 + 1) w5.heap.size 8 8 _ _ _ (HR5.out.later (by go_grown)) (by omega) (by omega) (by omega) (by have := HR5.out.2.1; omega) ((nums_eight w5).later (by go_grown))).mono ?_; rintro e w59 ⟨ver, rfl, hver, R59, g9⟩; have G9 := (show w5.grownBy w59 (some g) from grown_trans (show w5.grownBy _ (some g) from grown_wide (grownBelowR (by go_grown))) g9); have VC59 := hid (VC5.out.kept G9 hgb); have V59 := hid (V5.out.kept G9 hgr); have AP59 := hid (AP5.out.kept G9 hg1); have C59 := hid (show Below w.heap.size w w59 from C5.out.grown G9 C5.out.size (fun j e => by have := Option.some.inj e; omega)); have x0_59 := VC59.out.c 0 rfl; have x1_59 := VC59.out.c 1 rfl; have xl_59 := VC59.out.1; have r0_59 := V59.out.c 0 rfl; have r1_59 := V59.out.c 1 rfl; have rf0_59 := V59.out.f 0 rfl; have rf1_59 := V59.out.f 1 rfl; have rl_59 := V59.out.1; clear R59 g9 G9))
      all_goals
        go_wp2_with fail
        have k0 : ((w59.setCell ⟨w.heap.size, 0, none⟩ (.slice (some ⟨bi, oi, none⟩) I.length c0)).setCell ⟨w.heap.size, 1, none⟩ (.slice o1 F.length c1)).cell? ⟨w.heap.size, 0, none⟩ = some (.slice (some ⟨bi, oi, none⟩) I.length c0) := by go_cell
        have k1 : ((w59.setCell ⟨w.heap.size, 0, none⟩ (.slice (some ⟨bi, oi, none⟩) I.length c0)).setCell ⟨w.heap.size, 1, none⟩ (.slice o1 F.length c1)).cell? ⟨w.heap.size, 1, none⟩ = some (.slice o1 F.length c1) := by go_cell
        have KB := (C59.out.setCell (p := ⟨w.heap.size, 0, none⟩) (Nat.le_refl _) (.slice (some ⟨bi, oi, none⟩) I.length c0)).setCell (p := ⟨w.heap.size, 1, none⟩) (Nat.le_refl _) (.slice o1 F.length c1)
        have KA := (((AP59.out.set (p := ⟨w.heap.size, 0, none⟩) (Or.inl hrw1) (.slice (some ⟨bi, oi, none⟩) I.length c0)).set (p := ⟨w.heap.size, 1, none⟩) (Or.inl hrw1) (.slice o1 F.length c1))).self
        exact bodyPost_ret (v := .tuple #[.agg #[(.slice (some ⟨bi, oi, none⟩) I.length c0), (.slice o1 F.length c1)], .int .i64 k, .int .i64 ver]) (by simp [results, Try.results12, go_sem, k0, k1]) rfl ⟨⟨_, _, I, F, k, ver, rfl, KA, hver⟩, KB⟩
  · skip
    go_upto_region 6 with fail
    go_region_with (first
      | (go_at_call 32; refine (num_any g (q4) w4.heap.size 8 8 _ _ _ (HR4.out.later (by go_grown)) (by omega) (by omega) (by omega) (by have := HR4.out.2.1; omega) ((nums_eight w4).later (by go_grown))).mono ?_; rintro e w49 ⟨ver, rfl, hver, R49, g9⟩; have G9 := (show w4.grownBy w49 (some g) from grown_trans (show w4.grownBy _ (some g) from grown_wide (grownBelowR (by go_grown))) g9); have VC49 := hid (VC4.out.kept G9 hgb); have V49 := hid (V4.out.kept G9 hgr); have AP49 := hid (AP4.out.kept G9 hg1); have C49 := hid (show Below w.heap.size w w49 from C4.out.grown G9 C4.out.size (fun j e => by have := Option.some.inj e; omega)); have x0_49 := VC49.out.c 0 rfl; have x1_49 := VC49.out.c 1 rfl; have xl_49 := VC49.out.1; have r0_49 := V49.out.c 0 rfl; have r1_49 := V49.out.c 1 rfl; have rf0_49 := V49.out.f 0 rfl; have rf1_49 := V49.out.f 1 rfl; have rl_49 := V49.out.1; clear R49 g9 G9))
    all_goals
      go_wp2_with fail
      have k0 : ((w49.setCell ⟨w.heap.size, 0, none⟩ (.slice o0 I.length c0)).setCell ⟨w.heap.size, 1, none⟩ (.slice o1 F.length c1)).cell? ⟨w.heap.size, 0, none⟩ = some (.slice o0 I.length c0) := by go_cell
      have k1 : ((w49.setCell ⟨w.heap.size, 0, none⟩ (.slice o0 I.length c0)).setCell ⟨w.heap.size, 1, none⟩ (.slice o1 F.length c1)).cell? ⟨w.heap.size, 1, none⟩ = some (.slice o1 F.length c1) := by go_cell
      have KB := (C49.out.setCell (p := ⟨w.heap.size, 0, none⟩) (Nat.le_refl _) (.slice o0 I.length c0)).setCell (p := ⟨w.heap.size, 1, none⟩) (Nat.le_refl _) (.slice o1 F.length c1)
      have KA := (((AP49.out.set (p := ⟨w.heap.size, 0, none⟩) (Or.inl hrw1) (.slice o0 I.length c0)).set (p := ⟨w.heap.size, 1, none⟩) (Or.inl hrw1) (.slice o1 F.length c1))).self
      exact bodyPost_ret (v := .tuple #[.agg #[(.slice o0 I.length c0), (.slice o1 F.length c1)], .int .i64 k, .int .i64 ver]) (by simp [results, Try.results12, go_sem, k0, k1]) rfl ⟨⟨_, _, I, F, k, ver, rfl, KA, hver⟩, KB⟩
end Go.Proofs.Ytilbaiohcfhcaaa
