/- Draws of a cache with a key, an item, a floor: contracts. Written by a program (gyf.py). -/
import Derived.Test.YtiebfechhgapiaaYe
import Derived.Test.YtiebfechhgapiaaGrF
import Derived.Deep.Cut
namespace Go.Proofs.Ytiebfechhgapiaa
open Go.RowKit
attribute [local go_sem ↓] Go.wp_at_zero Go.wp_at_succ

/-- A cache that reads so whatever becomes of the blocks below N and from M on. -/
def ApC (N M : Nat) (w : World) (v0 v1 : Value) (I F : List KD) : Prop := ∀ w2, Only (fun q => q < N ∨ M ≤ q) w w2 → RSCache w2 v0 v1 I F
theorem Apart.apC {N : Nat} {w : World} {v0 v1 : Value} {I F : List KD} (h : Apart N w v0 v1 I F) : ApC N w.heap.size w v0 v1 I F := fun w2 h2 => h w2 ⟨h2.os, h2.tape, h2.output, h2.size, fun k hk hn => h2.block k hk (fun e => e.elim hn (fun e => by omega))⟩
theorem ApC.only {N M : Nat} {w w' : World} {v0 v1 : Value} {I F : List KD} (h : ApC N M w v0 v1 I F) (ho : Only (fun q => q < N ∨ M ≤ q) w w') : ApC N M w' v0 v1 I F := fun w2 h2 => h w2 (ho.trans h2)
theorem ApC.kept {N M g : Nat} {w w' : World} {v0 v1 : Value} {I F : List KD} (h : ApC N M w v0 v1 I F) (hg : w.grownBy w' (some g)) (hB : g < N) : ApC N M w' v0 v1 I F := h.only (Only.of_grown hg (fun k e => by have := Option.some.inj e; show k < N ∨ M ≤ k; omega))
theorem ApC.later {N M : Nat} {w w' : World} {v0 v1 : Value} {I F : List KD} (h : ApC N M w v0 v1 I F) (hb : Below w.heap.size w w') : ApC N M w' v0 v1 I F := h.only (Only.later hb)
theorem ApC.set {N M : Nat} {w : World} {v0 v1 : Value} {I F : List KD} (h : ApC N M w v0 v1 I F) {p : Addr} (hp : p.block < N ∨ M ≤ p.block) (u : Value) : ApC N M (w.setCell p u) v0 v1 I F := h.only (Only.set (F := fun q => q < N ∨ M ≤ q) w hp u)
theorem ApC.self {N M : Nat} {w : World} {v0 v1 : Value} {I F : List KD} (h : ApC N M w v0 v1 I F) : RSCache w v0 v1 I F := h w (Only.refl _ _)
/-- The key of an item. -/
theorem key_cell {w : World} {b off n c : Nat} {I : List KD} (h : RdM 4 3 true w (.slice (some ⟨b, off, none⟩) n c) I) (k : Nat) (hk : k < I.length) : w.cell? ⟨b, off + k * 4, none⟩ = some (.int .i64 (keyK (I.getD k kd0))) := by
  obtain ⟨ao, cap, hv, _, hc⟩ := h
  injection hv with h1 _ _
  obtain ⟨b', o', ha, _, hcc⟩ := hc (by omega)
  rw [← h1] at ha
  injection ha with ha
  injection ha with hb ho _
  subst hb ho
  exact (hcc k hk).num 0 (by omega)
theorem flo_cell {w : World} {b off n c : Nat} {F : List KD} (h : RdM 1 1 false w (.slice (some ⟨b, off, none⟩) n c) F) (k : Nat) (hk : k < F.length) : w.cell? ⟨b, off + k, none⟩ = some (.int .i64 (flr F k)) := by
  obtain ⟨ao, cap, hv, _, hc⟩ := h
  injection hv with h1 _ _
  obtain ⟨b', o', ha, _, hcc⟩ := hc (by omega)
  rw [← h1] at ha
  injection ha with ha
  injection ha with hb ho _
  subst hb ho
  have := (hcc k hk).num 0 (by omega)
  rwa [Nat.mul_one] at this
theorem rdm_some {sz m : Nat} {kn : Bool} {w : World} {ao : Option Addr} {n c : Nat} {I : List KD} (h : RdM sz m kn w (.slice ao n c) I) (h0 : 0 < I.length) : ∃ b off, ao = some ⟨b, off, none⟩ := by
  obtain ⟨ao', cap, hv, _, hc⟩ := h
  injection hv with h1 _ _
  obtain ⟨b', o', ha, _⟩ := hc h0
  exact ⟨b', o', h1.trans ha⟩
theorem rdm_lt {sz m : Nat} {kn : Bool} {w : World} {b off n c : Nat} {I : List KD} (h : RdM sz m kn w (.slice (some ⟨b, off, none⟩) n c) I) (h0 : 0 < I.length) : b < w.heap.size := by
  obtain ⟨ao', cap, hv, _, hc⟩ := h
  injection hv with h1 _ _
  obtain ⟨b', o', ha, hb, _⟩ := hc h0
  rw [← h1] at ha
  injection ha with ha
  injection ha with hb' _ _
  omega
theorem ApC.item_far {N M : Nat} {w : World} {b o n c : Nat} {v1 : Value} {I F : List KD} (h : ApC N M w (.slice (some ⟨b, o, none⟩) n c) v1 I F) (h0 : 0 < I.length) : N ≤ b ∧ b < M := by
  by_cases hb : b < N ∨ M ≤ b
  · have hc := key_cell h.self.h0 0 h0
    have h2 := key_cell (h (w.setCell ⟨b, o + 0 * 4, none⟩ (.bool false)) (Only.set (F := fun q => q < N ∨ M ≤ q) w (p := ⟨b, o + 0 * 4, none⟩) hb _)).h0 0 h0
    rw [World.cell?_setCell_same _ _ _ hc] at h2
    cases h2
  · omega
theorem ApC.flo_far {N M : Nat} {w : World} {b o n c : Nat} {v0 : Value} {I F : List KD} (h : ApC N M w v0 (.slice (some ⟨b, o, none⟩) n c) I F) (h0 : 0 < F.length) : N ≤ b ∧ b < M := by
  by_cases hb : b < N ∨ M ≤ b
  · have hc := flo_cell h.self.h1 0 h0
    have h2 := flo_cell (h (w.setCell ⟨b, o + 0, none⟩ (.bool false)) (Only.set (F := fun q => q < N ∨ M ≤ q) w (p := ⟨b, o + 0, none⟩) hb _)).h1 0 h0
    rw [World.cell?_setCell_same _ _ _ hc] at h2
    cases h2
  · omega
/-- Behind the statement that answers a cache and a key. -/
def CutG (w : World) (v0 v1 : Value) (I F : List KD) (s : Value) (wx : World) : Prop := ∃ key : Int, s = .int .i64 key ∧ VarAt wx w.heap.size [v0, v1] ∧ RSCache wx v0 v1 I F ∧ Below w.heap.size w wx
theorem cutG_of {w w5 : World} {B M : Nat} {v0 v1 a b : Value} {I F : List KD} {key : Int} (hv : VarAt w5 w.heap.size [a, b]) (hap : ApC B M w5 v0 v1 I F) (hb : Below w.heap.size w w5) (hB : w.heap.size < B) :
    CutG w v0 v1 I F (.int .i64 key) ((w5.setCell ⟨w.heap.size, 0, none⟩ v0).setCell ⟨w.heap.size, 1, none⟩ v1) :=
  ⟨key, rfl, (hv.set 0 (by simp) v0).set 1 (by simp) v1, ((hap.set (p := ⟨w.heap.size, 0, none⟩) (Or.inl hB) v0).set (p := ⟨w.heap.size, 1, none⟩) (Or.inl hB) v1).self, (hb.setCell (p := ⟨w.heap.size, 0, none⟩) (Nat.le_refl _) v0).setCell (p := ⟨w.heap.size, 1, none⟩) (Nat.le_refl _) v1⟩
theorem nums_eight (w : World) : Nums (w.alloc (.cells #[.int .i64 0, .int .i64 1, .int .i64 2, .int .i64 4, .int .i64 6, .int .i64 60, .int .i64 61, .int .i64 (-1)] 3)) w.heap.size 8 (fun z => -1 ≤ z ∧ z ≤ 61) := by
  refine ⟨by simp, fun i hi => ?_⟩
  rcases i with _ | _ | _ | _ | _ | _ | _ | _ | i
  · exact ⟨0, by go_cell, by omega⟩
  · exact ⟨1, by go_cell, by omega⟩
  · exact ⟨2, by go_cell, by omega⟩
  · exact ⟨4, by go_cell, by omega⟩
  · exact ⟨6, by go_cell, by omega⟩
  · exact ⟨60, by go_cell, by omega⟩
  · exact ⟨61, by go_cell, by omega⟩
  · exact ⟨-1, by go_cell, by omega⟩
  · omega
set_option maxRecDepth 100000 in
set_option maxHeartbeats 8000000 in
theorem drawCGet_any (v : Value) (n : Nat) (w : World) (h : Bs w v n) :
    Calls Try.prog 8 #[v] w fun e w' => (∃ (v0 v1 : Value) (I F : List KD) (key : Int), e = .returned (.tuple #[.agg #[v0, v1], .int .i64 key]) ∧ RSCache w' v0 v1 I F) ∧ Below w.heap.size w w' := by
  have hbs := hid h
  obtain ⟨ao, cap, rfl, h0, h1, h2, h3⟩ := h
  have hV1 := hid (VarAt.new2 w (.slice none 0 0) (.slice none 0 0) 26)
  have hW0 := hid (show Below w.heap.size w (w.alloc (.cells #[.slice none 0 0, .slice none 0 0] 26)) from by go_grown)
  have hWs : w.heap.size + 1 = (w.alloc (.cells #[.slice none 0 0, .slice none 0 0] 26)).heap.size := by simp
  have HWS := hid hWs
  clear hWs
  go_enter Try.func8, Try.ntmps8
  go_wp2_with fail
  generalize w.alloc (.cells #[.slice none 0 0, .slice none 0 0] 26) = W at hV1 hW0 HWS ⊢
  obtain ⟨ao', cap', hv', _, _, _, h3'⟩ := (hbs.out.later hW0.out)
  cases hv'
  refine (open_any ao n cap _ h0 h1 h2 h3').mono ?_
  rintro e w1 ⟨g, rfl, R1, b1⟩
  have hgW := R1.1
  have hg1 := R1.2.1
  have hRw : w.heap.size < W.heap.size := by have := HWS.out; omega
  have hgr : some g ≠ some w.heap.size := fun e => by have := Option.some.inj e; omega
  have V1 := hid (hV1.out.later b1)
  have C1 := hid (hW0.out.trans (b1.mono hW0.out.size))
  have HR1 := hid R1
  have hz1 := b1.size
  clear b1 R1 hV1 hW0 
  go_wp2_with fail
  refine (l5Drawn_any g 0 _ _ HR1.out (by omega)).mono ?_
  rintro e w2 ⟨⟨v0, v1, I, F, rfl, hI8, hap⟩, g2, q, hq, R2⟩
  obtain ⟨o0, o1, c0, c1, rfl, rfl⟩ := hap.self.open
  have HR2 := hid R2
  have V2 := hid (V1.out.kept g2 hgr)
  have C2 := hid (show Below w.heap.size w w2 from C1.out.grown g2 C1.out.size (fun j e => by have := Option.some.inj e; omega))
  have AP2 := hid hap.apC
  have hz2 := g2.size
  clear R2 g2 hap V1 C1 HR1 
  by_cases hI : 0 < I.length
  · have hIl : (0 : Int) < (I.length : Int) := by omega
    go_wp2_with fail
    have L3 : Below w2.heap.size w2 (w2.alloc (.cells #[.slice o0 I.length c0, .slice o1 F.length c1] 26)) := by go_grown
    have VC3 := hid (VarAt.new2 w2 (.slice o0 I.length c0) (.slice o1 F.length c1) 26)
    have HR3 := hid (HR2.out.later L3)
    have V3 := hid (V2.out.later L3)
    have C3 := hid (C2.out.trans (L3.mono C2.out.size))
    have AP3 := hid (AP2.out.later L3)
    have hz3 : w2.heap.size < (w2.alloc (.cells #[.slice o0 I.length c0, .slice o1 F.length c1] 26)).heap.size := by simp
    clear L3 HR2 V2 C2 AP2 
    generalize w2.alloc (.cells #[.slice o0 I.length c0, .slice o1 F.length c1] 26) = w3 at VC3 HR3 V3 C3 AP3 hz3 ⊢
    obtain ⟨bc, hbc⟩ : ∃ b, w2.heap.size = b := ⟨_, rfl⟩
    rw [hbc] at VC3 AP3 hz2 hz3 ⊢
    clear hbc
    have hgb : some g ≠ some bc := fun e => by have := Option.some.inj e; omega
    have hrw1 : w.heap.size < w1.heap.size := by omega
    have x0_3 := VC3.out.c 0 rfl
    have x1_3 := VC3.out.c 1 rfl
    have xl_3 := VC3.out.1
    have r0_3 := V3.out.c 0 rfl
    have r1_3 := V3.out.c 1 rfl
    have rf0_3 := V3.out.f 0 rfl
    have rf1_3 := V3.out.f 1 rfl
    have rl_3 := V3.out.1
    obtain ⟨bi, oi, ho0⟩ := rdm_some AP3.out.self.h0 hI
    subst ho0
    have hbi := AP3.out.item_far hI
    have hbR : bi ≠ w.heap.size := by omega
    refine (pick_any g q 3 _ _ HR3.out (by omega) (by omega)).mono ?_
    rintro e w4 ⟨z, rfl, z0, z1, R4, g4⟩
    have VC4 := hid (VC3.out.kept (show w3.grownBy w4 (some g) from ⟨g4.os, g4.tape, g4.output, g4.size, g4.block⟩) hgb)
    have V4 := hid (V3.out.kept (show w3.grownBy w4 (some g) from ⟨g4.os, g4.tape, g4.output, g4.size, g4.block⟩) hgr)
    have AP4 := hid (AP3.out.kept (show w3.grownBy w4 (some g) from ⟨g4.os, g4.tape, g4.output, g4.size, g4.block⟩) hg1)
    have C4 := hid (show Below w.heap.size w w4 from C3.out.grown (show w3.grownBy w4 (some g) from ⟨g4.os, g4.tape, g4.output, g4.size, g4.block⟩) C3.out.size (fun j e => by have := Option.some.inj e; omega))
    have HR4 := hid R4
    have x0_4 := VC4.out.c 0 rfl
    have x1_4 := VC4.out.c 1 rfl
    have xl_4 := VC4.out.1
    have r0_4 := V4.out.c 0 rfl
    have r1_4 := V4.out.c 1 rfl
    have rf0_4 := V4.out.f 0 rfl
    have rf1_4 := V4.out.f 1 rfl
    have rl_4 := V4.out.1
    clear R4 g4 z1 x0_3 x1_3 r0_3 r1_3 rf0_3 rf1_3 VC3 V3 AP3 C3 HR3
    by_cases hz : 0 < z
    · go_upto_region 4 with fail
      go_cut [3] from 19 (fun s wx => CutG w (.slice (some ⟨bi, oi, none⟩) I.length c0) (.slice o1 F.length c1) I F s wx)
      case first =>
        go_region_with (first
          | (go_at_call 26; refine (pick_any g (q + 1) I.length _ _ (HR4.out.later (by go_grown)) (by omega) (by omega)).mono ?_; rintro e w5 ⟨a, rfl, a0, a1, R5, g5⟩; have ha := a1 (by omega); obtain ⟨k, rfl⟩ := Int.eq_ofNat_of_zero_le a0; have hk : k < I.length := (by omega); have VC5 := hid (VC4.out.kept (show w4.grownBy w5 (some g) from ⟨g5.os, g5.tape, g5.output, g5.size, g5.block⟩) hgb); have V5 := hid (V4.out.kept (show w4.grownBy w5 (some g) from ⟨g5.os, g5.tape, g5.output, g5.size, g5.block⟩) hgr); have AP5 := hid (AP4.out.kept (show w4.grownBy w5 (some g) from ⟨g5.os, g5.tape, g5.output, g5.size, g5.block⟩) hg1); have C5 := hid (show Below w.heap.size w w5 from C4.out.grown (show w4.grownBy w5 (some g) from ⟨g5.os, g5.tape, g5.output, g5.size, g5.block⟩) C4.out.size (fun j e => by have := Option.some.inj e; omega)); have HR5 := hid R5; have x0_5 := VC5.out.c 0 rfl; have x1_5 := VC5.out.c 1 rfl; have xl_5 := VC5.out.1; have r0_5 := V5.out.c 0 rfl; have r1_5 := V5.out.c 1 rfl; have rf0_5 := V5.out.f 0 rfl; have rf1_5 := V5.out.f 1 rfl; have rl_5 := V5.out.1; have kc := key_cell AP5.out.self.h0 k hk; obtain ⟨key, hkey⟩ : ∃ z : Int, keyK (I.getD k kd0) = z := ⟨_, rfl⟩; rw [hkey] at kc; clear hkey; have kl : bi < w5.heap.size := (rdm_lt AP5.out.self.h0 hI); clear R5 g5 a0 a1))
        all_goals
          go_wp2_with fail
          go_meet
          exact cutG_of V5.out AP5.out C5.out hrw1
      case rest =>
        obtain ⟨key, rfl, hv, hs, hb⟩ := hcut
        have k0 := hv.c 0 rfl
        have k1 := hv.c 1 rfl
        have HS := hid hs
        have HB := hid hb
        clear hs hb hv x0_4 x1_4 r0_4 r1_4 rf0_4 rf1_4
        go_wp2_with fail
        exact bodyPost_ret (v := .tuple #[.agg #[(.slice (some ⟨bi, oi, none⟩) I.length c0), (.slice o1 F.length c1)], .int .i64 key]) (by simp [results, Try.results8, go_sem, k0, k1]) rfl ⟨⟨_, _, I, F, key, rfl, HS.out⟩, HB.out⟩
    · have hz0 : z = 0 := by omega
      subst hz0
      go_upto_region 5 with fail
      go_region_with (first
        | (go_at_call 27; refine (l2Key_any g (q + 1) _ _ (HR4.out.later (by go_grown)) (by omega)).mono ?_; rintro e w49 ⟨key, rfl, _, ⟨q9, _, _, R49⟩, g9⟩; have VC49 := hid (VC4.out.kept (show w4.grownBy w49 (some g) from ⟨g9.os, g9.tape, g9.output, g9.size, g9.block⟩) hgb); have V49 := hid (V4.out.kept (show w4.grownBy w49 (some g) from ⟨g9.os, g9.tape, g9.output, g9.size, g9.block⟩) hgr); have AP49 := hid (AP4.out.kept (show w4.grownBy w49 (some g) from ⟨g9.os, g9.tape, g9.output, g9.size, g9.block⟩) hg1); have C49 := hid (show Below w.heap.size w w49 from C4.out.grown (show w4.grownBy w49 (some g) from ⟨g9.os, g9.tape, g9.output, g9.size, g9.block⟩) C4.out.size (fun j e => by have := Option.some.inj e; omega)); have HR49 := hid R49; have x0_49 := VC49.out.c 0 rfl; have x1_49 := VC49.out.c 1 rfl; have xl_49 := VC49.out.1; have r0_49 := V49.out.c 0 rfl; have r1_49 := V49.out.c 1 rfl; have rf0_49 := V49.out.f 0 rfl; have rf1_49 := V49.out.f 1 rfl; have rl_49 := V49.out.1; clear R49 g9))
      all_goals
        go_wp2_with fail
        have k0 : ((w49.setCell ⟨w.heap.size, 0, none⟩ (.slice (some ⟨bi, oi, none⟩) I.length c0)).setCell ⟨w.heap.size, 1, none⟩ (.slice o1 F.length c1)).cell? ⟨w.heap.size, 0, none⟩ = some (.slice (some ⟨bi, oi, none⟩) I.length c0) := by go_cell
        have k1 : ((w49.setCell ⟨w.heap.size, 0, none⟩ (.slice (some ⟨bi, oi, none⟩) I.length c0)).setCell ⟨w.heap.size, 1, none⟩ (.slice o1 F.length c1)).cell? ⟨w.heap.size, 1, none⟩ = some (.slice o1 F.length c1) := by go_cell
        have KB := (C49.out.setCell (p := ⟨w.heap.size, 0, none⟩) (Nat.le_refl _) (.slice (some ⟨bi, oi, none⟩) I.length c0)).setCell (p := ⟨w.heap.size, 1, none⟩) (Nat.le_refl _) (.slice o1 F.length c1)
        have KA := (((AP49.out.set (p := ⟨w.heap.size, 0, none⟩) (Or.inl hrw1) (.slice (some ⟨bi, oi, none⟩) I.length c0)).set (p := ⟨w.heap.size, 1, none⟩) (Or.inl hrw1) (.slice o1 F.length c1))).self
        exact bodyPost_ret (v := .tuple #[.agg #[(.slice (some ⟨bi, oi, none⟩) I.length c0), (.slice o1 F.length c1)], .int .i64 key]) (by simp [results, Try.results8, go_sem, k0, k1]) rfl ⟨⟨_, _, I, F, key, rfl, KA⟩, KB⟩
  · skip
    go_wp2_with fail
    have L3 : Below w2.heap.size w2 (w2.alloc (.cells #[.slice o0 I.length c0, .slice o1 F.length c1] 26)) := by go_grown
    have VC3 := hid (VarAt.new2 w2 (.slice o0 I.length c0) (.slice o1 F.length c1) 26)
    have HR3 := hid (HR2.out.later L3)
    have V3 := hid (V2.out.later L3)
    have C3 := hid (C2.out.trans (L3.mono C2.out.size))
    have AP3 := hid (AP2.out.later L3)
    have hz3 : w2.heap.size < (w2.alloc (.cells #[.slice o0 I.length c0, .slice o1 F.length c1] 26)).heap.size := by simp
    clear L3 HR2 V2 C2 AP2 
    generalize w2.alloc (.cells #[.slice o0 I.length c0, .slice o1 F.length c1] 26) = w3 at VC3 HR3 V3 C3 AP3 hz3 ⊢
    obtain ⟨bc, hbc⟩ : ∃ b, w2.heap.size = b := ⟨_, rfl⟩
    rw [hbc] at VC3 AP3 hz2 hz3 ⊢
    clear hbc
    have hgb : some g ≠ some bc := fun e => by have := Option.some.inj e; omega
    have hrw1 : w.heap.size < w1.heap.size := by omega
    have x0_3 := VC3.out.c 0 rfl
    have x1_3 := VC3.out.c 1 rfl
    have xl_3 := VC3.out.1
    have r0_3 := V3.out.c 0 rfl
    have r1_3 := V3.out.c 1 rfl
    have rf0_3 := V3.out.f 0 rfl
    have rf1_3 := V3.out.f 1 rfl
    have rl_3 := V3.out.1
    go_region_with (first
      | (go_at_call 27; refine (l2Key_any g (q) _ _ (HR3.out.later (by go_grown)) (by omega)).mono ?_; rintro e w39 ⟨key, rfl, _, ⟨q9, _, _, R39⟩, g9⟩; have VC39 := hid (VC3.out.kept (show w3.grownBy w39 (some g) from ⟨g9.os, g9.tape, g9.output, g9.size, g9.block⟩) hgb); have V39 := hid (V3.out.kept (show w3.grownBy w39 (some g) from ⟨g9.os, g9.tape, g9.output, g9.size, g9.block⟩) hgr); have AP39 := hid (AP3.out.kept (show w3.grownBy w39 (some g) from ⟨g9.os, g9.tape, g9.output, g9.size, g9.block⟩) hg1); have C39 := hid (show Below w.heap.size w w39 from C3.out.grown (show w3.grownBy w39 (some g) from ⟨g9.os, g9.tape, g9.output, g9.size, g9.block⟩) C3.out.size (fun j e => by have := Option.some.inj e; omega)); have HR39 := hid R39; have x0_39 := VC39.out.c 0 rfl; have x1_39 := VC39.out.c 1 rfl; have xl_39 := VC39.out.1; have r0_39 := V39.out.c 0 rfl; have r1_39 := V39.out.c 1 rfl; have rf0_39 := V39.out.f 0 rfl; have rf1_39 := V39.out.f 1 rfl; have rl_39 := V39.out.1; clear R39 g9))
    all_goals
      go_wp2_with fail
      have k0 : ((w39.setCell ⟨w.heap.size, 0, none⟩ (.slice o0 I.length c0)).setCell ⟨w.heap.size, 1, none⟩ (.slice o1 F.length c1)).cell? ⟨w.heap.size, 0, none⟩ = some (.slice o0 I.length c0) := by go_cell
      have k1 : ((w39.setCell ⟨w.heap.size, 0, none⟩ (.slice o0 I.length c0)).setCell ⟨w.heap.size, 1, none⟩ (.slice o1 F.length c1)).cell? ⟨w.heap.size, 1, none⟩ = some (.slice o1 F.length c1) := by go_cell
      have KB := (C39.out.setCell (p := ⟨w.heap.size, 0, none⟩) (Nat.le_refl _) (.slice o0 I.length c0)).setCell (p := ⟨w.heap.size, 1, none⟩) (Nat.le_refl _) (.slice o1 F.length c1)
      have KA := (((AP39.out.set (p := ⟨w.heap.size, 0, none⟩) (Or.inl hrw1) (.slice o0 I.length c0)).set (p := ⟨w.heap.size, 1, none⟩) (Or.inl hrw1) (.slice o1 F.length c1))).self
      exact bodyPost_ret (v := .tuple #[.agg #[(.slice o0 I.length c0), (.slice o1 F.length c1)], .int .i64 key]) (by simp [results, Try.results8, go_sem, k0, k1]) rfl ⟨⟨_, _, I, F, key, rfl, KA⟩, KB⟩
end Go.Proofs.Ytiebfechhgapiaa
