/- The draw of a cache and an item: contract. Written by a program (gyf.py). -/
import Derived.Test.YtilbaiohcfhcaaaYf
import Derived.Deep.Cut
namespace Go.Proofs.Ytilbaiohcfhcaaa
open Go.RowKit
attribute [local go_sem ↓] Go.wp_at_zero Go.wp_at_succ

/-- Kin that read so whatever becomes of the blocks below N and from M on. -/
def ApR (N M : Nat) (w : World) (u : Value) (l : List (Int × Int)) : Prop := ∀ w2, Only (fun q => q < N ∨ M ≤ q) w w2 → Rd w2 u l
theorem ApR.only {N M : Nat} {w w' : World} {u : Value} {l : List (Int × Int)} (h : ApR N M w u l) (ho : Only (fun q => q < N ∨ M ≤ q) w w') : ApR N M w' u l := fun w2 h2 => h w2 (ho.trans h2)
theorem ApR.kept {N M g : Nat} {w w' : World} {u : Value} {l : List (Int × Int)} (h : ApR N M w u l) (hg : w.grownBy w' (some g)) (hN : g < N) : ApR N M w' u l := h.only (Only.of_grown hg (fun k e => by have := Option.some.inj e; show k < N ∨ M ≤ k; omega))
theorem ApR.set {N M : Nat} {w : World} {u : Value} {l : List (Int × Int)} (h : ApR N M w u l) {p : Addr} (hp : p.block < N ∨ M ≤ p.block) (x : Value) : ApR N M (w.setCell p x) u l := h.only (Only.set (F := fun q => q < N ∨ M ≤ q) w hp x)
theorem ApR.self {N M : Nat} {w : World} {u : Value} {l : List (Int × Int)} (h : ApR N M w u l) : Rd w u l := h w (Only.refl _ _)
theorem Own.apR {N : Nat} {w : World} {u : Value} {l : List (Int × Int)} (h : Own w N u l) : ApR N w.heap.size w u l := fun _ h2 => Own.rd (Own.agree h (fun k hk => h2.block k (h.block k hk).2 (by have := h.block k hk; show ¬ (k < N ∨ w.heap.size ≤ k); omega)))
theorem ApR.later {N M : Nat} {w w' : World} {u : Value} {l : List (Int × Int)} (h : ApR N M w u l) (hb : Below w.heap.size w w') : ApR N M w' u l := h.only (Only.later hb)
/-- The state of the draw of a cache and an item, behind the item's own statement. -/
structure CutQ (w : World) (bc bt N : Nat) (v0 v1 : Value) (I F : List KD) (k n : Int) (u : Value) (l : List (Int × Int)) (wx : World) : Prop where
  it : ∃ v : Int, VarAt wx bt [.int .i64 k, .int .i64 v, .int .i64 n, u]
  vc : VarAt wx bc [v0, v1]
  res : VarAt wx w.heap.size [.slice none 0 0, .slice none 0 0]
  resI : VarAt wx (w.heap.size + 1) [.int .i64 0, .int .i64 0, .int .i64 0, .slice none 0 0]
  ap : ApC N bc wx v0 v1 I F
  kin : ApR N bt wx u l
  bel : Below w.heap.size w wx
theorem cutQ_of {w w7 : World} {bc bt N : Nat} {v0 v1 : Value} {I F : List KD} {k p m x : Int} {u : Value} {l : List (Int × Int)} (vt : VarAt w7 bt [.int .i64 k, .int .i64 p, .int .i64 m, u]) (vc : VarAt w7 bc [v0, v1]) (vr : VarAt w7 w.heap.size [.slice none 0 0, .slice none 0 0])
    (vi : VarAt w7 (w.heap.size + 1) [.int .i64 0, .int .i64 0, .int .i64 0, .slice none 0 0]) (ap : ApC N bc w7 v0 v1 I F) (kr : ApR N bt w7 u l) (c : Below w.heap.size w w7) (h1 : bc < bt) (h2 : w.heap.size + 1 < bt) :
    CutQ w bc bt N v0 v1 I F k m u l (w7.setCell ⟨bt, 1, none⟩ (.int .i64 x)) :=
  ⟨⟨x, vt.set 1 (by simp) _⟩, vc.far (p := ⟨bt, 1, none⟩) (by show bt ≠ bc; omega) _, vr.far (p := ⟨bt, 1, none⟩) (by show bt ≠ w.heap.size; omega) _, vi.far (p := ⟨bt, 1, none⟩) (by show bt ≠ w.heap.size + 1; omega) _,
    ap.set (p := ⟨bt, 1, none⟩) (Or.inr (by show bc ≤ bt; omega)) _, kr.set (p := ⟨bt, 1, none⟩) (Or.inr (Nat.le_refl _)) _, c.setCell (p := ⟨bt, 1, none⟩) (by show w.heap.size ≤ bt; omega) _⟩
theorem cutQ_end {w wx : World} {bc bt N : Nat} {v0 v1 : Value} {I F : List KD} {k m : Int} {u : Value} {l : List (Int × Int)} (pv : Value) (h : CutQ w bc bt N v0 v1 I F k m u l wx) (h2 : w.heap.size + 1 < N) :
    RSCache ((((((wx.setCell ⟨w.heap.size, 0, none⟩ v0).setCell ⟨w.heap.size, 1, none⟩ v1).setCell ⟨w.heap.size + 1, 0, none⟩ (.int .i64 k)).setCell ⟨w.heap.size + 1, 1, none⟩ pv).setCell ⟨w.heap.size + 1, 2, none⟩ (.int .i64 m)).setCell ⟨w.heap.size + 1, 3, none⟩ u).drew v0 v1 I F ∧
    Rd ((((((wx.setCell ⟨w.heap.size, 0, none⟩ v0).setCell ⟨w.heap.size, 1, none⟩ v1).setCell ⟨w.heap.size + 1, 0, none⟩ (.int .i64 k)).setCell ⟨w.heap.size + 1, 1, none⟩ pv).setCell ⟨w.heap.size + 1, 2, none⟩ (.int .i64 m)).setCell ⟨w.heap.size + 1, 3, none⟩ u).drew u l ∧
    Below w.heap.size w ((((((wx.setCell ⟨w.heap.size, 0, none⟩ v0).setCell ⟨w.heap.size, 1, none⟩ v1).setCell ⟨w.heap.size + 1, 0, none⟩ (.int .i64 k)).setCell ⟨w.heap.size + 1, 1, none⟩ pv).setCell ⟨w.heap.size + 1, 2, none⟩ (.int .i64 m)).setCell ⟨w.heap.size + 1, 3, none⟩ u).drew ∧
    VarAt ((((((wx.setCell ⟨w.heap.size, 0, none⟩ v0).setCell ⟨w.heap.size, 1, none⟩ v1).setCell ⟨w.heap.size + 1, 0, none⟩ (.int .i64 k)).setCell ⟨w.heap.size + 1, 1, none⟩ pv).setCell ⟨w.heap.size + 1, 2, none⟩ (.int .i64 m)).setCell ⟨w.heap.size + 1, 3, none⟩ u).drew w.heap.size [v0, v1] ∧
    VarAt ((((((wx.setCell ⟨w.heap.size, 0, none⟩ v0).setCell ⟨w.heap.size, 1, none⟩ v1).setCell ⟨w.heap.size + 1, 0, none⟩ (.int .i64 k)).setCell ⟨w.heap.size + 1, 1, none⟩ pv).setCell ⟨w.heap.size + 1, 2, none⟩ (.int .i64 m)).setCell ⟨w.heap.size + 1, 3, none⟩ u).drew (w.heap.size + 1) [.int .i64 k, pv, .int .i64 m, u] := by
  obtain ⟨_, _, hres, hresI, hap, hkin, hbel⟩ := h
  have h0 : w.heap.size < N := by omega
  have hg : ∀ W : World, Below W.heap.size W W.drew := fun W => (Below.refl _ W).drew
  have q0 : w.heap.size ≠ w.heap.size + 1 := by omega
  have q1 : w.heap.size + 1 ≠ w.heap.size := by omega
  have le0 : w.heap.size ≤ w.heap.size + 1 := by omega
  refine ⟨RSCache.later ((((((hap.set (p := ⟨w.heap.size, 0, none⟩) (Or.inl h0) v0).set (p := ⟨w.heap.size, 1, none⟩) (Or.inl h0) v1).set (p := ⟨w.heap.size + 1, 0, none⟩) (Or.inl h2) (.int .i64 k)).set (p := ⟨w.heap.size + 1, 1, none⟩) (Or.inl h2) pv).set (p := ⟨w.heap.size + 1, 2, none⟩) (Or.inl h2) (.int .i64 m)).set (p := ⟨w.heap.size + 1, 3, none⟩) (Or.inl h2) u).self (hg _), ?_, ?_, ?_, ?_⟩
  · exact Rd.later ((((((hkin.set (p := ⟨w.heap.size, 0, none⟩) (Or.inl h0) v0).set (p := ⟨w.heap.size, 1, none⟩) (Or.inl h0) v1).set (p := ⟨w.heap.size + 1, 0, none⟩) (Or.inl h2) (.int .i64 k)).set (p := ⟨w.heap.size + 1, 1, none⟩) (Or.inl h2) pv).set (p := ⟨w.heap.size + 1, 2, none⟩) (Or.inl h2) (.int .i64 m)).set (p := ⟨w.heap.size + 1, 3, none⟩) (Or.inl h2) u).self (hg _)
  · exact Below.drew ((((((hbel.setCell (p := ⟨w.heap.size, 0, none⟩) (Nat.le_refl _) v0).setCell (p := ⟨w.heap.size, 1, none⟩) (Nat.le_refl _) v1).setCell (p := ⟨w.heap.size + 1, 0, none⟩) le0 (.int .i64 k)).setCell (p := ⟨w.heap.size + 1, 1, none⟩) le0 pv).setCell (p := ⟨w.heap.size + 1, 2, none⟩) le0 (.int .i64 m)).setCell (p := ⟨w.heap.size + 1, 3, none⟩) le0 u)
  · exact VarAt.later (hg := hg _) <| (((((hres.set 0 (by simp) v0).set 1 (by simp) v1).far (p := ⟨w.heap.size + 1, 0, none⟩) q1 (.int .i64 k)).far (p := ⟨w.heap.size + 1, 1, none⟩) q1 pv).far (p := ⟨w.heap.size + 1, 2, none⟩) q1 (.int .i64 m)).far (p := ⟨w.heap.size + 1, 3, none⟩) q1 u
  · exact VarAt.later (hg := hg _) <| (((((hresI.far (p := ⟨w.heap.size, 0, none⟩) q0 v0).far (p := ⟨w.heap.size, 1, none⟩) q0 v1).set 0 (by simp) (.int .i64 k)).set 1 (by simp) pv).set 2 (by simp) (.int .i64 m)).set 3 (by simp) u
set_option maxRecDepth 100000 in
set_option maxHeartbeats 24000000 in
theorem drawCPut_any (v : Value) (n : Nat) (w : World) (h : Bs w v n) :
    Calls Try.prog 4 #[v] w fun e w' => (∃ (v0 v1 : Value) (I F : List KD) (k p m : Int) (u : Value) (l : List (Int × Int)), e = .returned (.tuple #[.agg #[v0, v1], .agg #[.int .i64 k, .int .i64 p, .int .i64 m, u]]) ∧ RSCache w' v0 v1 I F ∧ Rd w' u l ∧ l.length ≤ 7) ∧ Below w.heap.size w w' := by
  have hbs := hid h
  obtain ⟨ao, cap, rfl, h0, h1, h2, h3⟩ := h
  have hV1 := hid ((VarAt.new2 w (.slice none 0 0) (.slice none 0 0) 26).later (w' := (w.alloc (.cells #[.slice none 0 0, .slice none 0 0] 26)).alloc (.cells #[.int .i64 0, .int .i64 0, .int .i64 0, .slice none 0 0] 31)) (by go_grown))
  have hI1 := hid (show VarAt ((w.alloc (.cells #[.slice none 0 0, .slice none 0 0] 26)).alloc (.cells #[.int .i64 0, .int .i64 0, .int .i64 0, .slice none 0 0] 31)) (w.heap.size + 1) [.int .i64 0, .int .i64 0, .int .i64 0, .slice none 0 0] from (by have := VarAt.new4 (w.alloc (.cells #[.slice none 0 0, .slice none 0 0] 26)) (.int .i64 0) (.int .i64 0) (.int .i64 0) (.slice none 0 0) 31; rw [World.size_alloc] at this; exact this))
  have hW0 := hid (show Below w.heap.size w ((w.alloc (.cells #[.slice none 0 0, .slice none 0 0] 26)).alloc (.cells #[.int .i64 0, .int .i64 0, .int .i64 0, .slice none 0 0] 31)) from by go_grown)
  have hWs : w.heap.size + 2 = ((w.alloc (.cells #[.slice none 0 0, .slice none 0 0] 26)).alloc (.cells #[.int .i64 0, .int .i64 0, .int .i64 0, .slice none 0 0] 31)).heap.size := by simp
  have HWS := hid hWs
  clear hWs
  go_enter Try.func4, Try.ntmps4
  go_wp2_with fail
  generalize (w.alloc (.cells #[.slice none 0 0, .slice none 0 0] 26)).alloc (.cells #[.int .i64 0, .int .i64 0, .int .i64 0, .slice none 0 0] 31) = W at hV1 hW0 HWS hI1 ⊢
  obtain ⟨ao', cap', hv', _, _, _, h3'⟩ := (hbs.out.later hW0.out)
  cases hv'
  refine (open_any ao n cap _ h0 h1 h2 h3').mono ?_
  rintro e w1 ⟨g, rfl, R1, b1⟩
  have hgW := R1.1
  have hg1 := R1.2.1
  have hRw : w.heap.size < W.heap.size := by have := HWS.out; omega
  have hgr : some g ≠ some w.heap.size := fun e => by have := Option.some.inj e; omega
  have hgi : some g ≠ some (w.heap.size + 1) := fun e => by have := Option.some.inj e; have := HWS.out; omega
  have V1 := hid (hV1.out.later b1)
  have VI1 := hid (hI1.out.later b1)
  have C1 := hid (hW0.out.trans (b1.mono hW0.out.size))
  have HR1 := hid R1
  have hz1 := b1.size
  clear b1 R1 hV1 hW0 hI1
  go_wp2_with fail
  refine (l5Drawn_any g 0 _ _ HR1.out (by omega)).mono ?_
  rintro e w2 ⟨⟨v0, v1, I, F, rfl, hI8, hap⟩, g2, q, hq, R2⟩
  obtain ⟨o0, o1, c0, c1, rfl, rfl⟩ := hap.self.open
  have HR2 := hid R2
  have V2 := hid (V1.out.kept g2 hgr)
  have VI2 := hid (VI1.out.kept g2 hgi)
  have C2 := hid (show Below w.heap.size w w2 from C1.out.grown g2 C1.out.size (fun j e => by have := Option.some.inj e; omega))
  have AP2 := hid hap.apC
  have hz2 := g2.size
  clear R2 g2 hap V1 C1 HR1 VI1
  go_wp2_with fail
  have L3 : Below w2.heap.size w2 (w2.alloc (.cells #[.slice o0 I.length c0, .slice o1 F.length c1] 26)) := by go_grown
  have VC3 := hid (VarAt.new2 w2 (.slice o0 I.length c0) (.slice o1 F.length c1) 26)
  have HR3 := hid (HR2.out.later L3)
  have V3 := hid (V2.out.later L3)
  have VI3 := hid (VI2.out.later L3)
  have C3 := hid (C2.out.trans (L3.mono C2.out.size))
  have AP3 := hid (AP2.out.later L3)
  have hz3 : w2.heap.size < (w2.alloc (.cells #[.slice o0 I.length c0, .slice o1 F.length c1] 26)).heap.size := by simp
  clear L3 HR2 V2 C2 AP2 VI2
  generalize w2.alloc (.cells #[.slice o0 I.length c0, .slice o1 F.length c1] 26) = w3 at VC3 HR3 V3 C3 AP3 hz3 VI3 ⊢
  obtain ⟨bc, hbc⟩ : ∃ b, w2.heap.size = b := ⟨_, rfl⟩
  rw [hbc] at VC3 AP3 hz2 hz3 ⊢
  clear hbc
  have hgb : some g ≠ some bc := fun e => by have := Option.some.inj e; omega
  have hrw1 : w.heap.size < w1.heap.size := by omega
  refine (l5Any_any g q _ _ HR3.out (by omega)).mono ?_
  rintro e w4 ⟨k, p, m, u, l, rfl, ho, hl, hk, hp, g4, q4, hq4, R4⟩
  obtain ⟨uo, uc, hu, _⟩ := ho.rd
  subst hu
  obtain ⟨kk, rfl⟩ := Int.eq_ofNat_of_zero_le hk.1
  have VC4 := hid (VC3.out.kept (show w3.grownBy w4 (some g) from ⟨g4.os, g4.tape, g4.output, g4.size, g4.block⟩) hgb)
  have V4 := hid (V3.out.kept (show w3.grownBy w4 (some g) from ⟨g4.os, g4.tape, g4.output, g4.size, g4.block⟩) hgr)
  have VI4 := hid (VI3.out.kept (show w3.grownBy w4 (some g) from ⟨g4.os, g4.tape, g4.output, g4.size, g4.block⟩) hgi)
  have AP4 := hid (AP3.out.kept (show w3.grownBy w4 (some g) from ⟨g4.os, g4.tape, g4.output, g4.size, g4.block⟩) hg1)
  have C4 := hid (show Below w.heap.size w w4 from C3.out.grown (show w3.grownBy w4 (some g) from ⟨g4.os, g4.tape, g4.output, g4.size, g4.block⟩) C3.out.size (fun j e => by have := Option.some.inj e; omega))
  have HR4 := hid R4
  have N1 := hid (show w1.heap.size ≤ w3.heap.size from by omega)
  have z4 := g4.size
  have KR4 := hid (show ApR w1.heap.size w4.heap.size w4 (.slice uo l.length uc) l from (Own.mono ho N1.out).apR)
  clear R4 g4 ho VC3 V3 VI3 AP3 C3 HR3
  go_wp2_with fail
  have L5 : Below w4.heap.size w4 (w4.alloc (.cells #[.int .i64 (kk : Int), .int .i64 p, .int .i64 m, .slice uo l.length uc] 31)) := by go_grown
  have VT5 := hid (VarAt.new4 w4 (.int .i64 (kk : Int)) (.int .i64 p) (.int .i64 m) (.slice uo l.length uc) 31)
  have VC5 := hid (VC4.out.later L5)
  have V5 := hid (V4.out.later L5)
  have VI5 := hid (VI4.out.later L5)
  have AP5 := hid (AP4.out.later L5)
  have HR5 := hid (HR4.out.later L5)
  have KR5 := hid (KR4.out.later L5)
  have C5 := hid (C4.out.trans (L5.mono C4.out.size))
  clear L5 VC4 V4 VI4 AP4 HR4 KR4 C4
  generalize (w4.alloc (.cells #[.int .i64 (kk : Int), .int .i64 p, .int .i64 m, .slice uo l.length uc] 31)) = w5 at VT5 VC5 V5 VI5 AP5 HR5 KR5 C5 ⊢
  obtain ⟨bt, hbt⟩ : ∃ b, w4.heap.size = b := ⟨_, rfl⟩
  rw [hbt] at VT5 KR5 z4 ⊢
  clear hbt
  have hgt : some g ≠ some bt := fun e => by have := Option.some.inj e; omega
  refine (pick_any g q4 2 _ _ HR5.out (by omega) (by omega)).mono ?_
  rintro e w6 ⟨z, rfl, z0, z1, R6, g6⟩
  have VC6 := hid (VC5.out.kept (show w5.grownBy w6 (some g) from ⟨g6.os, g6.tape, g6.output, g6.size, g6.block⟩) hgb)
  have V6 := hid (V5.out.kept (show w5.grownBy w6 (some g) from ⟨g6.os, g6.tape, g6.output, g6.size, g6.block⟩) hgr)
  have VI6 := hid (VI5.out.kept (show w5.grownBy w6 (some g) from ⟨g6.os, g6.tape, g6.output, g6.size, g6.block⟩) hgi)
  have VT6 := hid (VT5.out.kept (show w5.grownBy w6 (some g) from ⟨g6.os, g6.tape, g6.output, g6.size, g6.block⟩) hgt)
  have AP6 := hid (AP5.out.kept (show w5.grownBy w6 (some g) from ⟨g6.os, g6.tape, g6.output, g6.size, g6.block⟩) hg1)
  have C6 := hid (show Below w.heap.size w w6 from C5.out.grown (show w5.grownBy w6 (some g) from ⟨g6.os, g6.tape, g6.output, g6.size, g6.block⟩) C5.out.size (fun j e => by have := Option.some.inj e; omega))
  have HR6 := hid R6
  have KR6 := hid (KR5.out.kept (show w5.grownBy w6 (some g) from ⟨g6.os, g6.tape, g6.output, g6.size, g6.block⟩) hg1)
  clear R6 g6 VC5 V5 VI5 VT5 AP5 HR5 KR5 C5 z1
  have x0_6 := VC6.out.c 0 rfl
  have x1_6 := VC6.out.c 1 rfl
  have t0_6 := VT6.out.c 0 rfl
  have t1_6 := VT6.out.c 1 rfl
  have tf1_6 := VT6.out.f 1 rfl
  by_cases hz : z = 0
  · subst hz
    by_cases hF : kk < F.length
    · have hFi : (kk : Int) < (F.length : Int) := by omega
      have hF0 : 0 < F.length := by omega
      obtain ⟨bf, of', ho1⟩ := rdm_some AP6.out.self.h1 hF0
      subst ho1
      go_upto_region 5 with fail
      go_cut [28] from 29 (fun _ wx => Hid (CutQ w bc bt w1.heap.size (.slice o0 I.length c0) (.slice (some ⟨bf, of', none⟩) F.length c1) I F (kk : Int) m (.slice uo l.length uc) l wx))
      case first =>
        have fc_6 := flo_cell AP6.out.self.h1 kk hF
        obtain ⟨fz, hfz⟩ : ∃ z : Int, flr F kk = z := ⟨_, rfl⟩
        have HFZ := hid hfz
        rw [hfz] at fc_6
        clear hfz
        go_region_with (first
          | (go_at_call 18; refine (pick_any g (q4 + 1) 3 _ _ (HR6.out.later (by go_grown)) (by omega) (by omega)).mono ?_; rintro e w7 ⟨a, rfl, a0, a1, R7, g7⟩; have VC7 := hid (VC6.out.kept (show w6.grownBy w7 (some g) from ⟨g7.os, g7.tape, g7.output, g7.size, g7.block⟩) hgb); have V7 := hid (V6.out.kept (show w6.grownBy w7 (some g) from ⟨g7.os, g7.tape, g7.output, g7.size, g7.block⟩) hgr); have VI7 := hid (VI6.out.kept (show w6.grownBy w7 (some g) from ⟨g7.os, g7.tape, g7.output, g7.size, g7.block⟩) hgi); have VT7 := hid (VT6.out.kept (show w6.grownBy w7 (some g) from ⟨g7.os, g7.tape, g7.output, g7.size, g7.block⟩) hgt); have AP7 := hid (AP6.out.kept (show w6.grownBy w7 (some g) from ⟨g7.os, g7.tape, g7.output, g7.size, g7.block⟩) hg1); have C7 := hid (show Below w.heap.size w w7 from C6.out.grown (show w6.grownBy w7 (some g) from ⟨g7.os, g7.tape, g7.output, g7.size, g7.block⟩) C6.out.size (fun j e => by have := Option.some.inj e; omega)); have HR7 := hid R7; have x0_7 := VC7.out.c 0 rfl; have x1_7 := VC7.out.c 1 rfl; have t0_7 := VT7.out.c 0 rfl; have t1_7 := VT7.out.c 1 rfl; have tf1_7 := VT7.out.f 1 rfl; have KR7 := hid (KR6.out.kept (show w6.grownBy w7 (some g) from ⟨g7.os, g7.tape, g7.output, g7.size, g7.block⟩) hg1); have fc_7 := flo_cell AP7.out.self.h1 kk hF; rw [HFZ.out] at fc_7; clear R7 g7 a1))
        all_goals
          go_wp2_with fail
          go_meet
          exact hid (cutQ_of VT7.out VC7.out V7.out VI7.out AP7.out KR7.out C7.out (by omega) (by omega))
      case rest =>
        have hq := hcut
        obtain ⟨⟨pv, hit⟩, hvc, hres, hresI, hap, hkin, hbel⟩ := hq.out
        have y0 := hvc.c 0 rfl
        have y1 := hvc.c 1 rfl
        have s0 := hit.c 0 rfl
        have s1 := hit.c 1 rfl
        have s2 := hit.c 2 rfl
        have s3 := hit.c 3 rfl
        have r0 := hres.c 0 rfl
        have rf0 := hres.f 0 rfl
        have r1 := hres.c 1 rfl
        have rf1 := hres.f 1 rfl
        have j0 := hresI.c 0 rfl
        have jf0 := hresI.f 0 rfl
        have j1 := hresI.c 1 rfl
        have jf1 := hresI.f 1 rfl
        have j2 := hresI.c 2 rfl
        have jf2 := hresI.f 2 rfl
        have j3 := hresI.c 3 rfl
        have jf3 := hresI.f 3 rfl
        have HQ := hq
        have hne : w.heap.size + 1 ≠ w.heap.size := by omega
        clear hvc hit hres hresI hap hkin hbel
        go_upto_region 6 with fail
        go_region
        all_goals
          go_wp2_with fail
          obtain ⟨e1, e2, e3, VR, VJ⟩ := cutQ_end (.int .i64 pv) HQ.out (show w.heap.size + 1 < w1.heap.size from by have := HWS.out; omega)
          generalize ((((((wc.setCell ⟨w.heap.size, 0, none⟩ (.slice o0 I.length c0)).setCell ⟨w.heap.size, 1, none⟩ (.slice (some ⟨bf, of', none⟩) F.length c1)).setCell ⟨w.heap.size + 1, 0, none⟩ (.int .i64 (kk : Int))).setCell ⟨w.heap.size + 1, 1, none⟩ (.int .i64 pv)).setCell ⟨w.heap.size + 1, 2, none⟩ (.int .i64 m)).setCell ⟨w.heap.size + 1, 3, none⟩ (.slice uo l.length uc)).drew = WF at e1 e2 e3 VR VJ ⊢
          clear y0 y1 s0 s1 s2 s3 r0 rf0 r1 rf1 j0 jf0 j1 jf1 j2 jf2 j3 jf3 hq HQ
          have k0 := VR.c 0 rfl
          have k1 := VR.c 1 rfl
          have j0' := VJ.c 0 rfl
          have j1' := VJ.c 1 rfl
          have j2' := VJ.c 2 rfl
          have j3' := VJ.c 3 rfl
          have E1 := hid e1
          have E2 := hid e2
          have E3 := hid e3
          clear e1 e2 e3 VR VJ
          exact bodyPost_ret (v := .tuple #[.agg #[(.slice o0 I.length c0), (.slice (some ⟨bf, of', none⟩) F.length c1)], .agg #[.int .i64 (kk : Int), .int .i64 pv, .int .i64 m, .slice uo l.length uc]]) (by simp [results, Try.results4, go_sem, k0, k1, j0', j1', j2', j3']) rfl ⟨⟨_, _, I, F, _, _, _, _, l, rfl, E1.out, E2.out, hl⟩, E3.out⟩
    · have hFi : ¬ ((kk : Int) < (F.length : Int)) := by omega
      have hq : Hid (CutQ w bc bt w1.heap.size (.slice o0 I.length c0) (.slice o1 F.length c1) I F (kk : Int) m (.slice uo l.length uc) l w6) := hid ⟨⟨p, VT6.out⟩, VC6.out, V6.out, VI6.out, AP6.out, KR6.out, C6.out⟩
      clear x0_6 x1_6 t0_6 t1_6 tf1_6
      obtain ⟨⟨pv, hit⟩, hvc, hres, hresI, hap, hkin, hbel⟩ := hq.out
      have y0 := hvc.c 0 rfl
      have y1 := hvc.c 1 rfl
      have s0 := hit.c 0 rfl
      have s1 := hit.c 1 rfl
      have s2 := hit.c 2 rfl
      have s3 := hit.c 3 rfl
      have r0 := hres.c 0 rfl
      have rf0 := hres.f 0 rfl
      have r1 := hres.c 1 rfl
      have rf1 := hres.f 1 rfl
      have j0 := hresI.c 0 rfl
      have jf0 := hresI.f 0 rfl
      have j1 := hresI.c 1 rfl
      have jf1 := hresI.f 1 rfl
      have j2 := hresI.c 2 rfl
      have jf2 := hresI.f 2 rfl
      have j3 := hresI.c 3 rfl
      have jf3 := hresI.f 3 rfl
      have HQ := hq
      have hne : w.heap.size + 1 ≠ w.heap.size := by omega
      clear hvc hit hres hresI hap hkin hbel
      go_upto_region 6 with fail
      go_region
      all_goals
        go_wp2_with fail
        obtain ⟨e1, e2, e3, VR, VJ⟩ := cutQ_end (.int .i64 pv) HQ.out (show w.heap.size + 1 < w1.heap.size from by have := HWS.out; omega)
        generalize ((((((w6.setCell ⟨w.heap.size, 0, none⟩ (.slice o0 I.length c0)).setCell ⟨w.heap.size, 1, none⟩ (.slice o1 F.length c1)).setCell ⟨w.heap.size + 1, 0, none⟩ (.int .i64 (kk : Int))).setCell ⟨w.heap.size + 1, 1, none⟩ (.int .i64 pv)).setCell ⟨w.heap.size + 1, 2, none⟩ (.int .i64 m)).setCell ⟨w.heap.size + 1, 3, none⟩ (.slice uo l.length uc)).drew = WF at e1 e2 e3 VR VJ ⊢
        clear y0 y1 s0 s1 s2 s3 r0 rf0 r1 rf1 j0 jf0 j1 jf1 j2 jf2 j3 jf3 hq HQ
        have k0 := VR.c 0 rfl
        have k1 := VR.c 1 rfl
        have j0' := VJ.c 0 rfl
        have j1' := VJ.c 1 rfl
        have j2' := VJ.c 2 rfl
        have j3' := VJ.c 3 rfl
        have E1 := hid e1
        have E2 := hid e2
        have E3 := hid e3
        clear e1 e2 e3 VR VJ
        exact bodyPost_ret (v := .tuple #[.agg #[(.slice o0 I.length c0), (.slice o1 F.length c1)], .agg #[.int .i64 (kk : Int), .int .i64 pv, .int .i64 m, .slice uo l.length uc]]) (by simp [results, Try.results4, go_sem, k0, k1, j0', j1', j2', j3']) rfl ⟨⟨_, _, I, F, _, _, _, _, l, rfl, E1.out, E2.out, hl⟩, E3.out⟩
  · have hzz : (z == 0) = false := by simpa using hz
    have hq : Hid (CutQ w bc bt w1.heap.size (.slice o0 I.length c0) (.slice o1 F.length c1) I F (kk : Int) m (.slice uo l.length uc) l w6) := hid ⟨⟨p, VT6.out⟩, VC6.out, V6.out, VI6.out, AP6.out, KR6.out, C6.out⟩
    clear x0_6 x1_6 t0_6 t1_6 tf1_6
    obtain ⟨⟨pv, hit⟩, hvc, hres, hresI, hap, hkin, hbel⟩ := hq.out
    have y0 := hvc.c 0 rfl
    have y1 := hvc.c 1 rfl
    have s0 := hit.c 0 rfl
    have s1 := hit.c 1 rfl
    have s2 := hit.c 2 rfl
    have s3 := hit.c 3 rfl
    have r0 := hres.c 0 rfl
    have rf0 := hres.f 0 rfl
    have r1 := hres.c 1 rfl
    have rf1 := hres.f 1 rfl
    have j0 := hresI.c 0 rfl
    have jf0 := hresI.f 0 rfl
    have j1 := hresI.c 1 rfl
    have jf1 := hresI.f 1 rfl
    have j2 := hresI.c 2 rfl
    have jf2 := hresI.f 2 rfl
    have j3 := hresI.c 3 rfl
    have jf3 := hresI.f 3 rfl
    have HQ := hq
    have hne : w.heap.size + 1 ≠ w.heap.size := by omega
    clear hvc hit hres hresI hap hkin hbel
    go_upto_region 6 with fail
    go_region
    all_goals
      go_wp2_with fail
      obtain ⟨e1, e2, e3, VR, VJ⟩ := cutQ_end (.int .i64 pv) HQ.out (show w.heap.size + 1 < w1.heap.size from by have := HWS.out; omega)
      generalize ((((((w6.setCell ⟨w.heap.size, 0, none⟩ (.slice o0 I.length c0)).setCell ⟨w.heap.size, 1, none⟩ (.slice o1 F.length c1)).setCell ⟨w.heap.size + 1, 0, none⟩ (.int .i64 (kk : Int))).setCell ⟨w.heap.size + 1, 1, none⟩ (.int .i64 pv)).setCell ⟨w.heap.size + 1, 2, none⟩ (.int .i64 m)).setCell ⟨w.heap.size + 1, 3, none⟩ (.slice uo l.length uc)).drew = WF at e1 e2 e3 VR VJ ⊢
      clear y0 y1 s0 s1 s2 s3 r0 rf0 r1 rf1 j0 jf0 j1 jf1 j2 jf2 j3 jf3 hq HQ
      have k0 := VR.c 0 rfl
      have k1 := VR.c 1 rfl
      have j0' := VJ.c 0 rfl
      have j1' := VJ.c 1 rfl
      have j2' := VJ.c 2 rfl
      have j3' := VJ.c 3 rfl
      have E1 := hid e1
      have E2 := hid e2
      have E3 := hid e3
      clear e1 e2 e3 VR VJ
      exact bodyPost_ret (v := .tuple #[.agg #[(.slice o0 I.length c0), (.slice o1 F.length c1)], .agg #[.int .i64 (kk : Int), .int .i64 pv, .int .i64 m, .slice uo l.length uc]]) (by simp [results, Try.results4, go_sem, k0, k1, j0', j1', j2', j3']) rfl ⟨⟨_, _, I, F, _, _, _, _, l, rfl, E1.out, E2.out, hl⟩, E3.out⟩
end Go.Proofs.Ytilbaiohcfhcaaa
