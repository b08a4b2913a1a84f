/- The draw of a cache: contract. -/
import Derived.Test.YtilbaiohcfhcaaaYd
import Derived.Deep.Cut
namespace Go.Proofs.Ytilbaiohcfhcaaa
open Go.RowKit
attribute [local go_sem ↓] Go.wp_at_zero Go.wp_at_succ

theorem nums_three_y (w : World) : Nums (w.alloc (.cells #[.int .i64 (-1), .int .i64 61, .int .i64 9] 3)) w.heap.size 3 (fun z => -1 ≤ z ∧ z ≤ 61) := by
  refine ⟨by simp, fun i hi => ?_⟩
  rcases i with _ | _ | _ | i
  · exact ⟨-1, by go_cell, by omega⟩
  · exact ⟨61, by go_cell, by omega⟩
  · exact ⟨9, by go_cell, by omega⟩
  · omega
theorem nums_there (w : World) : Nums (w.alloc (.cells #[.int .i64 (-1), .int .i64 61, .int .i64 9] 3)) w.heap.size 3 (fun z => -1 ≤ z ∧ z ≤ 61) := nums_three_y w
theorem Nums.kept {w w' : World} {b m g : Nat} {P : Int → Prop} (h : Nums w b m P) (hg : w.grownBy w' (some g)) (hne : b ≠ g) : Nums w' b m P :=
  ⟨Nat.lt_of_lt_of_le h.1 hg.size, fun i hi => by obtain ⟨z, hz, hp⟩ := h.2 i hi; exact ⟨z, hg.cell hz (fun e => hne (Option.some.inj e)), hp⟩⟩
theorem Nums.later {w w' : World} {b m : Nat} {P : Int → Prop} (h : Nums w b m P) (hb : Below w.heap.size w w') : Nums w' b m P :=
  ⟨Nat.lt_of_lt_of_le h.1 hb.size, fun i hi => by obtain ⟨z, hz, hp⟩ := h.2 i hi; exact ⟨z, (hb.cell (p := ⟨b, i, none⟩) h.1).trans hz, hp⟩⟩
theorem nums_past {w w' : World} {g : Nat} (hg : ((w.alloc (.cells #[.int .i64 (-1), .int .i64 61, .int .i64 9] 3)).drew).grownBy w' (some g)) (hne : w.heap.size ≠ g) : Nums w' w.heap.size 3 (fun z => -1 ≤ z ∧ z ≤ 61) :=
  (nums_three_y w).kept (show (w.alloc (.cells #[.int .i64 (-1), .int .i64 61, .int .i64 9] 3)).grownBy w' (some g) from ⟨hg.os, hg.tape, hg.output, hg.size, hg.block⟩) hne
theorem row_slice {w : World} {B n sz : Nat} {e : TypeId} {v : Value} {xs : List Value} (h : w.ownsRow B e sz v n xs) : ∃ so sc, v = .slice so n sc := by
  rcases h.2 with ⟨rfl, rfl⟩ | ⟨b, cap, cur, rfl, _⟩
  · exact ⟨none, 0, rfl⟩
  · exact ⟨_, cap, rfl⟩
set_option maxRecDepth 100000 in
set_option maxHeartbeats 8000000 in
theorem l5Drawn_any (g p B : Nat) (w : World) (h : Rdr w B g p) (hp : p ≤ 100000) :
    Calls Try.prog 16 #[.pointer (some ⟨g, 0, none⟩)] w fun e w' => (∃ (v0 v1 : Value) (I F : List KD), e = .returned (.agg #[v0, v1]) ∧ I.length ≤ 8 ∧ Apart w.heap.size w' v0 v1 I F) ∧ w.grownBy w' (some g) ∧ ∃ q, q ≤ p + 1000 ∧ Rdr w' B g q := by
  have hgw := h.2.1
  have hBw : B ≤ w.heap.size := Nat.le_trans h.1 (Nat.le_of_lt hgw)
  have hV1 := hid (VarAt.new2 w (.slice none 0 0) (.slice none 0 0) 26)
  have hR1 := hid (h.later (w' := w.alloc (.cells #[.slice none 0 0, .slice none 0 0] 26)) (by go_grown))
  have hG1 := hid (World.grownBy_alloc w (.cells #[.slice none 0 0, .slice none 0 0] 26) (some g))
  have hs : (w.alloc (.cells #[.slice none 0 0, .slice none 0 0] 26)).heap.size = w.heap.size + 1 := by simp
  have hS := hid hs
  clear hs
  go_enter Try.func16, Try.ntmps16
  go_wp2_with fail
  generalize w.alloc (.cells #[.slice none 0 0, .slice none 0 0] 26) = W at hV1 hR1 hG1 hS ⊢
  refine (specCOpen_own _).mono ?_
  rintro e w1 ⟨⟨gF, rfl, hrow⟩, b1⟩
  have hfl := hrow.lt gF rfl
  have hz1 := b1.size
  have hW1 := hid (And.intro hfl.1 (And.intro hfl.2 hz1))
  have hB2 := hid (b1.trans ((show Below w1.heap.size w1 (w1.alloc (.cells #[.slice none 0 0, .slice (some ⟨gF, 0, none⟩) 24 24] 26)) by go_grown).mono hz1))
  have hA2 := hid (show Below w1.heap.size w1 (w1.alloc (.cells #[.slice none 0 0, .slice (some ⟨gF, 0, none⟩) 24 24] 26)) by go_grown)
  have hV2 := hid (VarAt.new2 w1 (.slice none 0 0) (.slice (some ⟨gF, 0, none⟩) 24 24) 26)
  have hROW := hid hrow
  have hN2 : Hid ((w1.alloc (.cells #[.slice none 0 0, .slice (some ⟨gF, 0, none⟩) 24 24] 26)).heap.size = w1.heap.size + 1) := hid (by simp)
  clear hrow hfl hz1 b1
  go_wp2_with fail
  generalize w1.alloc (.cells #[.slice none 0 0, .slice (some ⟨gF, 0, none⟩) 24 24] 26) = w2 at hB2 hA2 hV2 hN2 ⊢
  obtain ⟨bc, hbc⟩ : ∃ b, w1.heap.size = b := ⟨_, rfl⟩
  rw [hbc] at hV2 hN2 ⊢
  obtain ⟨N, hN⟩ : ∃ b, w2.heap.size = b := ⟨_, rfl⟩
  have hws : w.heap.size < bc := by have := hS.out; have := hW1.out; omega
  have hgF : w.heap.size < gF := by have := hS.out; have := hW1.out; omega
  have hgb : gF < bc := by have := hW1.out; omega
  have hbN : bc < N := by have := hN2.out; omega
  have hVR := hid (hV1.out.later hB2.out)
  have hD2 : Hid (DrK w w2 B g p N gF (.slice none 0 0) [] zeroF) := hid ⟨hR1.out.later hB2.out, grown_trans hG1.out (grown_wide (grownBelowR hB2.out)), ⟨none, 0, rfl, Nat.zero_le _, fun q => absurd q (Nat.lt_irrefl 0), ⟨[], by exact World.ownsRow_nil _ _ _ _⟩, fun q hq => by cases hq⟩, row_mono (row_later hROW.out hA2.out) (by have := hS.out; omega), zeroF_flo, Nat.zero_le _, by omega, hgw, by omega⟩
  have hST := hid (And.intro hws (And.intro hgF (And.intro hgb (And.intro hbN (And.intro hgw hBw)))))
  clear hROW hA2 hB2 hV1 hR1 hG1 hS hW1 hN2 hN hbc
  refine (pick_any g p 12 B _ hD2.out.rdr (by omega) (by omega)).mono ?_
  rintro e w3 ⟨m, rfl, m0, m1, R3, g3⟩
  have hm12 := m1 (by omega)
  obtain ⟨m, rfl⟩ := Int.eq_ofNat_of_zero_le m0
  have hD3 := hid (hD2.out.kept R3 g3)
  have hVR3 := hid (hVR.out.kept g3 (fun e => by have := Option.some.inj e; omega))
  have hV3 := hid (hV2.out.kept g3 (fun e => by have := Option.some.inj e; omega))
  clear hD2 hVR hV2 R3 g3 m1
  go_wp2_with fail
  go_loopw [4] (fun i wr => ∃ (k q : Nat) (v : Value) (I F : List KD), k ≤ 12 ∧ i = .int .i64 k ∧ q + k * 60 ≤ p + 800 ∧ Hid (DrK w wr B g q N gF v I F) ∧ Hid (VarAt wr w.heap.size [.slice none 0 0, .slice none 0 0]) ∧ Hid (VarAt wr bc [v, .slice (some ⟨gF, 0, none⟩) 24 24])) (fun i _ => (intOf i).toNat)
  case atStart => exact ⟨m, p + 1, _, [], zeroF, by omega, rfl, by omega, hD3, hVR3, hV3⟩
  case round =>
    clear hD3 hVR3 hV3
    obtain ⟨k, q, v, I, F, hk, rfl, hq, hD, hVR, hV⟩ := hrel
    rcases k with _ | k
    · go_wp2_with fail
      refine (pick_any g q 40 B _ hD.out.rdr (by omega) (by omega)).mono ?_
      rintro e w4 ⟨z, rfl, z0, z1, R4, g4⟩
      have D4 := hid (hD.out.kept R4 g4)
      have VR4 := hid (hVR.out.kept g4 (fun e => by have := Option.some.inj e; omega))
      have V4 := hid (hV.out.kept g4 (fun e => by have := Option.some.inj e; omega))
      obtain ⟨vo, vc, hv, _⟩ := D4.out.rdk
      subst hv
      have c0_4 := V4.out.c 0 rfl
      have c1_4 := V4.out.c 1 rfl
      have f0_4 := V4.out.f 0 rfl
      have f1_4 := V4.out.f 1 rfl
      have r0_4 := VR4.out.c 0 rfl
      have r1_4 := VR4.out.c 1 rfl
      have rf0_4 := VR4.out.f 0 rfl
      have rf1_4 := VR4.out.f 1 rfl
      have hgr : some g ≠ some w.heap.size := fun e => by have := Option.some.inj e; omega
      have hgb' : some g ≠ some bc := fun e => by have := Option.some.inj e; omega
      have hfr : ¬ w.heap.size = gF := by omega
      have hfb : ¬ bc = gF := by omega
      have hI4 : I.length ≤ 1000 := by have := D4.out.h4; omega
      clear hD hVR hV R4 g4
      have hwN : w.heap.size ≤ N := by omega
      have vl_4 := V4.out.1
      have hL4 := D4.out.h4
      by_cases hz0 : z = 0
      · subst hz0
        have D5 := hid (D4.out.set (p := ⟨bc, 1, none⟩) (Nat.le_of_lt hws) hbN (by show bc ≠ gF; omega) (.slice (some ⟨gF, 0, none⟩) 3 24))
        go_wp2_with fail
        have E9 := (D5.out.set (p := ⟨w.heap.size, 0, none⟩) (Nat.le_refl _) (by show w.heap.size < N; omega) hfr (.slice vo I.length vc)).set (p := ⟨w.heap.size, 1, none⟩) (Nat.le_refl _) (by show w.heap.size < N; omega) hfr (.slice (some ⟨gF, 0, none⟩) 3 24)
        have k0 : (((w4.setCell ⟨bc, 1, none⟩ (.slice (some ⟨gF, 0, none⟩) 3 24)).setCell ⟨w.heap.size, 0, none⟩ (.slice vo I.length vc)).setCell ⟨w.heap.size, 1, none⟩ (.slice (some ⟨gF, 0, none⟩) 3 24)).cell? ⟨w.heap.size, 0, none⟩ = some (.slice vo I.length vc) := by go_cell
        have k1 : (((w4.setCell ⟨bc, 1, none⟩ (.slice (some ⟨gF, 0, none⟩) 3 24)).setCell ⟨w.heap.size, 0, none⟩ (.slice vo I.length vc)).setCell ⟨w.heap.size, 1, none⟩ (.slice (some ⟨gF, 0, none⟩) 3 24)).cell? ⟨w.heap.size, 1, none⟩ = some (.slice (some ⟨gF, 0, none⟩) 3 24) := by go_cell
        have O9 : Only (fun q => q < N) (w4.setCell ⟨bc, 1, none⟩ (.slice (some ⟨gF, 0, none⟩) 3 24)) (((w4.setCell ⟨bc, 1, none⟩ (.slice (some ⟨gF, 0, none⟩) 3 24)).setCell ⟨w.heap.size, 0, none⟩ (.slice vo I.length vc)).setCell ⟨w.heap.size, 1, none⟩ (.slice (some ⟨gF, 0, none⟩) 3 24)) := (Only.set (F := fun q => q < N) _ (p := ⟨w.heap.size, 0, none⟩) (by show w.heap.size < N; omega) _).trans (Only.set (F := fun q => q < N) _ (p := ⟨w.heap.size, 1, none⟩) (by show w.heap.size < N; omega) _)
        exact bodyPost_ret (v := .agg #[(.slice vo I.length vc), (.slice (some ⟨gF, 0, none⟩) 3 24)]) (by simp [results, Try.results16, go_sem, k0, k1]) rfl ⟨⟨_, _, I, (F.take 3), rfl, by first | omega | (simp; omega), fun w9 h9 => ⟨(E9.rdk.apI.mono hwN) w9 h9, ((apF_row E9.row E9.flo E9.fw) w9 h9).takeN (by rw [E9.flo.1]; decide)⟩⟩, E9.grown, _, by omega, E9.rdr⟩
      · have e0 : (z == 0) = false := by simpa using hz0
        clear hz0
        by_cases hz1 : z = 1
        · subst hz1
          obtain ⟨i0, hi, hi0, hi1, hi2⟩ := info_parts Try.infoItem_K
          go_upto_region 13 with fail
          go_region_law (first
            | (refine step_callK rfl 17 _ _ rfl _ (by first | (simp [Act.eval]; done) | rfl) Try.call17 _ (l5Any_any g (q + 1) B _ (D4.out.rdr.later (by go_grown)) (by omega)) ?_; rintro e w5 ⟨a, b, n, u, l, rfl, ho, hl, ha, hb, g5, q5, hq5, R5⟩; refine ⟨_, rfl, ?_⟩; have D5 := hid (D4.out.kept R5 (show w4.grownBy w5 (some g) from ⟨g5.os, g5.tape, g5.output, g5.size, g5.block⟩)); have VR5 := hid (VR4.out.kept (show w4.grownBy w5 (some g) from ⟨g5.os, g5.tape, g5.output, g5.size, g5.block⟩) hgr); have V5 := hid (V4.out.kept (show w4.grownBy w5 (some g) from ⟨g5.os, g5.tape, g5.output, g5.size, g5.block⟩) hgb'); have c0_5 := V5.out.c 0 rfl; have c1_5 := V5.out.c 1 rfl; have vl_5 := V5.out.1; obtain ⟨uo, uc, hu, _⟩ := ho.rd; subst hu; have HU5 := hid (Own.mono ho (B' := N) D4.out.size); obtain ⟨xs, us, hRA, hKR⟩ := D5.out.rdk.rowA (B := N) (fun q hq => Nat.le_of_not_lt hq); have HRA := hid hRA; have HKR := hid hKR; have L6 : Hid (Below w5.heap.size w5 (w5.alloc (.cells #[.int .i64 a, .int .i64 b, .int .i64 n, .slice uo l.length uc] 31))) := hid (by go_grown); have HK6 := hid (hRA.later L6.out); have HNW := hid (four_new w5 a b n (.slice uo l.length uc)); have HOWN := hid (fun q hq => (hRA.row.lt q hq).1); have hk1' : I.length + 1 ≤ maxLen := (by unfold maxLen; omega); have hk2' : (I.length + 1) * 48 ≤ 140737488355328 := (by omega); have hz6 : N ≤ (w5.alloc (.cells #[.int .i64 a, .int .i64 b, .int .i64 n, .slice uo l.length uc] 31)).heap.size := Nat.le_trans D5.out.size L6.out.size; clear R5 g5 ho hRA hKR)
            | (refine step_append_own rfl _ _ 23 rfl N 31 i0 (.agg #[.int .i64 0, .int .i64 0, .int .i64 0, .slice none 0 0]) 4 48 Try.underlying23 hi hi0 hi1 hi2 rfl (by decide) (.slice vo I.length vc) I.length xs (by simp [Act.eval]) HK6.out.row ⟨w5.heap.size, 0, none⟩ 1 1 [.int .i64 a, .int .i64 b, .int .i64 n, .slice uo l.length uc] (by simp [Act.eval]) rfl HNW.out (by simp [Value.oneCell']) hk1' hk2' hz6 ?_; intro v6 w6 hown6 hgr6 _; obtain ⟨g6, c6, hv6⟩ := ownsRow_succ hown6; subst hv6; have AP6 := hid (add_apI HRA.out HKR.out L6.out HU5.out hown6 hgr6); have O6 := hid (only_grownN L6.out hgr6 HOWN.out); have D6 := hid (D5.out.far hwN O6.out); have VR6 := hid (VR5.out.only O6.out (by show ¬ N ≤ w.heap.size; omega)); have V6 := hid (V5.out.only O6.out (by show ¬ N ≤ bc; omega)); have c0_6 := V6.out.c 0 rfl; have c1_6 := V6.out.c 1 rfl; have f0_6 := V6.out.f 0 rfl; have f1_6 := V6.out.f 1 rfl; have r0_6 := VR6.out.c 0 rfl; have r1_6 := VR6.out.c 1 rfl; have rf0_6 := VR6.out.f 0 rfl; have rf1_6 := VR6.out.f 1 rfl; clear hown6 hgr6))
          all_goals
            have E8 := hid (D6.out.set (p := ⟨bc, 0, none⟩) (Nat.le_of_lt hws) hbN (by show bc ≠ gF; omega) (.slice (some ⟨g6, 0, none⟩) (I.length + 1) c6))
            have AP8 := hid (AP6.out.only (Only.set (F := fun q => q < N) _ (p := ⟨bc, 0, none⟩) hbN (.slice (some ⟨g6, 0, none⟩) (I.length + 1) c6)))
            go_wp2_with fail
            have E9 := (E8.out.set (p := ⟨w.heap.size, 0, none⟩) (Nat.le_refl _) (by show w.heap.size < N; omega) hfr (.slice (some ⟨g6, 0, none⟩) (I.length + 1) c6)).set (p := ⟨w.heap.size, 1, none⟩) (Nat.le_refl _) (by show w.heap.size < N; omega) hfr (.slice (some ⟨gF, 0, none⟩) 24 24)
            have k0 : (((w6.setCell ⟨bc, 0, none⟩ (.slice (some ⟨g6, 0, none⟩) (I.length + 1) c6)).setCell ⟨w.heap.size, 0, none⟩ (.slice (some ⟨g6, 0, none⟩) (I.length + 1) c6)).setCell ⟨w.heap.size, 1, none⟩ (.slice (some ⟨gF, 0, none⟩) 24 24)).cell? ⟨w.heap.size, 0, none⟩ = some (.slice (some ⟨g6, 0, none⟩) (I.length + 1) c6) := by go_cell
            have k1 : (((w6.setCell ⟨bc, 0, none⟩ (.slice (some ⟨g6, 0, none⟩) (I.length + 1) c6)).setCell ⟨w.heap.size, 0, none⟩ (.slice (some ⟨g6, 0, none⟩) (I.length + 1) c6)).setCell ⟨w.heap.size, 1, none⟩ (.slice (some ⟨gF, 0, none⟩) 24 24)).cell? ⟨w.heap.size, 1, none⟩ = some (.slice (some ⟨gF, 0, none⟩) 24 24) := by go_cell
            have O9 : Only (fun q => q < N) (w6.setCell ⟨bc, 0, none⟩ (.slice (some ⟨g6, 0, none⟩) (I.length + 1) c6)) (((w6.setCell ⟨bc, 0, none⟩ (.slice (some ⟨g6, 0, none⟩) (I.length + 1) c6)).setCell ⟨w.heap.size, 0, none⟩ (.slice (some ⟨g6, 0, none⟩) (I.length + 1) c6)).setCell ⟨w.heap.size, 1, none⟩ (.slice (some ⟨gF, 0, none⟩) 24 24)) := (Only.set (F := fun q => q < N) _ (p := ⟨w.heap.size, 0, none⟩) (by show w.heap.size < N; omega) _).trans (Only.set (F := fun q => q < N) _ (p := ⟨w.heap.size, 1, none⟩) (by show w.heap.size < N; omega) _)
            exact bodyPost_ret (v := .agg #[(.slice (some ⟨g6, 0, none⟩) (I.length + 1) c6), (.slice (some ⟨gF, 0, none⟩) 24 24)]) (by simp [results, Try.results16, go_sem, k0, k1]) rfl ⟨⟨_, _, _, F, rfl, by first | omega | (simp; omega), fun w9 h9 => ⟨((AP8.out.only O9).mono hwN) w9 h9, (apF_row E9.row E9.flo E9.fw) w9 h9⟩⟩, E9.grown, _, by omega, E9.rdr⟩
        · have e1 : (z == 1) = false := by simpa using hz1
          clear hz1
          by_cases hz2 : z = 2
          · subst hz2
            go_upto_region 15 with fail
            have HT0 := hid trivial
            have hng : bc ≠ g := by omega
            go_region_with (first
              | (have zz := HT0; clear zz HT0; go_at_call 18; refine (pick_any g (q + 1) 24 B _ (D4.out.rdr.later (by go_grown)) (by omega) (by omega)).mono ?_; rintro e w5 ⟨a, rfl, a0, a1, R5, g5⟩; have ha24 := a1 (by omega); obtain ⟨aa, rfl⟩ := Int.eq_ofNat_of_zero_le a0; have G5 : w4.grownBy w5 (some g) := grown_trans (show w4.grownBy _ (some g) from grown_wide (grownBelowR (by go_grown))) g5; (first | (with_reducible have NB := nums_past g5 (by have := D4.out.gw; have := D4.out.grown.size; omega)) | skip); have D5 := hid (D4.out.kept R5 G5); have VR5 := hid (VR4.out.kept G5 hgr); have V5 := hid (V4.out.kept G5 hgb'); have c0_5 := V5.out.c 0 rfl; have c1_5 := V5.out.c 1 rfl; have vl_5 := V5.out.1; clear R5 g5 a0 a1)
              | (have NB5 := NB; go_at_call 32; refine (num_any g (q + 1 + 1) w4.heap.size 3 3 B _ _ (D5.out.rdr.later (by go_grown)) (by omega) (by omega) (by omega) (by have := D4.out.gw; have := D4.out.grown.size; omega) (NB5.later (by go_grown))).mono ?_; rintro e w6 ⟨b, rfl, hb, R6, g6⟩; have G6 : w5.grownBy w6 (some g) := grown_trans (show w5.grownBy _ (some g) from grown_wide (grownBelowR (by go_grown))) g6; have D6 := hid (D5.out.kept R6 G6); have VR6 := hid (VR5.out.kept G6 hgr); have V6 := hid (V5.out.kept G6 hgb'); have c0_6 := V6.out.c 0 rfl; have c1_6 := V6.out.c 1 rfl; have vl_6 := V6.out.1; have r0_6 := VR6.out.c 0 rfl; have r1_6 := VR6.out.c 1 rfl; have rf0_6 := VR6.out.f 0 rfl; have rf1_6 := VR6.out.f 1 rfl; have qf := D6.out.row.frozenAt aa; obtain ⟨y6, hy6⟩ := row_cell D6.out.row aa (by omega); clear R6 g6)
              | (go_at_call 32; refine (num_any g (q + 1 + 1) w5.heap.size 3 3 B _ _ (D5.out.rdr.later (by go_grown)) (by omega) (by omega) (by omega) (by have := D5.out.gw; have := D5.out.grown.size; omega) (nums_there w5)).mono ?_; rintro e w6 ⟨b, rfl, hb, R6, g6⟩; have G6 : w5.grownBy w6 (some g) := grown_trans (show w5.grownBy _ (some g) from grown_wide (grownBelowR (by go_grown))) g6; have D6 := hid (D5.out.kept R6 G6); have VR6 := hid (VR5.out.kept G6 hgr); have V6 := hid (V5.out.kept G6 hgb'); have c0_6 := V6.out.c 0 rfl; have c1_6 := V6.out.c 1 rfl; have vl_6 := V6.out.1; have r0_6 := VR6.out.c 0 rfl; have r1_6 := VR6.out.c 1 rfl; have rf0_6 := VR6.out.f 0 rfl; have rf1_6 := VR6.out.f 1 rfl; have qf := D6.out.row.frozenAt aa; obtain ⟨y6, hy6⟩ := row_cell D6.out.row aa (by omega); clear R6 g6))
            all_goals
              have R7 := row_put1 D6.out.row aa (.int .i64 b)
              rw [floC_set] at R7
              have O7 : Only (fun k => k = gF) w6 (w6.setCell ⟨gF, aa, none⟩ (.int .i64 b)) := Only.set (F := fun k => k = gF) _ (p := ⟨gF, aa, none⟩) rfl _
              have D7 := hid (D6.out.call (D6.out.rdk.only (O7.mono (fun k hk => by show k < N; omega))) R7 (D6.out.flo.set aa b (by omega)) D6.out.h4 O7)
              clear R7 O7
              go_wp2_with fail
              have E9 := (D7.out.set (p := ⟨w.heap.size, 0, none⟩) (Nat.le_refl _) (by show w.heap.size < N; omega) hfr (.slice vo I.length vc)).set (p := ⟨w.heap.size, 1, none⟩) (Nat.le_refl _) (by show w.heap.size < N; omega) hfr (.slice (some ⟨gF, 0, none⟩) 24 24)
              have k0 : (((w6.setCell ⟨gF, aa, none⟩ (.int .i64 b)).setCell ⟨w.heap.size, 0, none⟩ (.slice vo I.length vc)).setCell ⟨w.heap.size, 1, none⟩ (.slice (some ⟨gF, 0, none⟩) 24 24)).cell? ⟨w.heap.size, 0, none⟩ = some (.slice vo I.length vc) := by go_cell
              have k1 : (((w6.setCell ⟨gF, aa, none⟩ (.int .i64 b)).setCell ⟨w.heap.size, 0, none⟩ (.slice vo I.length vc)).setCell ⟨w.heap.size, 1, none⟩ (.slice (some ⟨gF, 0, none⟩) 24 24)).cell? ⟨w.heap.size, 1, none⟩ = some (.slice (some ⟨gF, 0, none⟩) 24 24) := by go_cell
              have O9 : Only (fun q => q < N) (w6.setCell ⟨gF, aa, none⟩ (.int .i64 b)) (((w6.setCell ⟨gF, aa, none⟩ (.int .i64 b)).setCell ⟨w.heap.size, 0, none⟩ (.slice vo I.length vc)).setCell ⟨w.heap.size, 1, none⟩ (.slice (some ⟨gF, 0, none⟩) 24 24)) := (Only.set (F := fun q => q < N) _ (p := ⟨w.heap.size, 0, none⟩) (by show w.heap.size < N; omega) _).trans (Only.set (F := fun q => q < N) _ (p := ⟨w.heap.size, 1, none⟩) (by show w.heap.size < N; omega) _)
              exact bodyPost_ret (v := .agg #[(.slice vo I.length vc), (.slice (some ⟨gF, 0, none⟩) 24 24)]) (by simp [results, Try.results16, go_sem, k0, k1]) rfl ⟨⟨_, _, I, _, rfl, by first | omega | (simp; omega), fun w9 h9 => ⟨(E9.rdk.apI.mono hwN) w9 h9, (apF_row E9.row E9.flo E9.fw) w9 h9⟩⟩, E9.grown, _, by omega, E9.rdr⟩
          · have e2 : (z == 2) = false := by simpa using hz2
            clear hz2
            by_cases hz3 : z = 3
            · subst hz3
              obtain ⟨xs, us, hRA, hKR⟩ := D4.out.rdk.rowA (B := N) (fun q hq => Nat.le_of_not_lt hq)
              have HRA := hid hRA
              have HKR := hid hKR
              have HSRC := hid (hRA.src (fun i hi => (hKR i hi).1))
              have HOWN := hid (fun q hq => (hRA.row.lt q hq).1)
              have hk1' : I.length + I.length ≤ maxLen := (by unfold maxLen; omega)
              have hk2' : (I.length + I.length) * 48 ≤ 140737488355328 := (by omega)
              have hz6 : N ≤ w4.heap.size := D4.out.size
              clear hRA hKR
              go_wp2_with (first | (at_builtin; refine wpList_append_rd rfl _ _ rfl N (.slice vo I.length vc) I.length xs (by simp [Act.eval]) HRA.out.row vo I.length vc xs (by simp [Act.eval]) HSRC.out hk1' hk2' hz6 ?_; intro v6 w6 hown6 hgr6; have AP6 := hid (dbl_apI HRA.out HKR.out hown6 hgr6); have O6 := hid (only_grownN (Below.refl _ w4) hgr6 HOWN.out); obtain ⟨g6, c6, hv6⟩ : ∃ g6 c6, v6 = .slice g6 (I.length + I.length) c6 := row_slice hown6; subst hv6; have D6 := hid (D4.out.far hwN O6.out); have VR6 := hid (VR4.out.only O6.out (by show ¬ N ≤ w.heap.size; omega)); have V6 := hid (V4.out.only O6.out (by show ¬ N ≤ bc; omega)); have c0_6 := V6.out.c 0 rfl; have c1_6 := V6.out.c 1 rfl; have f0_6 := V6.out.f 0 rfl; have f1_6 := V6.out.f 1 rfl; have r0_6 := VR6.out.c 0 rfl; have r1_6 := VR6.out.c 1 rfl; have rf0_6 := VR6.out.f 0 rfl; have rf1_6 := VR6.out.f 1 rfl; clear hown6 hgr6))
              have E8 := hid (D6.out.set (p := ⟨bc, 0, none⟩) (Nat.le_of_lt hws) hbN (by show bc ≠ gF; omega) (.slice g6 (I.length + I.length) c6))
              have AP8 := hid (AP6.out.only (Only.set (F := fun q => q < N) _ (p := ⟨bc, 0, none⟩) hbN (.slice g6 (I.length + I.length) c6)))
              have E9 := (E8.out.set (p := ⟨w.heap.size, 0, none⟩) (Nat.le_refl _) (by show w.heap.size < N; omega) hfr (.slice g6 (I.length + I.length) c6)).set (p := ⟨w.heap.size, 1, none⟩) (Nat.le_refl _) (by show w.heap.size < N; omega) hfr (.slice (some ⟨gF, 0, none⟩) 24 24)
              have k0 : (((w6.setCell ⟨bc, 0, none⟩ (.slice g6 (I.length + I.length) c6)).setCell ⟨w.heap.size, 0, none⟩ (.slice g6 (I.length + I.length) c6)).setCell ⟨w.heap.size, 1, none⟩ (.slice (some ⟨gF, 0, none⟩) 24 24)).cell? ⟨w.heap.size, 0, none⟩ = some (.slice g6 (I.length + I.length) c6) := by go_cell
              have k1 : (((w6.setCell ⟨bc, 0, none⟩ (.slice g6 (I.length + I.length) c6)).setCell ⟨w.heap.size, 0, none⟩ (.slice g6 (I.length + I.length) c6)).setCell ⟨w.heap.size, 1, none⟩ (.slice (some ⟨gF, 0, none⟩) 24 24)).cell? ⟨w.heap.size, 1, none⟩ = some (.slice (some ⟨gF, 0, none⟩) 24 24) := by go_cell
              have O9 : Only (fun q => q < N) (w6.setCell ⟨bc, 0, none⟩ (.slice g6 (I.length + I.length) c6)) (((w6.setCell ⟨bc, 0, none⟩ (.slice g6 (I.length + I.length) c6)).setCell ⟨w.heap.size, 0, none⟩ (.slice g6 (I.length + I.length) c6)).setCell ⟨w.heap.size, 1, none⟩ (.slice (some ⟨gF, 0, none⟩) 24 24)) := (Only.set (F := fun q => q < N) _ (p := ⟨w.heap.size, 0, none⟩) (by show w.heap.size < N; omega) _).trans (Only.set (F := fun q => q < N) _ (p := ⟨w.heap.size, 1, none⟩) (by show w.heap.size < N; omega) _)
              exact bodyPost_ret (v := .agg #[(.slice g6 (I.length + I.length) c6), (.slice (some ⟨gF, 0, none⟩) 24 24)]) (by simp [results, Try.results16, go_sem, k0, k1]) rfl ⟨⟨_, _, _, F, rfl, by first | omega | (simp; omega), fun w9 h9 => ⟨((AP8.out.only O9).mono hwN) w9 h9, (apF_row E9.row E9.flo E9.fw) w9 h9⟩⟩, E9.grown, _, by omega, E9.rdr⟩
            · have e3 : (z == 3) = false := by simpa using hz3
              clear hz3
              go_wp2_with fail
              have E9 := (D4.out.set (p := ⟨w.heap.size, 0, none⟩) (Nat.le_refl _) (by show w.heap.size < N; omega) hfr (.slice vo I.length vc)).set (p := ⟨w.heap.size, 1, none⟩) (Nat.le_refl _) (by show w.heap.size < N; omega) hfr (.slice (some ⟨gF, 0, none⟩) 24 24)
              have k0 : ((w4.setCell ⟨w.heap.size, 0, none⟩ (.slice vo I.length vc)).setCell ⟨w.heap.size, 1, none⟩ (.slice (some ⟨gF, 0, none⟩) 24 24)).cell? ⟨w.heap.size, 0, none⟩ = some (.slice vo I.length vc) := by go_cell
              have k1 : ((w4.setCell ⟨w.heap.size, 0, none⟩ (.slice vo I.length vc)).setCell ⟨w.heap.size, 1, none⟩ (.slice (some ⟨gF, 0, none⟩) 24 24)).cell? ⟨w.heap.size, 1, none⟩ = some (.slice (some ⟨gF, 0, none⟩) 24 24) := by go_cell
              have O9 : Only (fun q => q < N) w4 ((w4.setCell ⟨w.heap.size, 0, none⟩ (.slice vo I.length vc)).setCell ⟨w.heap.size, 1, none⟩ (.slice (some ⟨gF, 0, none⟩) 24 24)) := (Only.set (F := fun q => q < N) _ (p := ⟨w.heap.size, 0, none⟩) (by show w.heap.size < N; omega) _).trans (Only.set (F := fun q => q < N) _ (p := ⟨w.heap.size, 1, none⟩) (by show w.heap.size < N; omega) _)
              exact bodyPost_ret (v := .agg #[(.slice vo I.length vc), (.slice (some ⟨gF, 0, none⟩) 24 24)]) (by simp [results, Try.results16, go_sem, k0, k1]) rfl ⟨⟨_, _, I, F, rfl, by first | omega | (simp; omega), fun w9 h9 => ⟨(E9.rdk.apI.mono hwN) w9 h9, (apF_row E9.row E9.flo E9.fw) w9 h9⟩⟩, E9.grown, _, by omega, E9.rdr⟩
    · have hkp : (0 : Int) < ((k + 1 : Nat) : Int) := by omega
      go_wp2_with fail
      refine (pick_any g q 5 B _ hD.out.rdr (by omega) (by omega)).mono ?_
      rintro e w4 ⟨z, rfl, z0, z1, R4, g4⟩
      have D4 := hid (hD.out.kept R4 g4)
      have VR4 := hid (hVR.out.kept g4 (fun e => by have := Option.some.inj e; omega))
      have V4 := hid (hV.out.kept g4 (fun e => by have := Option.some.inj e; omega))
      obtain ⟨vo, vc, hv, _⟩ := D4.out.rdk
      subst hv
      have c0_4 := V4.out.c 0 rfl
      have c1_4 := V4.out.c 1 rfl
      have hgr : some g ≠ some w.heap.size := fun e => by have := Option.some.inj e; omega
      have hgb' : some g ≠ some bc := fun e => by have := Option.some.inj e; omega
      have hfr : ¬ w.heap.size = gF := by omega
      have hfb : ¬ bc = gF := by omega
      have hI4 : I.length ≤ 1000 := by have := D4.out.h4; omega
      clear hD hVR hV R4 g4
      by_cases hz : z = 0
      · subst hz
        go_upto_region 8 with fail
        have HT0 := hid trivial
        go_region_with (first
          | (have zz := HT0; clear zz HT0; go_at_call 18; refine (pick_any g (q + 1) 24 B _ (D4.out.rdr.later (by go_grown)) (by omega) (by omega)).mono ?_; rintro e w5 ⟨a, rfl, a0, a1, R5, g5⟩; have D5 := hid (D4.out.kept R5 (show w4.grownBy w5 (some g) from ⟨g5.os, g5.tape, g5.output, g5.size, g5.block⟩)); have VR5 := hid (VR4.out.kept (show w4.grownBy w5 (some g) from ⟨g5.os, g5.tape, g5.output, g5.size, g5.block⟩) hgr); have V5 := hid (V4.out.kept (show w4.grownBy w5 (some g) from ⟨g5.os, g5.tape, g5.output, g5.size, g5.block⟩) hgb'); have c0_5 := V5.out.c 0 rfl; have c1_5 := V5.out.c 1 rfl; clear R5 g5 a1)
          | (go_at_call 18; refine (pick_any g (q + 1 + 1) 6 B _ (D5.out.rdr.later (by go_grown)) (by omega) (by omega)).mono ?_; rintro e w6 ⟨b, rfl, b0, b1, R6, g6⟩; have D6 := hid (D5.out.kept R6 (show w5.grownBy w6 (some g) from ⟨g6.os, g6.tape, g6.output, g6.size, g6.block⟩)); have VR6 := hid (VR5.out.kept (show w5.grownBy w6 (some g) from ⟨g6.os, g6.tape, g6.output, g6.size, g6.block⟩) hgr); have V6 := hid (V5.out.kept (show w5.grownBy w6 (some g) from ⟨g6.os, g6.tape, g6.output, g6.size, g6.block⟩) hgb'); have c0_6 := V6.out.c 0 rfl; have c1_6 := V6.out.c 1 rfl; clear R6 g6 b1)
          | (go_at_call 36; obtain ⟨I', F', hDD, hF', h4'⟩ := floD D6.out.flo D6.out.h4 a b; refine (l5Floor_any N gF 24 w.heap.size _ I F a b _ (D6.out.rdk.later (by go_grown)) (Nat.le_trans D6.out.size (show Below w6.heap.size w6 _ by go_grown).size) D6.out.fN (row_later D6.out.row (by go_grown)) D6.out.flo hI4 hDD).mono ?_; rintro e w7 ⟨⟨x, rfl, hx, hrow⟩, o7⟩; simp only at hx hrow; obtain ⟨xo, xc, hv, _⟩ := id hx; subst hv; have D7 := hid (D6.out.call hx hrow hF' h4' (show Only (fun k => k = gF) w6 w7 from ⟨o7.os, o7.tape, o7.output, o7.size, o7.block⟩)); have VR7 := hid (VR6.out.only (show Only (fun k => k = gF) w6 w7 from ⟨o7.os, o7.tape, o7.output, o7.size, o7.block⟩) hfr); have V7 := hid (V6.out.only (show Only (fun k => k = gF) w6 w7 from ⟨o7.os, o7.tape, o7.output, o7.size, o7.block⟩) hfb); have c0_7 := V7.out.c 0 rfl; have c1_7 := V7.out.c 1 rfl; have f0_7 := V7.out.f 0 rfl; have f1_7 := V7.out.f 1 rfl; clear hx hrow o7))
        all_goals
          have E8 := hid ((D7.out.set (p := ⟨bc, 0, none⟩) (Nat.le_of_lt hws) hbN (by show bc ≠ gF; omega) (.slice xo I'.length xc)).set (p := ⟨bc, 1, none⟩) (Nat.le_of_lt hws) hbN (by show bc ≠ gF; omega) (.slice (some ⟨gF, 0, none⟩) 24 24))
          have VR8 := hid ((VR7.out.far (p := ⟨bc, 0, none⟩) (by show bc ≠ w.heap.size; omega) (.slice xo I'.length xc)).far (p := ⟨bc, 1, none⟩) (by show bc ≠ w.heap.size; omega) (.slice (some ⟨gF, 0, none⟩) 24 24))
          have V8 := hid ((V7.out.set 0 (by simp) (.slice xo I'.length xc)).set 1 (by simp) (.slice (some ⟨gF, 0, none⟩) 24 24))
          go_wp2_with fail
          go_roundw
          case rel => exact ⟨k, _, _, I', F', by omega, by go_num, by omega, E8, VR8, V8⟩
          case measure => simp [intOf]
      · have hzz : (z == 0) = false := by simpa using hz
        clear hz
        go_upto_region 6 with fail
        go_region_with (first
          | (go_at_call 17; refine (l5Any_any g (q + 1) B _ (D4.out.rdr.later (by go_grown)) (by omega)).mono ?_; rintro e w5 ⟨a, b, n, u, l, rfl, ho, hl, ha, hb, g5, q5, hq5, R5⟩; have D5 := hid (D4.out.kept R5 (show w4.grownBy w5 (some g) from ⟨g5.os, g5.tape, g5.output, g5.size, g5.block⟩)); have VR5 := hid (VR4.out.kept (show w4.grownBy w5 (some g) from ⟨g5.os, g5.tape, g5.output, g5.size, g5.block⟩) hgr); have V5 := hid (V4.out.kept (show w4.grownBy w5 (some g) from ⟨g5.os, g5.tape, g5.output, g5.size, g5.block⟩) hgb'); have c0_5 := V5.out.c 0 rfl; have c1_5 := V5.out.c 1 rfl; obtain ⟨uo, uc, hu, _⟩ := ho.rd; subst hu; have HU5 := hid ho.rd; have HUB := hid (show ∀ j, (Value.slice uo l.length uc).ownBlock = some j → w4.heap.size ≤ j from fun j hj => (ho.block j hj).1); clear R5 g5 ho)
          | (go_at_call 22; obtain ⟨I', F', bo, hDD, hF', h4'⟩ := putD D5.out.flo D5.out.h4 a b n l; refine (l5Put_any N gF 24 w.heap.size _ I F a b n _ l _ (D5.out.rdk.later (by go_grown)) (Nat.le_trans D5.out.size (show Below w5.heap.size w5 _ by go_grown).size) D5.out.fN (row_later D5.out.row (by go_grown)) D5.out.flo D5.out.h4 (HU5.out.later (by go_grown)) (fun _ j hj e => by have := HUB.out j hj; have := D4.out.size; omega) hDD).mono ?_; rintro e w7 ⟨⟨x, rfl, hx, hrow⟩, o7⟩; simp only at hx hrow; obtain ⟨xo, xc, hv, _⟩ := id hx; subst hv; have D7 := hid (D5.out.call hx hrow hF' h4' (show Only (fun k => k = gF) w5 w7 from ⟨o7.os, o7.tape, o7.output, o7.size, o7.block⟩)); have VR7 := hid (VR5.out.only (show Only (fun k => k = gF) w5 w7 from ⟨o7.os, o7.tape, o7.output, o7.size, o7.block⟩) hfr); have V7 := hid (V5.out.only (show Only (fun k => k = gF) w5 w7 from ⟨o7.os, o7.tape, o7.output, o7.size, o7.block⟩) hfb); have c0_7 := V7.out.c 0 rfl; have c1_7 := V7.out.c 1 rfl; have f0_7 := V7.out.f 0 rfl; have f1_7 := V7.out.f 1 rfl; clear hx hrow o7))
        all_goals
          have E8 := hid ((D7.out.set (p := ⟨bc, 0, none⟩) (Nat.le_of_lt hws) hbN (by show bc ≠ gF; omega) (.slice xo I'.length xc)).set (p := ⟨bc, 1, none⟩) (Nat.le_of_lt hws) hbN (by show bc ≠ gF; omega) (.slice (some ⟨gF, 0, none⟩) 24 24))
          have VR8 := hid ((VR7.out.far (p := ⟨bc, 0, none⟩) (by show bc ≠ w.heap.size; omega) (.slice xo I'.length xc)).far (p := ⟨bc, 1, none⟩) (by show bc ≠ w.heap.size; omega) (.slice (some ⟨gF, 0, none⟩) 24 24))
          have V8 := hid ((V7.out.set 0 (by simp) (.slice xo I'.length xc)).set 1 (by simp) (.slice (some ⟨gF, 0, none⟩) 24 24))
          go_wp2_with fail
          go_roundw
          case rel => exact ⟨k, _, _, I', F', by omega, by go_num, by omega, E8, VR8, V8⟩
          case measure => simp [intOf]
end Go.Proofs.Ytilbaiohcfhcaaa
