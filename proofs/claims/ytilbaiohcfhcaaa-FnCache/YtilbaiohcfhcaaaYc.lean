/- A variable's cells; an empty cache whose floors may be written; the draw of an item: contracts. -/
import Derived.Test.YtilbaiohcfhcaaaXw
import Derived.Test.YtilbaiohcfhcaaaYv
import Derived.Test.YtilbaiohcfhcaaaLd
namespace Go.Proofs.Ytilbaiohcfhcaaa
open Go.RowKit
attribute [local go_sem ↓] Go.wp_at_zero Go.wp_at_succ

/-! ### spec.CacheOpen -/
theorem Try.infoInt_Y : (Try.prog.info? 3).map (fun i => (i.zero, i.size, i.bytes)) = some (some (.int .i64 0), 1, 8) := by kernel_rfl
theorem zeroF_flo : FloF zeroF := ⟨rfl, fun i hi => ⟨0, by rw [zeroF, List.getD_eq_getElem?_getD, List.getElem?_replicate, if_pos hi]; rfl⟩⟩
set_option maxRecDepth 100000 in
set_option maxHeartbeats 2000000 in
theorem specCOpen_own (w : World) : Calls Try.prog 35 #[] w fun e w' => (∃ g, e = .returned (.agg #[.slice none 0 0, .slice (some ⟨g, 0, none⟩) 24 24]) ∧ w'.ownsRow w.heap.size 3 1 (.slice (some ⟨g, 0, none⟩) 24 24) 24 (floC zeroF)) ∧ Below w.heap.size w w' := by
  obtain ⟨i0, hi, hz0, hz1, hz2⟩ := info_parts Try.infoInt_Y
  have hby : i0.bytes * 24 ≤ 281474976710656 := by rw [hz2]; omega
  go_enter Try.func35, Try.ntmps35
  go_wp2_with (first | (at_make; refine wpList_make_full _ rfl (.const (.int .i64 24)) (.const (.int .i64 24)) 24 rfl (w.heap.size + 1) 3 i0 _ 1 Try.underlying24 hi hz0 hz1 .i64 .i64 _ _ 24 rfl rfl rfl rfl hby (by decide) (by simp) ?_; intro w1 hown hgrow; have r0 := hgrow.cell (show (w.alloc (.cells #[.slice none 0 0, .slice none 0 0] 26)).cell? ⟨w.heap.size, 0, none⟩ = some (.slice none 0 0) by go_cell) (by simp); have r1 := hgrow.cell (show (w.alloc (.cells #[.slice none 0 0, .slice none 0 0] 26)).cell? ⟨w.heap.size, 1, none⟩ = some (.slice none 0 0) by go_cell) (by simp); have rf0 : w1.frozen? ⟨w.heap.size, 0, none⟩ = false := (World.frozen?_of_block (w := (w.alloc (.cells #[.slice none 0 0, .slice none 0 0] 26))) (a := ⟨w.heap.size, 0, none⟩) (hgrow.block w.heap.size (by simp) (by simp))).trans (by (first | go_cell | (simp [World.frozen?, World.alloc]; done) | rfl)); have rf1 : w1.frozen? ⟨w.heap.size, 1, none⟩ = false := (World.frozen?_of_block (w := (w.alloc (.cells #[.slice none 0 0, .slice none 0 0] 26))) (a := ⟨w.heap.size, 1, none⟩) (hgrow.block w.heap.size (by simp) (by simp))).trans (by (first | go_cell | (simp [World.frozen?, World.alloc]; done) | rfl))))
  rw [World.size_alloc] at hown
  have hb1 : Below w.heap.size w w1 := ((Below.refl _ w).alloc (Nat.le_refl _) _).grown hgrow (by simp) (by simp)
  have hgl : w.heap.size + 1 < w1.heap.size := by have := (hown.lt (w.heap.size + 1) rfl).2; simpa using this
  have e0 : ((w1.setCell ⟨w.heap.size, 0, none⟩ (.slice none 0 0)).setCell ⟨w.heap.size, 1, none⟩ (.slice (some ⟨w.heap.size + 1, 0, none⟩) 24 24)).cell? ⟨w.heap.size, 0, none⟩ = some (.slice none 0 0) := by go_cell
  have e1 : ((w1.setCell ⟨w.heap.size, 0, none⟩ (.slice none 0 0)).setCell ⟨w.heap.size, 1, none⟩ (.slice (some ⟨w.heap.size + 1, 0, none⟩) 24 24)).cell? ⟨w.heap.size, 1, none⟩ = some (.slice (some ⟨w.heap.size + 1, 0, none⟩) 24 24) := by go_cell
  have hrow : w1.ownsRow w.heap.size 3 1 (.slice (some ⟨w.heap.size + 1, 0, none⟩) 24 24) 24 (floC zeroF) := row_mono (by
    have e : (madeCells #[.int .i64 0] (24 * 1)).toList = floC zeroF := by kernel_rfl
    rw [← e]
    exact hown) (Nat.le_succ _)
  refine bodyPost_ret (v := .agg #[.slice none 0 0, .slice (some ⟨w.heap.size + 1, 0, none⟩) 24 24]) (by simp [results, Try.results35, go_sem, e0, e1]) rfl ⟨⟨w.heap.size + 1, rfl, ?_⟩, (hb1.setCell (p := ⟨w.heap.size, 0, none⟩) (Nat.le_refl _) _).setCell (p := ⟨w.heap.size, 1, none⟩) (Nat.le_refl _) _⟩
  exact row_agree hrow (fun q hq => by
    cases hq
    exact (Below.heap_setCell _ _ _ _ (by show w.heap.size + 1 ≠ w.heap.size; omega)).trans (Below.heap_setCell _ _ _ _ (by show w.heap.size + 1 ≠ w.heap.size; omega)))

/-! ### spec.l5Any -/
theorem nums_seven (w : World) : Nums (w.alloc (.cells #[.int .i64 0, .int .i64 1, .int .i64 2, .int .i64 3, .int .i64 4, .int .i64 5, .int .i64 60] 3)) w.heap.size 7 (fun z => 0 ≤ z ∧ z ≤ 60) := by
  refine ⟨by simp, fun i hi => ?_⟩
  rcases i with _ | _ | _ | _ | _ | _ | _ | i
  · exact ⟨0, by go_cell, by omega⟩
  · exact ⟨1, by go_cell, by omega⟩
  · exact ⟨2, by go_cell, by omega⟩
  · exact ⟨3, by go_cell, by omega⟩
  · exact ⟨4, by go_cell, by omega⟩
  · exact ⟨5, by go_cell, by omega⟩
  · exact ⟨60, by go_cell, by omega⟩
  · omega
set_option maxRecDepth 100000 in
set_option maxHeartbeats 2000000 in
theorem l5Any_any (g p B : Nat) (w : World) (h : Rdr w B g p) (hp : p ≤ 900000) :
    Calls Try.prog 17 #[.pointer (some ⟨g, 0, none⟩)] w fun e w' => ∃ (k v n : Int) (u : Value) (l : List (Int × Int)), e = .returned (.agg #[.int .i64 k, .int .i64 v, .int .i64 n, u]) ∧ Own w' w.heap.size u l ∧ l.length ≤ 7 ∧ (0 ≤ k ∧ k < 24) ∧ (0 ≤ v ∧ v ≤ 60) ∧ w.grownBy w' (some g) ∧ ∃ q, q ≤ p + 40 ∧ Rdr w' B g q := by
  have hgw := h.2.1
  have hBw : B ≤ w.heap.size := Nat.le_trans h.1 (Nat.le_of_lt hgw)
  have hV1 := hid (VarAt.new4 w (.int .i64 0) (.int .i64 0) (.int .i64 0) (.slice none 0 0) 31)
  have hR1 := hid (h.later (w' := w.alloc (.cells #[.int .i64 0, .int .i64 0, .int .i64 0, .slice none 0 0] 31)) (by go_grown))
  have hG1 := hid (World.grownBy_alloc w (.cells #[.int .i64 0, .int .i64 0, .int .i64 0, .slice none 0 0] 31) (some g))
  have hne : some g ≠ some w.heap.size := fun e => by have := Option.some.inj e; omega
  go_enter Try.func17, Try.ntmps17
  go_wp2_with fail
  generalize w.alloc (.cells #[.int .i64 0, .int .i64 0, .int .i64 0, .slice none 0 0] 31) = W at hV1 hR1 hG1 ⊢
  refine (pick_any g p 6 B _ hR1.out (by omega) (by omega)).mono ?_
  rintro e w1 ⟨a, rfl, a0, a1, R1, g1⟩
  have ha := a1 (by omega)
  clear a1
  have hV2 := hid (hV1.out.kept g1 hne)
  have hR2 := hid R1
  have hG2 := hid (grown_trans hG1.out g1)
  clear R1 g1 hV1 hR1 hG1
  go_wp2_with fail
  refine (pick_any g (p + 1) 3 B _ hR2.out (by omega) (by omega)).mono ?_
  rintro e w2 ⟨b, rfl, b0, b1, R2, g2⟩
  have hb := b1 (by omega)
  clear b1
  have hV3 := hid (hV2.out.kept g2 hne)
  have hR3 := hid R2
  have hG3 := hid (grown_trans hG2.out g2)
  clear R2 g2 hV2 hR2 hG2
  go_wp2_with fail
  have hA := hid (show Below w2.heap.size w2 (w2.alloc (.cells #[.int .i64 0, .int .i64 1, .int .i64 2, .int .i64 3, .int .i64 4, .int .i64 5, .int .i64 60] 3)) from by go_grown)
  have hgw2 : g < w2.heap.size := Nat.lt_of_lt_of_le hgw hG3.out.size
  obtain ⟨k, hk⟩ : ∃ k : Int, a + 8 * b = k := ⟨_, rfl⟩
  have hk24 : 0 ≤ k ∧ k < 24 := by omega
  refine (num_any g (p + 1 + 1) w2.heap.size 7 7 B _ _ (hR3.out.later hA.out) (by omega) (by omega) (by omega) (by omega) (nums_seven w2)).mono ?_
  rintro e w4 ⟨v, rfl, hv, R4, g4⟩
  have hV4 := hid ((hV3.out.later hA.out).kept g4 hne)
  have hR4 := hid R4
  have hG4 := hid (grown_trans (grown_trans hG3.out (grown_wide (grownBelowR hA.out))) g4)
  clear R4 g4 hV3 hR3 hG3 hA
  go_wp2_with fail
  refine (l2ValR_any g (p + 1 + 1 + 1) B _ _ hR4.out (by omega)).mono ?_
  rintro e w5 ⟨n, u, l, rfl, ho, hl, _, _, g5, q, hq, R5⟩
  obtain ⟨uo, uc, hu, _⟩ := ho.rd
  subst hu
  have hV5 := hid (hV4.out.kept g5 hne)
  have hG5 := hid (grown_trans hG4.out g5)
  have hR5 := hid R5
  have hO5 := hid ho
  have hWs := hV4.out.1
  clear R5 g5 hV4 hR4 hG4 ho
  have c0 := hV5.out.c 0 rfl
  have c1 := hV5.out.c 1 rfl
  have c2 := hV5.out.c 2 rfl
  have c3 := hV5.out.c 3 rfl
  have f0 := hV5.out.f 0 rfl
  have f1 := hV5.out.f 1 rfl
  have f2 := hV5.out.f 2 rfl
  have f3 := hV5.out.f 3 rfl
  subst hk
  go_wp2_with fail
  have hBb : B ≤ w.heap.size := hBw
  have hge : ¬ w.heap.size = g := by omega
  have e0 : ((((w5.setCell ⟨w.heap.size, 0, none⟩ (.int .i64 (a + 8 * b))).setCell ⟨w.heap.size, 1, none⟩ (.int .i64 v)).setCell ⟨w.heap.size, 2, none⟩ (.int .i64 n)).setCell ⟨w.heap.size, 3, none⟩ (.slice uo l.length uc)).cell? ⟨w.heap.size, 0, none⟩ = some (.int .i64 (a + 8 * b)) := by go_cell
  have e1 : ((((w5.setCell ⟨w.heap.size, 0, none⟩ (.int .i64 (a + 8 * b))).setCell ⟨w.heap.size, 1, none⟩ (.int .i64 v)).setCell ⟨w.heap.size, 2, none⟩ (.int .i64 n)).setCell ⟨w.heap.size, 3, none⟩ (.slice uo l.length uc)).cell? ⟨w.heap.size, 1, none⟩ = some (.int .i64 v) := by go_cell
  have e2 : ((((w5.setCell ⟨w.heap.size, 0, none⟩ (.int .i64 (a + 8 * b))).setCell ⟨w.heap.size, 1, none⟩ (.int .i64 v)).setCell ⟨w.heap.size, 2, none⟩ (.int .i64 n)).setCell ⟨w.heap.size, 3, none⟩ (.slice uo l.length uc)).cell? ⟨w.heap.size, 2, none⟩ = some (.int .i64 n) := by go_cell
  have e3 : ((((w5.setCell ⟨w.heap.size, 0, none⟩ (.int .i64 (a + 8 * b))).setCell ⟨w.heap.size, 1, none⟩ (.int .i64 v)).setCell ⟨w.heap.size, 2, none⟩ (.int .i64 n)).setCell ⟨w.heap.size, 3, none⟩ (.slice uo l.length uc)).cell? ⟨w.heap.size, 3, none⟩ = some (.slice uo l.length uc) := by go_cell
  have HG := grown_set_new (grown_set_new (grown_set_new (grown_set_new hG5.out (a := ⟨w.heap.size, 0, none⟩) (Nat.le_refl _) (.int .i64 (a + 8 * b))) (a := ⟨w.heap.size, 1, none⟩) (Nat.le_refl _) (.int .i64 v)) (a := ⟨w.heap.size, 2, none⟩) (Nat.le_refl _) (.int .i64 n)) (a := ⟨w.heap.size, 3, none⟩) (Nat.le_refl _) (.slice uo l.length uc)
  have HR := (((hR5.out.setFar (a := ⟨w.heap.size, 0, none⟩) hBb hge (.int .i64 (a + 8 * b))).setFar (a := ⟨w.heap.size, 1, none⟩) hBb hge (.int .i64 v)).setFar (a := ⟨w.heap.size, 2, none⟩) hBb hge (.int .i64 n)).setFar (a := ⟨w.heap.size, 3, none⟩) hBb hge (.slice uo l.length uc)
  have HO := ((((hO5.out.apartSet2 (p := ⟨w.heap.size, 0, none⟩) (by show w.heap.size < _; omega) (.int .i64 (a + 8 * b))).apartSet2 (p := ⟨w.heap.size, 1, none⟩) (by show w.heap.size < _; omega) (.int .i64 v)).apartSet2 (p := ⟨w.heap.size, 2, none⟩) (by show w.heap.size < _; omega) (.int .i64 n)).apartSet2 (p := ⟨w.heap.size, 3, none⟩) (by show w.heap.size < _; omega) (.slice uo l.length uc)).mono (B' := w.heap.size) (by omega)
  exact bodyPost_ret (v := .agg #[.int .i64 (a + 8 * b), .int .i64 v, .int .i64 n, .slice uo l.length uc]) (by simp [results, Try.results17, go_sem, e0, e1, e2, e3]) rfl ⟨_, _, _, _, _, rfl, HO, hl, hk24, hv, HG, _, by omega, HR⟩
end Go.Proofs.Ytilbaiohcfhcaaa
