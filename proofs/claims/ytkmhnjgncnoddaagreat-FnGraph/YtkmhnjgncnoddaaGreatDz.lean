/- DrawGraphDo: contract. -/
import Derived.Test.YtkmhnjgncnoddaaGreatDx
import Derived.Test.YtkmhnjgncnoddaaGreatLq
namespace Go.Proofs.YtkmhnjgncnoddaaGreat
open Go.RowKit
attribute [local go_sem ↓] Go.wp_at_zero Go.wp_at_succ

/-- A graph's variable of the call's own, not yet written: block b. -/
structure G1 (w : World) (b : Nat) : Prop where
  c0 : w.cell? ⟨b, 0, none⟩ = some (.slice none 0 0)
  f0 : w.frozen? ⟨b, 0, none⟩ = false
  lt : b < w.heap.size
theorem G1.kept {w w' : World} {b g : Nat} (h : G1 w b) (hg : w.grownBy w' (some g)) (hne : b ≠ g) : G1 w' b :=
  ⟨hg.cell h.c0 (fun e => hne (Option.some.inj e)), (hg.frozen_far ⟨b, 0, none⟩ h.lt (fun e => hne (Option.some.inj e))).trans h.f0, Nat.lt_of_lt_of_le h.lt hg.size⟩
theorem G1.below {w w' : World} {b : Nat} (h : G1 w b) (hb : Below w.heap.size w w') : G1 w' b :=
  ⟨(hb.cell (p := ⟨b, 0, none⟩) h.lt).trans h.c0, (hb.frozen (p := ⟨b, 0, none⟩) h.lt).trans h.f0, Nat.lt_of_lt_of_le h.lt hb.size⟩

set_option maxRecDepth 100000 in
set_option maxHeartbeats 4000000 in
theorem drawGraphDo_any (v : Value) (n : Nat) (w : World) (h : Bs w v n) :
    Calls Tryz.prog 7 #[v] w fun e w' => (∃ (L : List ValD) (uo : Option Addr) (uc : Nat) (k a c x : Int), e = .returned (.tuple #[.agg #[.slice uo L.length uc], .agg #[.int .i64 k, .int .i64 a, .int .i64 c, .int .i64 x]]) ∧ RdG w' (.slice uo L.length uc) L) ∧ Below w.heap.size w w' := by
  have hO1 := hid (show G1 ((w.alloc (.cells #[.slice none 0 0] 25)).alloc (.cells #[.int .i64 0, .int .i64 0, .int .i64 0, .int .i64 0] 27)) w.heap.size from ⟨by go_cell, by (first | go_cell | (simp [World.frozen?, World.alloc]; done) | rfl), by simp; omega⟩)
  have hA1 := hid (V4.new (w.alloc (.cells #[.slice none 0 0] 25)) 0 0 0 0)
  have hW0 := hid (show Below w.heap.size w ((w.alloc (.cells #[.slice none 0 0] 25)).alloc (.cells #[.int .i64 0, .int .i64 0, .int .i64 0, .int .i64 0] 27)) from by go_grown)
  have hWs : w.heap.size + 1 < ((w.alloc (.cells #[.slice none 0 0] 25)).alloc (.cells #[.int .i64 0, .int .i64 0, .int .i64 0, .int .i64 0] 27)).heap.size := by simp
  have hss : (w.alloc (.cells #[.slice none 0 0] 25)).heap.size = w.heap.size + 1 := by simp
  rw [hss] at hA1
  have hbs := hid (h.later hW0.out)
  obtain ⟨ao, cap, rfl, h0, h1, h2, h3⟩ := h
  go_enter Tryz.func7, Tryz.ntmps7
  go_wp2_with fail
  generalize (w.alloc (.cells #[.slice none 0 0] 25)).alloc (.cells #[.int .i64 0, .int .i64 0, .int .i64 0, .int .i64 0] 27) = W at hO1 hA1 hW0 hWs hbs ⊢
  obtain ⟨ao', cap', hv', _, _, _, h3'⟩ := hbs.out
  cases hv'
  refine (open_any ao n cap _ h0 h1 h2 h3').mono ?_
  rintro e w1 ⟨g, rfl, R1, b1⟩
  have hgW : W.heap.size ≤ g := R1.1
  have hne0 : w.heap.size ≠ g := by omega
  have hne1 : w.heap.size + 1 ≠ g := by omega
  have hg1 := R1.2.1
  have hO2 := hid (hO1.out.below b1)
  have hA2 := hid (hA1.out.below b1)
  have c1 := hid (hW0.out.trans (b1.mono hW0.out.size))
  have HR1 := hid R1
  have hW1 := b1.size
  clear b1 R1
  go_wp2_with fail
  refine (l3Graph_any g 0 _ _ HR1.out (by omega)).mono ?_
  rintro e w2 ⟨⟨L, u, q, rfl, hF, hq, R2⟩, g2⟩
  obtain ⟨uo, uc, hu, _⟩ := hF.rd
  subst hu
  have hF2 := hid hF
  have hO3 := hid (hO2.out.kept g2 hne0)
  have hA3 := hid (hA2.out.kept g2 hne1)
  have c2 := hid (show Below w.heap.size w w2 from c1.out.grown g2 c1.out.size (fun j e => by have : g = j := Option.some.inj e; omega))
  have HR2 := hid R2
  have hz2 := g2.size
  clear hA2 hO2 HR1 g2 R2 hF c1 hO1 hA1
  go_upto_region 3 with fail
  have hal := hid (show Below w2.heap.size w2 (w2.alloc (.cells #[.slice uo L.length uc] 25)) from (Below.refl _ w2).alloc (Nat.le_refl _) _)
  have k0 : (w2.alloc (.cells #[.slice uo L.length uc] 25)).cell? ⟨w2.heap.size, 0, none⟩ = some (.slice uo L.length uc) := by go_cell
  have hO4 := hid (hO3.out.below hal.out)
  have hA4 := hid (hA3.out.below hal.out)
  have HR4 := hid (HR2.out.later hal.out)
  have hF4 := hid (hF2.out.later hal.out)
  have c4 := hid (c2.out.trans (hal.out.mono c2.out.size))
  have hb4 : w2.heap.size < (w2.alloc (.cells #[.slice uo L.length uc] 25)).heap.size := by simp
  have hbg : w2.heap.size ≠ g := by omega
  clear hO3 hA3 HR2 hF2 c2 hal
  generalize (w2.alloc (.cells #[.slice uo L.length uc] 25)) = w3 at *
  generalize w2.heap.size = bx at *
  go_region_with (first
    | (go_at_call 33; refine (l3Op_any g q _ _ (HR4.out.later (by go_grown)) (by omega)).mono ?_; rintro e w4 ⟨k, a, c, x, q4, rfl, hB, hq4, R4, g4⟩; have g4' : w3.grownBy w4 (some g) := ⟨g4.os, g4.tape, g4.output, g4.size, g4.block⟩; have hO5 := hid (hO4.out.kept g4' hne0); have hA5 := hid (hA4.out.kept g4' hne1); have hF5 := hid (hF4.out.grown g4' hg1); have k5 := g4'.cell k0 (fun e => hbg (Option.some.inj e)); have b5 : bx < w4.heap.size := Nat.lt_of_lt_of_le hb4 g4'.size; have c5 := hid (show Below w.heap.size w w4 from c4.out.grown g4' c4.out.size (fun j e => (by have h9 : g = j := Option.some.inj e; omega))); have r0 := hO5.out.c0; have s0 := hO5.out.f0; have y0 := hA5.out.c0; have y1 := hA5.out.c1; have y2 := hA5.out.c2; have y3 := hA5.out.c3; have x0 := hA5.out.fr 0; have x1 := hA5.out.fr 1; have x2 := hA5.out.fr 2; have x3 := hA5.out.fr 3; clear g4 R4))
  all_goals
    have HF := hid (((((hF5.out.set (p := ⟨w.heap.size, 0, none⟩) (by show w.heap.size < _; omega) (.slice uo L.length uc)).set (p := ⟨w.heap.size + 1, 0, none⟩) (by show w.heap.size + 1 < _; omega) (.int .i64 k)).set (p := ⟨w.heap.size + 1, 1, none⟩) (by show w.heap.size + 1 < _; omega) (.int .i64 a)).set (p := ⟨w.heap.size + 1, 2, none⟩) (by show w.heap.size + 1 < _; omega) (.int .i64 c)).set (p := ⟨w.heap.size + 1, 3, none⟩) (by show w.heap.size + 1 < _; omega) (.int .i64 x)).rd
    have HL := hid (((((c5.out.setCell (p := ⟨w.heap.size, 0, none⟩) (by show w.heap.size ≤ w.heap.size; omega) (.slice uo L.length uc)).setCell (p := ⟨w.heap.size + 1, 0, none⟩) (by show w.heap.size ≤ w.heap.size + 1; omega) (.int .i64 k)).setCell (p := ⟨w.heap.size + 1, 1, none⟩) (by show w.heap.size ≤ w.heap.size + 1; omega) (.int .i64 a)).setCell (p := ⟨w.heap.size + 1, 2, none⟩) (by show w.heap.size ≤ w.heap.size + 1; omega) (.int .i64 c)).setCell (p := ⟨w.heap.size + 1, 3, none⟩) (by show w.heap.size ≤ w.heap.size + 1; omega) (.int .i64 x))
    have e0 : (((((w4.setCell ⟨w.heap.size, 0, none⟩ (.slice uo L.length uc)).setCell ⟨w.heap.size + 1, 0, none⟩ (.int .i64 k)).setCell ⟨w.heap.size + 1, 1, none⟩ (.int .i64 a)).setCell ⟨w.heap.size + 1, 2, none⟩ (.int .i64 c)).setCell ⟨w.heap.size + 1, 3, none⟩ (.int .i64 x)).cell? ⟨w.heap.size, 0, none⟩ = some (.slice uo L.length uc) := by go_cell
    have e1 : (((((w4.setCell ⟨w.heap.size, 0, none⟩ (.slice uo L.length uc)).setCell ⟨w.heap.size + 1, 0, none⟩ (.int .i64 k)).setCell ⟨w.heap.size + 1, 1, none⟩ (.int .i64 a)).setCell ⟨w.heap.size + 1, 2, none⟩ (.int .i64 c)).setCell ⟨w.heap.size + 1, 3, none⟩ (.int .i64 x)).cell? ⟨w.heap.size + 1, 0, none⟩ = some (.int .i64 k) := by go_cell
    have e2 : (((((w4.setCell ⟨w.heap.size, 0, none⟩ (.slice uo L.length uc)).setCell ⟨w.heap.size + 1, 0, none⟩ (.int .i64 k)).setCell ⟨w.heap.size + 1, 1, none⟩ (.int .i64 a)).setCell ⟨w.heap.size + 1, 2, none⟩ (.int .i64 c)).setCell ⟨w.heap.size + 1, 3, none⟩ (.int .i64 x)).cell? ⟨w.heap.size + 1, 1, none⟩ = some (.int .i64 a) := by go_cell
    have e3 : (((((w4.setCell ⟨w.heap.size, 0, none⟩ (.slice uo L.length uc)).setCell ⟨w.heap.size + 1, 0, none⟩ (.int .i64 k)).setCell ⟨w.heap.size + 1, 1, none⟩ (.int .i64 a)).setCell ⟨w.heap.size + 1, 2, none⟩ (.int .i64 c)).setCell ⟨w.heap.size + 1, 3, none⟩ (.int .i64 x)).cell? ⟨w.heap.size + 1, 2, none⟩ = some (.int .i64 c) := by go_cell
    have e4 : (((((w4.setCell ⟨w.heap.size, 0, none⟩ (.slice uo L.length uc)).setCell ⟨w.heap.size + 1, 0, none⟩ (.int .i64 k)).setCell ⟨w.heap.size + 1, 1, none⟩ (.int .i64 a)).setCell ⟨w.heap.size + 1, 2, none⟩ (.int .i64 c)).setCell ⟨w.heap.size + 1, 3, none⟩ (.int .i64 x)).cell? ⟨w.heap.size + 1, 3, none⟩ = some (.int .i64 x) := by go_cell
    go_wp2
    refine bodyPost_ret (v := .tuple #[.agg #[.slice uo L.length uc], .agg #[.int .i64 k, .int .i64 a, .int .i64 c, .int .i64 x]]) (by simp [results, Tryz.results7, go_sem, e0, e1, e2, e3, e4]) rfl ⟨⟨_, _, _, _, _, _, _, rfl, HF.out⟩, HL.out⟩
end Go.Proofs.YtkmhnjgncnoddaaGreat
