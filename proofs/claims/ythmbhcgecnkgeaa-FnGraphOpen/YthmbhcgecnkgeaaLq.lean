/- The draws of a write and of what a key has: contracts. -/
import Derived.Test.YthmbhcgecnkgeaaLo
import Derived.Test.YthmbhcgecnkgeaaPb
import Derived.Test.YthmbhcgecnkgeaaOz
import Derived.Test.YthmbhcgecnkgeaaLawOOther
import Derived.Deep.Cut
namespace Go.Proofs.Ythmbhcgecnkgeaa
open Go.RowKit
attribute [local go_sem ↓] Go.wp_at_zero Go.wp_at_succ

/-- A write's variable in block b. -/
structure V4 (wr : World) (b : Nat) (k a c n : Int) : Prop where
  c0 : wr.cell? ⟨b, 0, none⟩ = some (.int .i64 k)
  c1 : wr.cell? ⟨b, 1, none⟩ = some (.int .i64 a)
  c2 : wr.cell? ⟨b, 2, none⟩ = some (.int .i64 c)
  c3 : wr.cell? ⟨b, 3, none⟩ = some (.int .i64 n)
  fr : ∀ o, wr.frozen? ⟨b, o, none⟩ = false
  lt : b < wr.heap.size
theorem V4.kept {wr w' : World} {b g : Nat} {k a c n : Int} (h : V4 wr b k a c n) (hg : wr.grownBy w' (some g)) (hne : b ≠ g) : V4 w' b k a c n :=
  ⟨hg.cell h.c0 (fun e => hne (Option.some.inj e)), hg.cell h.c1 (fun e => hne (Option.some.inj e)), hg.cell h.c2 (fun e => hne (Option.some.inj e)), hg.cell h.c3 (fun e => hne (Option.some.inj e)),
    fun o => (hg.frozen_far ⟨b, o, none⟩ h.lt (fun e => hne (Option.some.inj e))).trans (h.fr o), Nat.lt_of_lt_of_le h.lt hg.size⟩
theorem V4.below {wr w' : World} {b : Nat} {k a c n : Int} (h : V4 wr b k a c n) (hb : Below wr.heap.size wr w') : V4 w' b k a c n :=
  ⟨(hb.cell (p := ⟨b, 0, none⟩) h.lt).trans h.c0, (hb.cell (p := ⟨b, 1, none⟩) h.lt).trans h.c1, (hb.cell (p := ⟨b, 2, none⟩) h.lt).trans h.c2, (hb.cell (p := ⟨b, 3, none⟩) h.lt).trans h.c3,
    fun o => (hb.frozen (p := ⟨b, o, none⟩) h.lt).trans (h.fr o), Nat.lt_of_lt_of_le h.lt hb.size⟩
theorem V4.new (w : World) (k a c n : Int) : V4 (w.alloc (.cells #[.int .i64 k, .int .i64 a, .int .i64 c, .int .i64 n] 24)) w.heap.size k a c n :=
  ⟨by go_cell, by go_cell, by go_cell, by go_cell, fun o => by (first | go_cell | (simp [World.frozen?, World.alloc]; done) | rfl), by simp⟩

theorem max_any (a b : Int) (w : World) : Calls Try.prog 31 #[.int .i64 a, .int .i64 b] w fun e w' => e = .returned (.int .i64 (if a > b then a else b)) ∧ w' = w := by
  go_enter Try.func31, Try.ntmps31
  by_cases h : a > b
  · rw [if_pos h]
    go_wp2
    go_ret
    exact ⟨by simp, rfl⟩
  · rw [if_neg h]
    go_wp2
    go_ret
    exact ⟨by simp, rfl⟩

theorem max_some (a b : Int) (w : World) : Calls Try.prog 31 #[.int .i64 a, .int .i64 b] w fun e w' => ∃ m : Int, e = .returned (.int .i64 m) ∧ w' = w :=
  (max_any a b w).mono fun _ _ ⟨he, hw⟩ => ⟨_, he, hw⟩

set_option maxRecDepth 100000 in
set_option maxHeartbeats 1000000 in
theorem drawOpKey_any (v : Value) (n : Nat) (w : World) (h : Bs w v n) :
    Calls Try.prog 5 #[v] w fun e w' => ∃ k a c z, e = .returned (.agg #[.int .i64 k, .int .i64 a, .int .i64 c, .int .i64 z]) ∧ OpB k a c z ∧ Below w.heap.size w w' := by
  have hA1 := hid (V4.new w 0 0 0 0)
  have hW0 := hid (show Below w.heap.size w (w.alloc (.cells #[.int .i64 0, .int .i64 0, .int .i64 0, .int .i64 0] 24)) from by go_grown)
  have hWs : w.heap.size < (w.alloc (.cells #[.int .i64 0, .int .i64 0, .int .i64 0, .int .i64 0] 24)).heap.size := by simp
  have hbs := hid (h.later hW0.out)
  obtain ⟨ao, cap, rfl, h0, h1, h2, h3⟩ := h
  go_enter Try.func5, Try.ntmps5
  go_wp2_with fail
  generalize w.alloc (.cells #[.int .i64 0, .int .i64 0, .int .i64 0, .int .i64 0] 24) = W at hA1 hW0 hWs hbs ⊢
  obtain ⟨ao', cap', hv', _, _, _, h3'⟩ := hbs.out
  cases hv'
  refine (open_any ao n cap _ h0 h1 h2 h3').mono ?_
  rintro e w1 ⟨g, rfl, R1, b1⟩
  have hne : w.heap.size ≠ g := by have := R1.1; omega
  have hA := hid (hA1.out.below b1)
  have c1 := hW0.out.trans (b1.mono hW0.out.size)
  have HR1 := hid R1
  clear b1
  go_wp2_with fail
  refine (l3Op_any g 0 _ _ HR1.out (by omega)).mono ?_
  rintro e w2 ⟨k, a, c, z, q, rfl, hB, hq, R2, g2⟩
  have hC := hid (hA.out.kept g2 hne)
  have hB := hid hB
  have c2 : Below w.heap.size w w2 := c1.grown g2 c1.size (fun j e => by have : g = j := Option.some.inj e; have := R1.1; omega)
  have k0 := hC.out.c0
  have k1 := hC.out.c1
  have k2 := hC.out.c2
  have k3 := hC.out.c3
  have j0 := hC.out.fr 0
  have j1 := hC.out.fr 1
  have j2 := hC.out.fr 2
  have j3 := hC.out.fr 3
  clear hA HR1 g2 R2
  have e0 : ((((w2.setCell ⟨w.heap.size, 0, none⟩ (.int .i64 k)).setCell ⟨w.heap.size, 1, none⟩ (.int .i64 a)).setCell ⟨w.heap.size, 2, none⟩ (.int .i64 c)).setCell ⟨w.heap.size, 3, none⟩ (.int .i64 z)).cell? ⟨w.heap.size, 0, none⟩ = some (.int .i64 k) := by go_cell
  have e1 : ((((w2.setCell ⟨w.heap.size, 0, none⟩ (.int .i64 k)).setCell ⟨w.heap.size, 1, none⟩ (.int .i64 a)).setCell ⟨w.heap.size, 2, none⟩ (.int .i64 c)).setCell ⟨w.heap.size, 3, none⟩ (.int .i64 z)).cell? ⟨w.heap.size, 1, none⟩ = some (.int .i64 a) := by go_cell
  have e2 : ((((w2.setCell ⟨w.heap.size, 0, none⟩ (.int .i64 k)).setCell ⟨w.heap.size, 1, none⟩ (.int .i64 a)).setCell ⟨w.heap.size, 2, none⟩ (.int .i64 c)).setCell ⟨w.heap.size, 3, none⟩ (.int .i64 z)).cell? ⟨w.heap.size, 2, none⟩ = some (.int .i64 c) := by go_cell
  have e3 : ((((w2.setCell ⟨w.heap.size, 0, none⟩ (.int .i64 k)).setCell ⟨w.heap.size, 1, none⟩ (.int .i64 a)).setCell ⟨w.heap.size, 2, none⟩ (.int .i64 c)).setCell ⟨w.heap.size, 3, none⟩ (.int .i64 z)).cell? ⟨w.heap.size, 3, none⟩ = some (.int .i64 z) := by go_cell
  have HL := hid ((((c2.setCell (p := ⟨w.heap.size, 0, none⟩) (Nat.le_refl _) (.int .i64 k)).setCell (p := ⟨w.heap.size, 1, none⟩) (Nat.le_refl _) (.int .i64 a)).setCell (p := ⟨w.heap.size, 2, none⟩) (Nat.le_refl _) (.int .i64 c)).setCell (p := ⟨w.heap.size, 3, none⟩) (Nat.le_refl _) (.int .i64 z))
  go_wp2
  refine bodyPost_ret (v := .agg #[.int .i64 k, .int .i64 a, .int .i64 c, .int .i64 z]) (by simp [results, Try.results5, go_sem, e0, e1, e2, e3]) rfl ⟨_, _, _, _, rfl, hB.out, HL.out⟩

set_option maxRecDepth 100000 in
set_option maxHeartbeats 4000000 in
theorem drawOpDo_any (v : Value) (n : Nat) (w : World) (h : Bs w v n) :
    Calls Try.prog 12 #[v] w fun e w' => ∃ (z : Int) (u : Value) (l : List (Int × Int)) (k a c x : Int), e = .returned (.tuple #[.agg #[.int .i64 z, u], .agg #[.int .i64 k, .int .i64 a, .int .i64 c, .int .i64 x]]) ∧ Own w' w.heap.size u l ∧ l.length ≤ 7 ∧ BdL l ∧ (-1 ≤ z ∧ z ≤ 1000001) ∧ OpB k a c x ∧ Below w.heap.size w w' := by
  have hO1 := hid ((One.new w).below (show Below _ _ ((w.alloc (.cells #[.int .i64 0, .slice none 0 0] 30)).alloc (.cells #[.int .i64 0, .int .i64 0, .int .i64 0, .int .i64 0] 24)) from (Below.refl _ _).alloc (Nat.le_refl _) _))
  have hA1 := hid (V4.new (w.alloc (.cells #[.int .i64 0, .slice none 0 0] 30)) 0 0 0 0)
  have hW0 := hid (show Below w.heap.size w ((w.alloc (.cells #[.int .i64 0, .slice none 0 0] 30)).alloc (.cells #[.int .i64 0, .int .i64 0, .int .i64 0, .int .i64 0] 24)) from by go_grown)
  have hWs : w.heap.size + 1 < ((w.alloc (.cells #[.int .i64 0, .slice none 0 0] 30)).alloc (.cells #[.int .i64 0, .int .i64 0, .int .i64 0, .int .i64 0] 24)).heap.size := by simp
  have hss : (w.alloc (.cells #[.int .i64 0, .slice none 0 0] 30)).heap.size = w.heap.size + 1 := by simp
  rw [hss] at hA1
  have hbs := hid (h.later hW0.out)
  obtain ⟨ao, cap, rfl, h0, h1, h2, h3⟩ := h
  go_enter Try.func12, Try.ntmps12
  go_wp2_with fail
  generalize (w.alloc (.cells #[.int .i64 0, .slice none 0 0] 30)).alloc (.cells #[.int .i64 0, .int .i64 0, .int .i64 0, .int .i64 0] 24) = W at hO1 hA1 hW0 hWs hbs ⊢
  obtain ⟨ao', cap', hv', _, _, _, h3'⟩ := hbs.out
  cases hv'
  refine (open_any ao n cap _ h0 h1 h2 h3').mono ?_
  rintro e w1 ⟨g, rfl, R1, b1⟩
  have hne0 : w.heap.size ≠ g := by have := R1.1; omega
  have hne1 : w.heap.size + 1 ≠ g := by have := R1.1; omega
  have hg1 := R1.2.1
  have hO2 := hid (hO1.out.below b1)
  have hA2 := hid (hA1.out.below b1)
  have c1 := hid (hW0.out.trans (b1.mono hW0.out.size))
  have HR1 := hid R1
  clear b1
  go_wp2_with fail
  refine (l3Op_any g 0 _ _ HR1.out (by omega)).mono ?_
  rintro e w2 ⟨k, a, c, x, q, rfl, hB, hq, R2, g2⟩
  have hO3 := hid (hO2.out.kept g2 hne0)
  have hA3 := hid (hA2.out.kept g2 hne1)
  have c2 := hid (show Below w.heap.size w w2 from c1.out.grown g2 c1.out.size (fun j e => by have : g = j := Option.some.inj e; have := R1.1; omega))
  have HB := hid hB
  have HR2 := hid R2
  have hg2 := R2.2.1
  have hgB := R1.1
  clear hA2 hO2 HR1 g2 R2 hB R1
  go_upto_region 3 with fail
  have hV3 := hid (V4.new w2 k a c x)
  have hal := hid (show Below w2.heap.size w2 (w2.alloc (.cells #[.int .i64 k, .int .i64 a, .int .i64 c, .int .i64 x] 24)) from (Below.refl _ w2).alloc (Nat.le_refl _) _)
  have hO4 := hid (hO3.out.below hal.out)
  have hA4 := hid (hA3.out.below hal.out)
  have HR4 := hid (HR2.out.later hal.out)
  have c3 := hid (c2.out.trans (hal.out.mono c2.out.size))
  have hsz : w2.heap.size < (w2.alloc (.cells #[.int .i64 k, .int .i64 a, .int .i64 c, .int .i64 x] 24)).heap.size := by simp
  have hs2 := c2.out.size
  generalize w2.alloc (.cells #[.int .i64 k, .int .i64 a, .int .i64 c, .int .i64 x] 24) = w3 at hV3 hO4 hA4 HR4 c3 hsz ⊢
  generalize w2.heap.size = b at hV3 hsz hs2 hg2 ⊢
  clear hO3 hA3 HR2 c2 hal
  have hbg : b ≠ g := by omega
  have v0 := hV3.out.c0
  have v1 := hV3.out.c1
  have v2 := hV3.out.c2
  have v3 := hV3.out.c3
  have hbs1 : w.heap.size + 1 < b := by omega
  go_region_with (first
    | (go_at_call 8; refine (specOpKey_any k a c x _).mono ?_; rintro e w4 ⟨rfl, b4⟩; have d4 : Below w3.heap.size w3 w4 := (Below.trans (by go_grown) (b4.mono (by first | omega | (simp; done) | (simp; omega)))); have c4 := hid (c3.out.trans (d4.mono c3.out.size)); have hV4 := hid (hV3.out.below d4); have hO5 := hid (hO4.out.below d4); have hA5 := hid (hA4.out.below d4); have HR5 := hid (HR4.out.later d4); have s4 := d4.size; have s5 := hA5.out.lt; have v0_4 := hV4.out.c0; have v1_4 := hV4.out.c1; have v2_4 := hV4.out.c2; have v3_4 := hV4.out.c3)
    | (go_at_call 31; refine (max_some 0 (opKey k a c x) _).mono ?_; rintro e w5 ⟨mx, rfl, rfl⟩)
    | (go_at_call 30; refine (l2ValR_any g q _ _ _ HR5.out (by omega)).mono ?_; rintro e w7 ⟨z, u, l, rfl, ho, hl, hbd, hz, g7, _⟩; obtain ⟨uo, uc, hu, _⟩ := ho.rd; subst hu; have HO := hid ho; have HBD := hid hbd; clear ho hbd; have hV7 := hid (hV4.out.kept g7 hbg); have hO7 := hid (hO5.out.kept g7 hne0); have hA7 := hid (hA5.out.kept g7 hne1); have c7 := hid (show Below w.heap.size w w7 from c4.out.grown g7 c4.out.size (fun j e => (by have h1 : g = j := Option.some.inj e; omega))); have v0_7 := hV7.out.c0; have v1_7 := hV7.out.c1; have v2_7 := hV7.out.c2; have v3_7 := hV7.out.c3; have k0 := hO7.out.r0; have k1 := hO7.out.r1; have j0 := hO7.out.f0; have j1 := hO7.out.f1; have y0 := hA7.out.c0; have y1 := hA7.out.c1; have y2 := hA7.out.c2; have y3 := hA7.out.c3; have x0 := hA7.out.fr 0; have x1 := hA7.out.fr 1; have x2 := hA7.out.fr 2; have x3 := hA7.out.fr 3))
  all_goals
    have e0 : ((((((w7.setCell ⟨w.heap.size, 0, none⟩ (.int .i64 z)).setCell ⟨w.heap.size, 1, none⟩ (.slice uo l.length uc)).setCell ⟨w.heap.size + 1, 0, none⟩ (.int .i64 k)).setCell ⟨w.heap.size + 1, 1, none⟩ (.int .i64 a)).setCell ⟨w.heap.size + 1, 2, none⟩ (.int .i64 c)).setCell ⟨w.heap.size + 1, 3, none⟩ (.int .i64 x)).cell? ⟨w.heap.size, 0, none⟩ = some (.int .i64 z) := by go_cell
    have e1 : ((((((w7.setCell ⟨w.heap.size, 0, none⟩ (.int .i64 z)).setCell ⟨w.heap.size, 1, none⟩ (.slice uo l.length uc)).setCell ⟨w.heap.size + 1, 0, none⟩ (.int .i64 k)).setCell ⟨w.heap.size + 1, 1, none⟩ (.int .i64 a)).setCell ⟨w.heap.size + 1, 2, none⟩ (.int .i64 c)).setCell ⟨w.heap.size + 1, 3, none⟩ (.int .i64 x)).cell? ⟨w.heap.size, 1, none⟩ = some (.slice uo l.length uc) := by go_cell
    have e2 : ((((((w7.setCell ⟨w.heap.size, 0, none⟩ (.int .i64 z)).setCell ⟨w.heap.size, 1, none⟩ (.slice uo l.length uc)).setCell ⟨w.heap.size + 1, 0, none⟩ (.int .i64 k)).setCell ⟨w.heap.size + 1, 1, none⟩ (.int .i64 a)).setCell ⟨w.heap.size + 1, 2, none⟩ (.int .i64 c)).setCell ⟨w.heap.size + 1, 3, none⟩ (.int .i64 x)).cell? ⟨w.heap.size + 1, 0, none⟩ = some (.int .i64 k) := by go_cell
    have e3 : ((((((w7.setCell ⟨w.heap.size, 0, none⟩ (.int .i64 z)).setCell ⟨w.heap.size, 1, none⟩ (.slice uo l.length uc)).setCell ⟨w.heap.size + 1, 0, none⟩ (.int .i64 k)).setCell ⟨w.heap.size + 1, 1, none⟩ (.int .i64 a)).setCell ⟨w.heap.size + 1, 2, none⟩ (.int .i64 c)).setCell ⟨w.heap.size + 1, 3, none⟩ (.int .i64 x)).cell? ⟨w.heap.size + 1, 1, none⟩ = some (.int .i64 a) := by go_cell
    have e4 : ((((((w7.setCell ⟨w.heap.size, 0, none⟩ (.int .i64 z)).setCell ⟨w.heap.size, 1, none⟩ (.slice uo l.length uc)).setCell ⟨w.heap.size + 1, 0, none⟩ (.int .i64 k)).setCell ⟨w.heap.size + 1, 1, none⟩ (.int .i64 a)).setCell ⟨w.heap.size + 1, 2, none⟩ (.int .i64 c)).setCell ⟨w.heap.size + 1, 3, none⟩ (.int .i64 x)).cell? ⟨w.heap.size + 1, 2, none⟩ = some (.int .i64 c) := by go_cell
    have e5 : ((((((w7.setCell ⟨w.heap.size, 0, none⟩ (.int .i64 z)).setCell ⟨w.heap.size, 1, none⟩ (.slice uo l.length uc)).setCell ⟨w.heap.size + 1, 0, none⟩ (.int .i64 k)).setCell ⟨w.heap.size + 1, 1, none⟩ (.int .i64 a)).setCell ⟨w.heap.size + 1, 2, none⟩ (.int .i64 c)).setCell ⟨w.heap.size + 1, 3, none⟩ (.int .i64 x)).cell? ⟨w.heap.size + 1, 3, none⟩ = some (.int .i64 x) := by go_cell
    have HF := hid (Own.mono ((((((HO.out.apartSet2 (p := ⟨w.heap.size, 0, none⟩) (by show w.heap.size < _; omega) (.int .i64 z)).apartSet2 (p := ⟨w.heap.size, 1, none⟩) (by show w.heap.size < _; omega) (.slice uo l.length uc)).apartSet2 (p := ⟨w.heap.size + 1, 0, none⟩) (by show w.heap.size + 1 < _; omega) (.int .i64 k)).apartSet2 (p := ⟨w.heap.size + 1, 1, none⟩) (by show w.heap.size + 1 < _; omega) (.int .i64 a)).apartSet2 (p := ⟨w.heap.size + 1, 2, none⟩) (by show w.heap.size + 1 < _; omega) (.int .i64 c)).apartSet2 (p := ⟨w.heap.size + 1, 3, none⟩) (by show w.heap.size + 1 < _; omega) (.int .i64 x)) (B' := w.heap.size) (by omega))
    have HL := hid ((((((c7.out.setCell (p := ⟨w.heap.size, 0, none⟩) (by show w.heap.size ≤ w.heap.size; omega) (.int .i64 z)).setCell (p := ⟨w.heap.size, 1, none⟩) (by show w.heap.size ≤ w.heap.size; omega) (.slice uo l.length uc)).setCell (p := ⟨w.heap.size + 1, 0, none⟩) (by show w.heap.size ≤ w.heap.size + 1; omega) (.int .i64 k)).setCell (p := ⟨w.heap.size + 1, 1, none⟩) (by show w.heap.size ≤ w.heap.size + 1; omega) (.int .i64 a)).setCell (p := ⟨w.heap.size + 1, 2, none⟩) (by show w.heap.size ≤ w.heap.size + 1; omega) (.int .i64 c)).setCell (p := ⟨w.heap.size + 1, 3, none⟩) (by show w.heap.size ≤ w.heap.size + 1; omega) (.int .i64 x))
    go_wp2
    refine bodyPost_ret (v := .tuple #[.agg #[.int .i64 z, .slice uo l.length uc], .agg #[.int .i64 k, .int .i64 a, .int .i64 c, .int .i64 x]]) (by simp [results, Try.results12, go_sem, e0, e1, e2, e3, e4, e5]) rfl ⟨_, _, _, _, _, _, _, rfl, HF.out, hl, HBD.out, hz, HB.out, HL.out⟩

set_option maxRecDepth 100000 in
set_option maxHeartbeats 4000000 in
theorem drawOpBack_any (v : Value) (n : Nat) (w : World) (h : Bs w v n) :
    Calls Try.prog 14 #[v] w fun e w' => ∃ (z : Int) (u : Value) (l : List (Int × Int)) (k a c x : Int), e = .returned (.tuple #[.agg #[.int .i64 z, u], .agg #[.int .i64 k, .int .i64 a, .int .i64 c, .int .i64 x]]) ∧ Own w' w.heap.size u l ∧ l.length ≤ 7 ∧ BdL l ∧ (-1 ≤ z ∧ z ≤ 1000001) ∧ OpB k a c x ∧ Below w.heap.size w w' := by
  have hO1 := hid ((One.new w).below (show Below _ _ ((w.alloc (.cells #[.int .i64 0, .slice none 0 0] 30)).alloc (.cells #[.int .i64 0, .int .i64 0, .int .i64 0, .int .i64 0] 24)) from (Below.refl _ _).alloc (Nat.le_refl _) _))
  have hA1 := hid (V4.new (w.alloc (.cells #[.int .i64 0, .slice none 0 0] 30)) 0 0 0 0)
  have hW0 := hid (show Below w.heap.size w ((w.alloc (.cells #[.int .i64 0, .slice none 0 0] 30)).alloc (.cells #[.int .i64 0, .int .i64 0, .int .i64 0, .int .i64 0] 24)) from by go_grown)
  have hWs : w.heap.size + 1 < ((w.alloc (.cells #[.int .i64 0, .slice none 0 0] 30)).alloc (.cells #[.int .i64 0, .int .i64 0, .int .i64 0, .int .i64 0] 24)).heap.size := by simp
  have hss : (w.alloc (.cells #[.int .i64 0, .slice none 0 0] 30)).heap.size = w.heap.size + 1 := by simp
  rw [hss] at hA1
  have hbs := hid (h.later hW0.out)
  obtain ⟨ao, cap, rfl, h0, h1, h2, h3⟩ := h
  go_enter Try.func14, Try.ntmps14
  go_wp2_with fail
  generalize (w.alloc (.cells #[.int .i64 0, .slice none 0 0] 30)).alloc (.cells #[.int .i64 0, .int .i64 0, .int .i64 0, .int .i64 0] 24) = W at hO1 hA1 hW0 hWs hbs ⊢
  obtain ⟨ao', cap', hv', _, _, _, h3'⟩ := hbs.out
  cases hv'
  refine (open_any ao n cap _ h0 h1 h2 h3').mono ?_
  rintro e w1 ⟨g, rfl, R1, b1⟩
  have hne0 : w.heap.size ≠ g := by have := R1.1; omega
  have hne1 : w.heap.size + 1 ≠ g := by have := R1.1; omega
  have hg1 := R1.2.1
  have hO2 := hid (hO1.out.below b1)
  have hA2 := hid (hA1.out.below b1)
  have c1 := hid (hW0.out.trans (b1.mono hW0.out.size))
  have HR1 := hid R1
  clear b1
  go_wp2_with fail
  refine (l3Op_any g 0 _ _ HR1.out (by omega)).mono ?_
  rintro e w2 ⟨k, a, c, x, q, rfl, hB, hq, R2, g2⟩
  have hO3 := hid (hO2.out.kept g2 hne0)
  have hA3 := hid (hA2.out.kept g2 hne1)
  have c2 := hid (show Below w.heap.size w w2 from c1.out.grown g2 c1.out.size (fun j e => by have : g = j := Option.some.inj e; have := R1.1; omega))
  have HB := hid hB
  have HR2 := hid R2
  have hg2 := R2.2.1
  have hgB := R1.1
  clear hA2 hO2 HR1 g2 R2 hB R1
  go_upto_region 3 with fail
  have hV3 := hid (V4.new w2 k a c x)
  have hal := hid (show Below w2.heap.size w2 (w2.alloc (.cells #[.int .i64 k, .int .i64 a, .int .i64 c, .int .i64 x] 24)) from (Below.refl _ w2).alloc (Nat.le_refl _) _)
  have hO4 := hid (hO3.out.below hal.out)
  have hA4 := hid (hA3.out.below hal.out)
  have HR4 := hid (HR2.out.later hal.out)
  have c3 := hid (c2.out.trans (hal.out.mono c2.out.size))
  have hsz : w2.heap.size < (w2.alloc (.cells #[.int .i64 k, .int .i64 a, .int .i64 c, .int .i64 x] 24)).heap.size := by simp
  have hs2 := c2.out.size
  generalize w2.alloc (.cells #[.int .i64 k, .int .i64 a, .int .i64 c, .int .i64 x] 24) = w3 at hV3 hO4 hA4 HR4 c3 hsz ⊢
  generalize w2.heap.size = b at hV3 hsz hs2 hg2 ⊢
  clear hO3 hA3 HR2 c2 hal
  have hbg : b ≠ g := by omega
  have v0 := hV3.out.c0
  have v1 := hV3.out.c1
  have v2 := hV3.out.c2
  have v3 := hV3.out.c3
  have hbs1 : w.heap.size + 1 < b := by omega
  go_region_with (first
    | (go_at_call 9; refine (specOther_any k a c x _).mono ?_; rintro e w4 ⟨rfl, b4⟩; have d4 : Below w3.heap.size w3 w4 := (Below.trans (by go_grown) (b4.mono (by first | omega | (simp; done) | (simp; omega)))); have c4 := hid (c3.out.trans (d4.mono c3.out.size)); have hV4 := hid (hV3.out.below d4); have hO5 := hid (hO4.out.below d4); have hA5 := hid (hA4.out.below d4); have HR5 := hid (HR4.out.later d4); have s4 := d4.size; have s5 := hA5.out.lt; have v0_4 := hV4.out.c0; have v1_4 := hV4.out.c1; have v2_4 := hV4.out.c2; have v3_4 := hV4.out.c3)
    | (go_at_call 31; refine (max_some 0 (opOther k a c x) _).mono ?_; rintro e w5 ⟨mx, rfl, rfl⟩)
    | (go_at_call 30; refine (l2ValR_any g q _ _ _ HR5.out (by omega)).mono ?_; rintro e w7 ⟨z, u, l, rfl, ho, hl, hbd, hz, g7, _⟩; obtain ⟨uo, uc, hu, _⟩ := ho.rd; subst hu; have HO := hid ho; have HBD := hid hbd; clear ho hbd; have hV7 := hid (hV4.out.kept g7 hbg); have hO7 := hid (hO5.out.kept g7 hne0); have hA7 := hid (hA5.out.kept g7 hne1); have c7 := hid (show Below w.heap.size w w7 from c4.out.grown g7 c4.out.size (fun j e => (by have h1 : g = j := Option.some.inj e; omega))); have v0_7 := hV7.out.c0; have v1_7 := hV7.out.c1; have v2_7 := hV7.out.c2; have v3_7 := hV7.out.c3; have k0 := hO7.out.r0; have k1 := hO7.out.r1; have j0 := hO7.out.f0; have j1 := hO7.out.f1; have y0 := hA7.out.c0; have y1 := hA7.out.c1; have y2 := hA7.out.c2; have y3 := hA7.out.c3; have x0 := hA7.out.fr 0; have x1 := hA7.out.fr 1; have x2 := hA7.out.fr 2; have x3 := hA7.out.fr 3))
  all_goals
    have e0 : ((((((w7.setCell ⟨w.heap.size, 0, none⟩ (.int .i64 z)).setCell ⟨w.heap.size, 1, none⟩ (.slice uo l.length uc)).setCell ⟨w.heap.size + 1, 0, none⟩ (.int .i64 k)).setCell ⟨w.heap.size + 1, 1, none⟩ (.int .i64 a)).setCell ⟨w.heap.size + 1, 2, none⟩ (.int .i64 c)).setCell ⟨w.heap.size + 1, 3, none⟩ (.int .i64 x)).cell? ⟨w.heap.size, 0, none⟩ = some (.int .i64 z) := by go_cell
    have e1 : ((((((w7.setCell ⟨w.heap.size, 0, none⟩ (.int .i64 z)).setCell ⟨w.heap.size, 1, none⟩ (.slice uo l.length uc)).setCell ⟨w.heap.size + 1, 0, none⟩ (.int .i64 k)).setCell ⟨w.heap.size + 1, 1, none⟩ (.int .i64 a)).setCell ⟨w.heap.size + 1, 2, none⟩ (.int .i64 c)).setCell ⟨w.heap.size + 1, 3, none⟩ (.int .i64 x)).cell? ⟨w.heap.size, 1, none⟩ = some (.slice uo l.length uc) := by go_cell
    have e2 : ((((((w7.setCell ⟨w.heap.size, 0, none⟩ (.int .i64 z)).setCell ⟨w.heap.size, 1, none⟩ (.slice uo l.length uc)).setCell ⟨w.heap.size + 1, 0, none⟩ (.int .i64 k)).setCell ⟨w.heap.size + 1, 1, none⟩ (.int .i64 a)).setCell ⟨w.heap.size + 1, 2, none⟩ (.int .i64 c)).setCell ⟨w.heap.size + 1, 3, none⟩ (.int .i64 x)).cell? ⟨w.heap.size + 1, 0, none⟩ = some (.int .i64 k) := by go_cell
    have e3 : ((((((w7.setCell ⟨w.heap.size, 0, none⟩ (.int .i64 z)).setCell ⟨w.heap.size, 1, none⟩ (.slice uo l.length uc)).setCell ⟨w.heap.size + 1, 0, none⟩ (.int .i64 k)).setCell ⟨w.heap.size + 1, 1, none⟩ (.int .i64 a)).setCell ⟨w.heap.size + 1, 2, none⟩ (.int .i64 c)).setCell ⟨w.heap.size + 1, 3, none⟩ (.int .i64 x)).cell? ⟨w.heap.size + 1, 1, none⟩ = some (.int .i64 a) := by go_cell
    have e4 : ((((((w7.setCell ⟨w.heap.size, 0, none⟩ (.int .i64 z)).setCell ⟨w.heap.size, 1, none⟩ (.slice uo l.length uc)).setCell ⟨w.heap.size + 1, 0, none⟩ (.int .i64 k)).setCell ⟨w.heap.size + 1, 1, none⟩ (.int .i64 a)).setCell ⟨w.heap.size + 1, 2, none⟩ (.int .i64 c)).setCell ⟨w.heap.size + 1, 3, none⟩ (.int .i64 x)).cell? ⟨w.heap.size + 1, 2, none⟩ = some (.int .i64 c) := by go_cell
    have e5 : ((((((w7.setCell ⟨w.heap.size, 0, none⟩ (.int .i64 z)).setCell ⟨w.heap.size, 1, none⟩ (.slice uo l.length uc)).setCell ⟨w.heap.size + 1, 0, none⟩ (.int .i64 k)).setCell ⟨w.heap.size + 1, 1, none⟩ (.int .i64 a)).setCell ⟨w.heap.size + 1, 2, none⟩ (.int .i64 c)).setCell ⟨w.heap.size + 1, 3, none⟩ (.int .i64 x)).cell? ⟨w.heap.size + 1, 3, none⟩ = some (.int .i64 x) := by go_cell
    have HF := hid (Own.mono ((((((HO.out.apartSet2 (p := ⟨w.heap.size, 0, none⟩) (by show w.heap.size < _; omega) (.int .i64 z)).apartSet2 (p := ⟨w.heap.size, 1, none⟩) (by show w.heap.size < _; omega) (.slice uo l.length uc)).apartSet2 (p := ⟨w.heap.size + 1, 0, none⟩) (by show w.heap.size + 1 < _; omega) (.int .i64 k)).apartSet2 (p := ⟨w.heap.size + 1, 1, none⟩) (by show w.heap.size + 1 < _; omega) (.int .i64 a)).apartSet2 (p := ⟨w.heap.size + 1, 2, none⟩) (by show w.heap.size + 1 < _; omega) (.int .i64 c)).apartSet2 (p := ⟨w.heap.size + 1, 3, none⟩) (by show w.heap.size + 1 < _; omega) (.int .i64 x)) (B' := w.heap.size) (by omega))
    have HL := hid ((((((c7.out.setCell (p := ⟨w.heap.size, 0, none⟩) (by show w.heap.size ≤ w.heap.size; omega) (.int .i64 z)).setCell (p := ⟨w.heap.size, 1, none⟩) (by show w.heap.size ≤ w.heap.size; omega) (.slice uo l.length uc)).setCell (p := ⟨w.heap.size + 1, 0, none⟩) (by show w.heap.size ≤ w.heap.size + 1; omega) (.int .i64 k)).setCell (p := ⟨w.heap.size + 1, 1, none⟩) (by show w.heap.size ≤ w.heap.size + 1; omega) (.int .i64 a)).setCell (p := ⟨w.heap.size + 1, 2, none⟩) (by show w.heap.size ≤ w.heap.size + 1; omega) (.int .i64 c)).setCell (p := ⟨w.heap.size + 1, 3, none⟩) (by show w.heap.size ≤ w.heap.size + 1; omega) (.int .i64 x))
    go_wp2
    refine bodyPost_ret (v := .tuple #[.agg #[.int .i64 z, .slice uo l.length uc], .agg #[.int .i64 k, .int .i64 a, .int .i64 c, .int .i64 x]]) (by simp [results, Try.results14, go_sem, e0, e1, e2, e3, e4, e5]) rfl ⟨_, _, _, _, _, _, _, rfl, HF.out, hl, HBD.out, hz, HB.out, HL.out⟩
end Go.Proofs.Ythmbhcgecnkgeaa
