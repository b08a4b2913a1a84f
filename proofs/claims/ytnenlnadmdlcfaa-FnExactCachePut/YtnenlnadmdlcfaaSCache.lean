/- The law's own helpers of Cache: contracts. Written by a program (gs.py). -/
import Derived.Test.YtnenlnadmdlcfaaKInt
import Derived.Test.YtnenlnadmdlcfaaZInt
import Derived.Test.YtnenlnadmdlcfaaTInt
import Derived.Test.YtnenlnadmdlcfaaMInt
import Derived.Test.YtnenlnadmdlcfaaKItem
import Derived.Test.YtnenlnadmdlcfaaZItem
import Derived.Test.YtnenlnadmdlcfaaTItem
import Derived.Test.YtnenlnadmdlcfaaMItem
import Derived.Test.YtnenlnadmdlcfaaVm
namespace Go.Proofs.Ytnenlnadmdlcfaa
open Go.RowKit
attribute [local go_sem ↓] Go.wp_at_zero Go.wp_at_succ

set_option maxRecDepth 100000 in
set_option maxHeartbeats 2000000 in
theorem eqCache_self (a0 a1 b0 b1 : Value) (L0 L1 : List KD) (w : World) (ha0 : RdM 4 3 true w a0 L0) (ha1 : RdM 1 1 false w a1 L1) (hb0 : RdM 4 3 true w b0 L0) (hb1 : RdM 1 1 false w b1 L1) :
    Calls Try.prog 12 #[.agg #[a0, a1], .agg #[b0, b1]] w fun e w' => e = .returned (.bool true) ∧ Below w.heap.size w w' := by
  have HA0 := hid ha0
  have HB0 := hid hb0
  have HA1 := hid ha1
  have HB1 := hid hb1
  obtain ⟨ao0, ac0, hv, _⟩ := ha0
  subst hv
  obtain ⟨ao1, ac1, hv, _⟩ := ha1
  subst hv
  obtain ⟨bo0, bc0, hv, _⟩ := hb0
  subst hv
  obtain ⟨bo1, bc1, hv, _⟩ := hb1
  subst hv
  go_enter Try.func12, Try.ntmps12
  go_wp2_with fail
  have a0_1 : ((w.alloc (.cells #[.slice ao0 L0.length ac0, .slice ao1 L1.length ac1] 36)).alloc (.cells #[.slice bo0 L0.length bc0, .slice bo1 L1.length bc1] 36)).cell? ⟨w.heap.size, 0, none⟩ = some (.slice ao0 L0.length ac0) := by go_cell
  have a1_1 : ((w.alloc (.cells #[.slice ao0 L0.length ac0, .slice ao1 L1.length ac1] 36)).alloc (.cells #[.slice bo0 L0.length bc0, .slice bo1 L1.length bc1] 36)).cell? ⟨w.heap.size, 1, none⟩ = some (.slice ao1 L1.length ac1) := by go_cell
  have al_1 : w.heap.size < ((w.alloc (.cells #[.slice ao0 L0.length ac0, .slice ao1 L1.length ac1] 36)).alloc (.cells #[.slice bo0 L0.length bc0, .slice bo1 L1.length bc1] 36)).heap.size := by first | (simp; done) | (simp; omega)
  have b0_1 : ((w.alloc (.cells #[.slice ao0 L0.length ac0, .slice ao1 L1.length ac1] 36)).alloc (.cells #[.slice bo0 L0.length bc0, .slice bo1 L1.length bc1] 36)).cell? ⟨w.heap.size + 1, 0, none⟩ = some (.slice bo0 L0.length bc0) := by go_cell
  have b1_1 : ((w.alloc (.cells #[.slice ao0 L0.length ac0, .slice ao1 L1.length ac1] 36)).alloc (.cells #[.slice bo0 L0.length bc0, .slice bo1 L1.length bc1] 36)).cell? ⟨w.heap.size + 1, 1, none⟩ = some (.slice bo1 L1.length bc1) := by go_cell
  have bl_1 : w.heap.size + 1 < ((w.alloc (.cells #[.slice ao0 L0.length ac0, .slice ao1 L1.length ac1] 36)).alloc (.cells #[.slice bo0 L0.length bc0, .slice bo1 L1.length bc1] 36)).heap.size := by first | (simp; done) | (simp; omega)
  have c1 : Below w.heap.size w ((w.alloc (.cells #[.slice ao0 L0.length ac0, .slice ao1 L1.length ac1] 36)).alloc (.cells #[.slice bo0 L0.length bc0, .slice bo1 L1.length bc1] 36)) := by go_grown
  have s1 : ((w.alloc (.cells #[.slice ao0 L0.length ac0, .slice ao1 L1.length ac1] 36)).alloc (.cells #[.slice bo0 L0.length bc0, .slice bo1 L1.length bc1] 36)).heap.size = w.heap.size + 2 := by simp
  generalize ((w.alloc (.cells #[.slice ao0 L0.length ac0, .slice ao1 L1.length ac1] 36)).alloc (.cells #[.slice bo0 L0.length bc0, .slice bo1 L1.length bc1] 36)) = w1 at a0_1 a1_1 al_1 b0_1 b1_1 bl_1 c1 s1 ⊢
  have qa0_1 := cell_regrown a0_1
  have qa1_1 := cell_regrown a1_1
  have qb0_1 := cell_regrown b0_1
  have qb1_1 := cell_regrown b1_1
  refine (eqItemS_any _ _ L0 L0 _ (HA0.out.later c1) (HB0.out.later c1)).mono ?_
  rintro e w2 ⟨rfl, b2⟩
  rw [eqM_refl]
  have d2 : Below w1.heap.size w1 w2 := (Below.trans (by go_grown) (b2.mono (by first | omega | (simp; done) | (simp; omega))))
  have c2 : Below w.heap.size w w2 := c1.trans (d2.mono c1.size)
  have a0_2 : w2.cell? ⟨w.heap.size, 0, none⟩ = some (.slice ao0 L0.length ac0) := (by rw [b2.cell (by first | omega | (simp; done) | (simp; omega))]; go_cell)
  have a1_2 : w2.cell? ⟨w.heap.size, 1, none⟩ = some (.slice ao1 L1.length ac1) := (by rw [b2.cell (by first | omega | (simp; done) | (simp; omega))]; go_cell)
  have al_2 : w.heap.size < w2.heap.size := (by have := b2.size; first | omega | (revert this; simp; done) | (revert this; simp; omega))
  have b0_2 : w2.cell? ⟨w.heap.size + 1, 0, none⟩ = some (.slice bo0 L0.length bc0) := (by rw [b2.cell (by first | omega | (simp; done) | (simp; omega))]; go_cell)
  have b1_2 : w2.cell? ⟨w.heap.size + 1, 1, none⟩ = some (.slice bo1 L1.length bc1) := (by rw [b2.cell (by first | omega | (simp; done) | (simp; omega))]; go_cell)
  have bl_2 : w.heap.size + 1 < w2.heap.size := (by have := b2.size; first | omega | (revert this; simp; done) | (revert this; simp; omega))
  clear a0_1 a1_1 al_1 b0_1 b1_1 bl_1
  clear b2 d2
  go_wp2_with fail
  refine (eqIntS_any _ _ L1 L1 _ (HA1.out.later c2) (HB1.out.later c2)).mono ?_
  rintro e w3 ⟨rfl, b3⟩
  rw [eqM_refl]
  have d3 : Below w2.heap.size w2 w3 := (Below.trans (by go_grown) (b3.mono (by first | omega | (simp; done) | (simp; omega))))
  have c3 : Below w.heap.size w w3 := c2.trans (d3.mono c2.size)
  have a0_3 : w3.cell? ⟨w.heap.size, 0, none⟩ = some (.slice ao0 L0.length ac0) := (by rw [b3.cell (by first | omega | (simp; done) | (simp; omega))]; go_cell)
  have a1_3 : w3.cell? ⟨w.heap.size, 1, none⟩ = some (.slice ao1 L1.length ac1) := (by rw [b3.cell (by first | omega | (simp; done) | (simp; omega))]; go_cell)
  have al_3 : w.heap.size < w3.heap.size := (by have := b3.size; first | omega | (revert this; simp; done) | (revert this; simp; omega))
  have b0_3 : w3.cell? ⟨w.heap.size + 1, 0, none⟩ = some (.slice bo0 L0.length bc0) := (by rw [b3.cell (by first | omega | (simp; done) | (simp; omega))]; go_cell)
  have b1_3 : w3.cell? ⟨w.heap.size + 1, 1, none⟩ = some (.slice bo1 L1.length bc1) := (by rw [b3.cell (by first | omega | (simp; done) | (simp; omega))]; go_cell)
  have bl_3 : w.heap.size + 1 < w3.heap.size := (by have := b3.size; first | omega | (revert this; simp; done) | (revert this; simp; omega))
  clear a0_2 a1_2 al_2 b0_2 b1_2 bl_2
  clear b3 d3
  go_wp2
  go_ret
  exact ⟨by simp, c3⟩

set_option maxRecDepth 100000 in
set_option maxHeartbeats 2000000 in
theorem szCache_all (a0 a1 : Value) (L0 L1 : List KD) (left : Int) (w : World) (ha0 : RdM 4 3 true w a0 L0) (ha1 : RdM 1 1 false w a1 L1) (h0 : 0 ≤ left) (h1 : left ≤ 1048576) :
    Calls Try.prog 7 #[.agg #[a0, a1], .int .i64 left] w fun e w' => SzD [L0, L1] left e ∧ Below w.heap.size w w' := by
  have HA0 := hid ha0
  have HA1 := hid ha1
  obtain ⟨ao0, ac0, hv, _⟩ := ha0
  subst hv
  obtain ⟨ao1, ac1, hv, _⟩ := ha1
  subst hv
  go_enter Try.func7, Try.ntmps7
  go_wp2_with fail
  have a0_1 : (w.alloc (.cells #[.slice ao0 L0.length ac0, .slice ao1 L1.length ac1] 25)).cell? ⟨w.heap.size, 0, none⟩ = some (.slice ao0 L0.length ac0) := by go_cell
  have a1_1 : (w.alloc (.cells #[.slice ao0 L0.length ac0, .slice ao1 L1.length ac1] 25)).cell? ⟨w.heap.size, 1, none⟩ = some (.slice ao1 L1.length ac1) := by go_cell
  have al_1 : w.heap.size < (w.alloc (.cells #[.slice ao0 L0.length ac0, .slice ao1 L1.length ac1] 25)).heap.size := by first | (simp; done) | (simp; omega)
  have c1 : Below w.heap.size w (w.alloc (.cells #[.slice ao0 L0.length ac0, .slice ao1 L1.length ac1] 25)) := by go_grown
  have s1 : (w.alloc (.cells #[.slice ao0 L0.length ac0, .slice ao1 L1.length ac1] 25)).heap.size = w.heap.size + 1 := by simp
  generalize (w.alloc (.cells #[.slice ao0 L0.length ac0, .slice ao1 L1.length ac1] 25)) = w1 at a0_1 a1_1 al_1 c1 s1 ⊢
  have qa0_1 := cell_regrown a0_1
  have qa1_1 := cell_regrown a1_1
  refine (szItemS_any _ L0 left _ (HA0.out.later c1) (by omega) (by omega)).mono ?_
  rintro e w2 ⟨hs, b2⟩
  have d2 : Below w1.heap.size w1 w2 := (Below.trans (by go_grown) (b2.mono (by first | omega | (simp; done) | (simp; omega))))
  have c2 : Below w.heap.size w w2 := c1.trans (d2.mono c1.size)
  have a0_2 : w2.cell? ⟨w.heap.size, 0, none⟩ = some (.slice ao0 L0.length ac0) := (by rw [b2.cell (by first | omega | (simp; done) | (simp; omega))]; go_cell)
  have a1_2 : w2.cell? ⟨w.heap.size, 1, none⟩ = some (.slice ao1 L1.length ac1) := (by rw [b2.cell (by first | omega | (simp; done) | (simp; omega))]; go_cell)
  have al_2 : w.heap.size < w2.heap.size := (by have := b2.size; first | omega | (revert this; simp; done) | (revert this; simp; omega))
  clear a0_1 a1_1 al_1
  clear b2 d2
  rcases hs with ⟨rfl, hs⟩ | ⟨rfl, hs⟩
  · have HS0 := hid (show L0.length + bulkM L0 ≤ 1048576 by omega)
    have hn0 : ¬ (left - (L0.length : Int) - (bulkM L0 : Int) < 0) := by omega
    have hn0' : left - (L0.length : Int) - (bulkM L0 : Int) ≤ 1048576 := by omega
    have hle0 : left - (L0.length : Int) - (bulkM L0 : Int) ≤ left := by omega
    obtain ⟨r0, hr0⟩ : ∃ r : Int, left - (L0.length : Int) - (bulkM L0 : Int) = r := ⟨_, rfl⟩
    rw [hr0] at hn0 hn0' hle0 ⊢
    clear hr0 hs
    go_wp2_with fail
    refine (szIntS_any _ L1 r0 _ (HA1.out.later c2) (by omega) (by omega)).mono ?_
    rintro e w3 ⟨hs, b3⟩
    have d3 : Below w2.heap.size w2 w3 := (Below.trans (by go_grown) (b3.mono (by first | omega | (simp; done) | (simp; omega))))
    have c3 : Below w.heap.size w w3 := c2.trans (d3.mono c2.size)
    have a0_3 : w3.cell? ⟨w.heap.size, 0, none⟩ = some (.slice ao0 L0.length ac0) := (by rw [b3.cell (by first | omega | (simp; done) | (simp; omega))]; go_cell)
    have a1_3 : w3.cell? ⟨w.heap.size, 1, none⟩ = some (.slice ao1 L1.length ac1) := (by rw [b3.cell (by first | omega | (simp; done) | (simp; omega))]; go_cell)
    have al_3 : w.heap.size < w3.heap.size := (by have := b3.size; first | omega | (revert this; simp; done) | (revert this; simp; omega))
    clear a0_2 a1_2 al_2
    clear b3 d3
    rcases hs with ⟨rfl, hs⟩ | ⟨rfl, hs⟩
    · have HS1 := hid (show L1.length + bulkM L1 ≤ 1048576 by omega)
      have hn1 : ¬ (r0 - (L1.length : Int) - (bulkM L1 : Int) < 0) := by omega
      have hn1' : r0 - (L1.length : Int) - (bulkM L1 : Int) ≤ 1048576 := by omega
      have hle1 : r0 - (L1.length : Int) - (bulkM L1 : Int) ≤ left := by omega
      obtain ⟨r1, hr1⟩ : ∃ r : Int, r0 - (L1.length : Int) - (bulkM L1 : Int) = r := ⟨_, rfl⟩
      rw [hr1] at hn1 hn1' hle1 ⊢
      clear hr1 hs
      go_wp2
      go_ret
      exact ⟨Or.inl ⟨r1, by simp, by omega, hle1, fun L hL => by
        simp only [List.mem_cons, List.not_mem_nil, or_false] at hL
        rcases hL with rfl | rfl
        · exact HS0.out
        · exact HS1.out⟩, c3⟩
    · clear hs
      go_wp2
      go_ret
      exact ⟨Or.inr (by simp), c3⟩
  · clear hs
    go_wp2
    go_ret
    exact ⟨Or.inr (by simp), c2⟩

def ToCache (w w' : World) (L0 L1 : List KD) (e : Ending) : Prop :=
  ∃ (v0 v1 : Value) (B1 : Nat), e = .returned (.agg #[v0, v1]) ∧ OwnM 31 4 3 true w' (Span w.heap.size B1) v0 L0 ∧ OwnM 3 1 1 false w' (Span B1 w'.heap.size) v1 L1 ∧ w.heap.size ≤ B1 ∧ B1 ≤ w'.heap.size
set_option maxRecDepth 100000 in
set_option maxHeartbeats 4000000 in
theorem toCache_own (a0 a1 : Value) (L0 L1 : List KD) (w : World) (ha0 : RdM 4 3 true w a0 L0) (ha1 : RdM 1 1 false w a1 L1) (hl0 : L0.length ≤ 1048576) (hl1 : L1.length ≤ 1048576) (hk0 : ∀ i, i < L0.length → (L0.getD i kd0).2.length ≤ 1048576) :
    Calls Try.prog 9 #[.agg #[a0, a1]] w fun e w' => ToCache w w' L0 L1 e ∧ Below w.heap.size w w' := by
  have HA0 := hid ha0
  have HK0 := hid hk0
  clear hk0
  have HA1 := hid ha1
  obtain ⟨ao0, ac0, hv, _⟩ := ha0
  subst hv
  obtain ⟨ao1, ac1, hv, _⟩ := ha1
  subst hv
  go_enter Try.func9, Try.ntmps9
  go_wp2_with fail
  have a0_1 : (((w.alloc (.cells #[.slice ao0 L0.length ac0, .slice ao1 L1.length ac1] 25)).alloc (.cells #[.slice none 0 0, .slice none 0 0] 36)).alloc (.cells #[.slice none 0 0, .slice none 0 0] 36)).cell? ⟨w.heap.size, 0, none⟩ = some (.slice ao0 L0.length ac0) := by go_cell
  have a1_1 : (((w.alloc (.cells #[.slice ao0 L0.length ac0, .slice ao1 L1.length ac1] 25)).alloc (.cells #[.slice none 0 0, .slice none 0 0] 36)).alloc (.cells #[.slice none 0 0, .slice none 0 0] 36)).cell? ⟨w.heap.size, 1, none⟩ = some (.slice ao1 L1.length ac1) := by go_cell
  have r0_1 : (((w.alloc (.cells #[.slice ao0 L0.length ac0, .slice ao1 L1.length ac1] 25)).alloc (.cells #[.slice none 0 0, .slice none 0 0] 36)).alloc (.cells #[.slice none 0 0, .slice none 0 0] 36)).cell? ⟨w.heap.size + 1, 0, none⟩ = some (.slice none 0 0) := by go_cell
  have rf0_1 : (((w.alloc (.cells #[.slice ao0 L0.length ac0, .slice ao1 L1.length ac1] 25)).alloc (.cells #[.slice none 0 0, .slice none 0 0] 36)).alloc (.cells #[.slice none 0 0, .slice none 0 0] 36)).frozen? ⟨w.heap.size + 1, 0, none⟩ = false := by (first | go_cell | (simp [World.frozen?, World.alloc]; done) | rfl)
  have r1_1 : (((w.alloc (.cells #[.slice ao0 L0.length ac0, .slice ao1 L1.length ac1] 25)).alloc (.cells #[.slice none 0 0, .slice none 0 0] 36)).alloc (.cells #[.slice none 0 0, .slice none 0 0] 36)).cell? ⟨w.heap.size + 1, 1, none⟩ = some (.slice none 0 0) := by go_cell
  have rf1_1 : (((w.alloc (.cells #[.slice ao0 L0.length ac0, .slice ao1 L1.length ac1] 25)).alloc (.cells #[.slice none 0 0, .slice none 0 0] 36)).alloc (.cells #[.slice none 0 0, .slice none 0 0] 36)).frozen? ⟨w.heap.size + 1, 1, none⟩ = false := by (first | go_cell | (simp [World.frozen?, World.alloc]; done) | rfl)
  have o0_1 : (((w.alloc (.cells #[.slice ao0 L0.length ac0, .slice ao1 L1.length ac1] 25)).alloc (.cells #[.slice none 0 0, .slice none 0 0] 36)).alloc (.cells #[.slice none 0 0, .slice none 0 0] 36)).cell? ⟨w.heap.size + 1 + 1, 0, none⟩ = some (.slice none 0 0) := by go_cell
  have of0_1 : (((w.alloc (.cells #[.slice ao0 L0.length ac0, .slice ao1 L1.length ac1] 25)).alloc (.cells #[.slice none 0 0, .slice none 0 0] 36)).alloc (.cells #[.slice none 0 0, .slice none 0 0] 36)).frozen? ⟨w.heap.size + 1 + 1, 0, none⟩ = false := by (first | go_cell | (simp [World.frozen?, World.alloc]; done) | rfl)
  have o1_1 : (((w.alloc (.cells #[.slice ao0 L0.length ac0, .slice ao1 L1.length ac1] 25)).alloc (.cells #[.slice none 0 0, .slice none 0 0] 36)).alloc (.cells #[.slice none 0 0, .slice none 0 0] 36)).cell? ⟨w.heap.size + 1 + 1, 1, none⟩ = some (.slice none 0 0) := by go_cell
  have of1_1 : (((w.alloc (.cells #[.slice ao0 L0.length ac0, .slice ao1 L1.length ac1] 25)).alloc (.cells #[.slice none 0 0, .slice none 0 0] 36)).alloc (.cells #[.slice none 0 0, .slice none 0 0] 36)).frozen? ⟨w.heap.size + 1 + 1, 1, none⟩ = false := by (first | go_cell | (simp [World.frozen?, World.alloc]; done) | rfl)
  have c1 : Below w.heap.size w (((w.alloc (.cells #[.slice ao0 L0.length ac0, .slice ao1 L1.length ac1] 25)).alloc (.cells #[.slice none 0 0, .slice none 0 0] 36)).alloc (.cells #[.slice none 0 0, .slice none 0 0] 36)) := by go_grown
  have s1 : (((w.alloc (.cells #[.slice ao0 L0.length ac0, .slice ao1 L1.length ac1] 25)).alloc (.cells #[.slice none 0 0, .slice none 0 0] 36)).alloc (.cells #[.slice none 0 0, .slice none 0 0] 36)).heap.size = w.heap.size + 3 := by simp
  generalize (((w.alloc (.cells #[.slice ao0 L0.length ac0, .slice ao1 L1.length ac1] 25)).alloc (.cells #[.slice none 0 0, .slice none 0 0] 36)).alloc (.cells #[.slice none 0 0, .slice none 0 0] 36)) = w1 at a0_1 a1_1 r0_1 rf0_1 r1_1 rf1_1 o0_1 of0_1 o1_1 of1_1 c1 s1 ⊢
  have al_1 : w.heap.size < w1.heap.size := by omega
  have rl_1 : w.heap.size + 1 < w1.heap.size := by omega
  have ol_1 : w.heap.size + 1 + 1 < w1.heap.size := by omega
  clear s1
  have hz1 : w.heap.size + 3 ≤ w1.heap.size := by omega
  refine (toItemS_own _ L0 _ (HA0.out.later c1) hl0 HK0.out).mono ?_
  rintro e w2 ⟨x0, rfl, ho, b2⟩
  have hx0 := ho.rd'
  obtain ⟨xo0, xc0, hv, _⟩ := hx0
  subst hv
  have hz2 : w1.heap.size ≤ w2.heap.size := b2.size
  have d2 : Below w1.heap.size w1 w2 := (Below.trans (by go_grown) (b2.mono (by first | omega | (simp; done) | (simp; omega))))
  have c2 : Below w.heap.size w w2 := c1.trans (d2.mono c1.size)
  have a0_2 : w2.cell? ⟨w.heap.size, 0, none⟩ = some (.slice ao0 L0.length ac0) := (by rw [b2.cell (by first | omega | (simp; done) | (simp; omega))]; go_cell)
  have a1_2 : w2.cell? ⟨w.heap.size, 1, none⟩ = some (.slice ao1 L1.length ac1) := (by rw [b2.cell (by first | omega | (simp; done) | (simp; omega))]; go_cell)
  have al_2 : w.heap.size < w2.heap.size := (by have := b2.size; first | omega | (revert this; simp; done) | (revert this; simp; omega))
  have r0_2 : w2.cell? ⟨w.heap.size + 1, 0, none⟩ = some (.slice none 0 0) := (by rw [b2.cell (by first | omega | (simp; done) | (simp; omega))]; go_cell)
  have rf0_2 : w2.frozen? ⟨w.heap.size + 1, 0, none⟩ = false := (by rw [b2.frozen (by first | omega | (simp; done) | (simp; omega))]; (first | go_cell | (simp [World.frozen?, World.alloc]; done) | rfl))
  have r1_2 : w2.cell? ⟨w.heap.size + 1, 1, none⟩ = some (.slice none 0 0) := (by rw [b2.cell (by first | omega | (simp; done) | (simp; omega))]; go_cell)
  have rf1_2 : w2.frozen? ⟨w.heap.size + 1, 1, none⟩ = false := (by rw [b2.frozen (by first | omega | (simp; done) | (simp; omega))]; (first | go_cell | (simp [World.frozen?, World.alloc]; done) | rfl))
  have rl_2 : w.heap.size + 1 < w2.heap.size := (by have := b2.size; first | omega | (revert this; simp; done) | (revert this; simp; omega))
  have o0_2 : w2.cell? ⟨w.heap.size + 1 + 1, 0, none⟩ = some (.slice none 0 0) := (by rw [b2.cell (by first | omega | (simp; done) | (simp; omega))]; go_cell)
  have of0_2 : w2.frozen? ⟨w.heap.size + 1 + 1, 0, none⟩ = false := (by rw [b2.frozen (by first | omega | (simp; done) | (simp; omega))]; (first | go_cell | (simp [World.frozen?, World.alloc]; done) | rfl))
  have o1_2 : w2.cell? ⟨w.heap.size + 1 + 1, 1, none⟩ = some (.slice none 0 0) := (by rw [b2.cell (by first | omega | (simp; done) | (simp; omega))]; go_cell)
  have of1_2 : w2.frozen? ⟨w.heap.size + 1 + 1, 1, none⟩ = false := (by rw [b2.frozen (by first | omega | (simp; done) | (simp; omega))]; (first | go_cell | (simp [World.frozen?, World.alloc]; done) | rfl))
  have ol_2 : w.heap.size + 1 + 1 < w2.heap.size := (by have := b2.size; first | omega | (revert this; simp; done) | (revert this; simp; omega))
  clear a0_1 a1_1 al_1 r0_1 rf0_1 r1_1 rf1_1 rl_1 o0_1 of0_1 o1_1 of1_1 ol_1
  have HO0_2 := hid ho
  clear ho b2 d2
  go_wp2_with fail
  have a0_3 : (w2.setCell ⟨w.heap.size + 1 + 1, 0, none⟩ (.slice xo0 L0.length xc0)).cell? ⟨w.heap.size, 0, none⟩ = some (.slice ao0 L0.length ac0) := by go_cell
  have a1_3 : (w2.setCell ⟨w.heap.size + 1 + 1, 0, none⟩ (.slice xo0 L0.length xc0)).cell? ⟨w.heap.size, 1, none⟩ = some (.slice ao1 L1.length ac1) := by go_cell
  have r0_3 : (w2.setCell ⟨w.heap.size + 1 + 1, 0, none⟩ (.slice xo0 L0.length xc0)).cell? ⟨w.heap.size + 1, 0, none⟩ = some (.slice none 0 0) := by go_cell
  have rf0_3 : (w2.setCell ⟨w.heap.size + 1 + 1, 0, none⟩ (.slice xo0 L0.length xc0)).frozen? ⟨w.heap.size + 1, 0, none⟩ = false := by (first | go_cell | (simp [World.frozen?, World.alloc]; done) | rfl)
  have r1_3 : (w2.setCell ⟨w.heap.size + 1 + 1, 0, none⟩ (.slice xo0 L0.length xc0)).cell? ⟨w.heap.size + 1, 1, none⟩ = some (.slice none 0 0) := by go_cell
  have rf1_3 : (w2.setCell ⟨w.heap.size + 1 + 1, 0, none⟩ (.slice xo0 L0.length xc0)).frozen? ⟨w.heap.size + 1, 1, none⟩ = false := by (first | go_cell | (simp [World.frozen?, World.alloc]; done) | rfl)
  have o0_3 : (w2.setCell ⟨w.heap.size + 1 + 1, 0, none⟩ (.slice xo0 L0.length xc0)).cell? ⟨w.heap.size + 1 + 1, 0, none⟩ = some (.slice xo0 L0.length xc0) := by go_cell
  have of0_3 : (w2.setCell ⟨w.heap.size + 1 + 1, 0, none⟩ (.slice xo0 L0.length xc0)).frozen? ⟨w.heap.size + 1 + 1, 0, none⟩ = false := by (first | go_cell | (simp [World.frozen?, World.alloc]; done) | rfl)
  have o1_3 : (w2.setCell ⟨w.heap.size + 1 + 1, 0, none⟩ (.slice xo0 L0.length xc0)).cell? ⟨w.heap.size + 1 + 1, 1, none⟩ = some (.slice none 0 0) := by go_cell
  have of1_3 : (w2.setCell ⟨w.heap.size + 1 + 1, 0, none⟩ (.slice xo0 L0.length xc0)).frozen? ⟨w.heap.size + 1 + 1, 1, none⟩ = false := by (first | go_cell | (simp [World.frozen?, World.alloc]; done) | rfl)
  have HO0_3 := hid (HO0_2.out.set (p := ⟨w.heap.size + 1 + 1, 0, none⟩) (fun q => by have := q.1; first | omega | (simp only at this; omega)) (.slice xo0 L0.length xc0))
  clear HO0_2
  have c3 := c2.setCell (p := ⟨w.heap.size + 1 + 1, 0, none⟩) (by show w.heap.size ≤ w.heap.size + 1 + 1; omega) (.slice xo0 L0.length xc0)
  have s3 : (w2.setCell ⟨w.heap.size + 1 + 1, 0, none⟩ (.slice xo0 L0.length xc0)).heap.size = w2.heap.size := by simp
  clear a0_2 a1_2 r0_2 r1_2 rf0_2 rf1_2 o0_2 o1_2 of0_2 of1_2
  generalize (w2.setCell ⟨w.heap.size + 1 + 1, 0, none⟩ (.slice xo0 L0.length xc0)) = w3 at a0_3 a1_3 r0_3 rf0_3 r1_3 rf1_3 o0_3 of0_3 o1_3 of1_3 HO0_3 c3 s3 ⊢
  have al_3 : w.heap.size < w3.heap.size := by omega
  have rl_3 : w.heap.size + 1 < w3.heap.size := by omega
  have ol_3 : w.heap.size + 1 + 1 < w3.heap.size := by omega
  refine (toIntS_own _ L1 _ (HA1.out.later c3) hl1).mono ?_
  rintro e w4 ⟨x1, rfl, ho, b4⟩
  have hx1 := ho.rd'
  obtain ⟨xo1, xc1, hv, _⟩ := hx1
  subst hv
  have hz4 : w3.heap.size ≤ w4.heap.size := b4.size
  have d4 : Below w3.heap.size w3 w4 := (Below.trans (by go_grown) (b4.mono (by first | omega | (simp; done) | (simp; omega))))
  have c4 : Below w.heap.size w w4 := c3.trans (d4.mono c3.size)
  have a0_4 : w4.cell? ⟨w.heap.size, 0, none⟩ = some (.slice ao0 L0.length ac0) := (by rw [b4.cell (by first | omega | (simp; done) | (simp; omega))]; go_cell)
  have a1_4 : w4.cell? ⟨w.heap.size, 1, none⟩ = some (.slice ao1 L1.length ac1) := (by rw [b4.cell (by first | omega | (simp; done) | (simp; omega))]; go_cell)
  have al_4 : w.heap.size < w4.heap.size := (by have := b4.size; first | omega | (revert this; simp; done) | (revert this; simp; omega))
  have r0_4 : w4.cell? ⟨w.heap.size + 1, 0, none⟩ = some (.slice none 0 0) := (by rw [b4.cell (by first | omega | (simp; done) | (simp; omega))]; go_cell)
  have rf0_4 : w4.frozen? ⟨w.heap.size + 1, 0, none⟩ = false := (by rw [b4.frozen (by first | omega | (simp; done) | (simp; omega))]; (first | go_cell | (simp [World.frozen?, World.alloc]; done) | rfl))
  have r1_4 : w4.cell? ⟨w.heap.size + 1, 1, none⟩ = some (.slice none 0 0) := (by rw [b4.cell (by first | omega | (simp; done) | (simp; omega))]; go_cell)
  have rf1_4 : w4.frozen? ⟨w.heap.size + 1, 1, none⟩ = false := (by rw [b4.frozen (by first | omega | (simp; done) | (simp; omega))]; (first | go_cell | (simp [World.frozen?, World.alloc]; done) | rfl))
  have rl_4 : w.heap.size + 1 < w4.heap.size := (by have := b4.size; first | omega | (revert this; simp; done) | (revert this; simp; omega))
  have o0_4 : w4.cell? ⟨w.heap.size + 1 + 1, 0, none⟩ = some (.slice xo0 L0.length xc0) := (by rw [b4.cell (by first | omega | (simp; done) | (simp; omega))]; go_cell)
  have of0_4 : w4.frozen? ⟨w.heap.size + 1 + 1, 0, none⟩ = false := (by rw [b4.frozen (by first | omega | (simp; done) | (simp; omega))]; (first | go_cell | (simp [World.frozen?, World.alloc]; done) | rfl))
  have o1_4 : w4.cell? ⟨w.heap.size + 1 + 1, 1, none⟩ = some (.slice none 0 0) := (by rw [b4.cell (by first | omega | (simp; done) | (simp; omega))]; go_cell)
  have of1_4 : w4.frozen? ⟨w.heap.size + 1 + 1, 1, none⟩ = false := (by rw [b4.frozen (by first | omega | (simp; done) | (simp; omega))]; (first | go_cell | (simp [World.frozen?, World.alloc]; done) | rfl))
  have ol_4 : w.heap.size + 1 + 1 < w4.heap.size := (by have := b4.size; first | omega | (revert this; simp; done) | (revert this; simp; omega))
  clear a0_3 a1_3 al_3 r0_3 rf0_3 r1_3 rf1_3 rl_3 o0_3 of0_3 o1_3 of1_3 ol_3
  have HO0_4 := hid (HO0_3.out.later d4)
  clear HO0_3
  have HO1_4 := hid ho
  clear ho b4 d4
  go_wp2
  have e0 : (((w4.setCell ⟨w.heap.size + 1 + 1, 1, none⟩ (.slice xo1 L1.length xc1)).setCell ⟨w.heap.size + 1, 0, none⟩ (.slice xo0 L0.length xc0)).setCell ⟨w.heap.size + 1, 1, none⟩ (.slice xo1 L1.length xc1)).cell? ⟨w.heap.size + 1, 0, none⟩ = some (.slice xo0 L0.length xc0) := by go_cell
  have e1 : (((w4.setCell ⟨w.heap.size + 1 + 1, 1, none⟩ (.slice xo1 L1.length xc1)).setCell ⟨w.heap.size + 1, 0, none⟩ (.slice xo0 L0.length xc0)).setCell ⟨w.heap.size + 1, 1, none⟩ (.slice xo1 L1.length xc1)).cell? ⟨w.heap.size + 1, 1, none⟩ = some (.slice xo1 L1.length xc1) := by go_cell
  refine bodyPost_ret (v := .agg #[.slice xo0 L0.length xc0, .slice xo1 L1.length xc1]) (by simp [results, Try.results9, go_sem, e0, e1]) rfl ⟨⟨_, _, w3.heap.size, rfl, ?_, ?_, ?_, ?_⟩, ?_⟩
  · exact OwnM.mono (((HO0_4.out.set (p := ⟨w.heap.size + 1 + 1, 1, none⟩) (fun q => by have := q.1; first | omega | (simp only at this; omega)) (.slice xo1 L1.length xc1)).set (p := ⟨w.heap.size + 1, 0, none⟩) (fun q => by have := q.1; first | omega | (simp only at this; omega)) (.slice xo0 L0.length xc0)).set (p := ⟨w.heap.size + 1, 1, none⟩) (fun q => by have := q.1; first | omega | (simp only at this; omega)) (.slice xo1 L1.length xc1)) (fun b hb _ => ⟨by have := hb.1; omega, by have := hb.2; first | omega | (simp only [World.setCell, Array.size_modify]; omega)⟩)
  · exact OwnM.mono (((HO1_4.out.set (p := ⟨w.heap.size + 1 + 1, 1, none⟩) (fun q => by have := q.1; first | omega | (simp only at this; omega)) (.slice xo1 L1.length xc1)).set (p := ⟨w.heap.size + 1, 0, none⟩) (fun q => by have := q.1; first | omega | (simp only at this; omega)) (.slice xo0 L0.length xc0)).set (p := ⟨w.heap.size + 1, 1, none⟩) (fun q => by have := q.1; first | omega | (simp only at this; omega)) (.slice xo1 L1.length xc1)) (fun b hb _ => ⟨by have := hb.1; omega, by have := hb.2; first | omega | (simp only [World.setCell, Array.size_modify]; omega)⟩)
  · first | omega | (simp only [World.setCell, Array.size_modify]; omega)
  · first | omega | (simp only [World.setCell, Array.size_modify]; omega)
  · exact (((c4.setCell (p := ⟨w.heap.size + 1 + 1, 1, none⟩) (by show w.heap.size ≤ w.heap.size + 1 + 1; omega) (.slice xo1 L1.length xc1)).setCell (p := ⟨w.heap.size + 1, 0, none⟩) (by show w.heap.size ≤ w.heap.size + 1; omega) (.slice xo0 L0.length xc0)).setCell (p := ⟨w.heap.size + 1, 1, none⟩) (by show w.heap.size ≤ w.heap.size + 1; omega) (.slice xo1 L1.length xc1))

set_option maxRecDepth 100000 in
set_option maxHeartbeats 2000000 in
theorem markCache_all {y0 y1 : TypeId} (a0 a1 : Value) (L0 L1 : List KD) (k : Int) (F0 F1 : Nat → Prop) (w : World) (ha0 : OwnM y0 4 3 true w F0 a0 L0) (ha1 : OwnM y1 1 1 false w F1 a1 L1) (d0_1 : ∀ b, F0 b → ¬ F1 b) (d1_0 : ∀ b, F1 b → ¬ F0 b) (hk : 0 ≤ k) (hk2 : k + cntM 3 L0 + cntM 1 L1 ≤ 1099511627776) :
    Calls Try.prog 13 #[.agg #[a0, a1], .int .i64 k] w fun e w' => e = .returned (.int .i64 (k + cntM 3 L0 + cntM 1 L1)) ∧ OwnM y0 4 3 true w' F0 a0 (relM 3 (k) L0) ∧ OwnM y1 1 1 false w' F1 a1 (relM 1 (k + cntM 3 L0) L1) ∧ Only (fun b => F0 b ∨ F1 b) w w' := by
  have HA0 := hid ha0
  have hv0 := ha0.rd'
  have hp0 := cntM_pos 3 L0
  have HA1 := hid ha1
  have hv1 := ha1.rd'
  have hp1 := cntM_pos 1 L1
  obtain ⟨ao0, ac0, hv, _⟩ := hv0
  subst hv
  obtain ⟨ao1, ac1, hv, _⟩ := hv1
  subst hv
  clear ha0 ha1
  go_enter Try.func13, Try.ntmps13
  go_wp2_with fail
  have a0_1 : (w.alloc (.cells #[.slice ao0 L0.length ac0, .slice ao1 L1.length ac1] 36)).cell? ⟨w.heap.size, 0, none⟩ = some (.slice ao0 L0.length ac0) := by go_cell
  have a1_1 : (w.alloc (.cells #[.slice ao0 L0.length ac0, .slice ao1 L1.length ac1] 36)).cell? ⟨w.heap.size, 1, none⟩ = some (.slice ao1 L1.length ac1) := by go_cell
  have al_1 : w.heap.size < (w.alloc (.cells #[.slice ao0 L0.length ac0, .slice ao1 L1.length ac1] 36)).heap.size := by first | (simp; done) | (simp; omega)
  have c1 : Below w.heap.size w (w.alloc (.cells #[.slice ao0 L0.length ac0, .slice ao1 L1.length ac1] 36)) := by go_grown
  have s1 : (w.alloc (.cells #[.slice ao0 L0.length ac0, .slice ao1 L1.length ac1] 36)).heap.size = w.heap.size + 1 := by simp
  generalize (w.alloc (.cells #[.slice ao0 L0.length ac0, .slice ao1 L1.length ac1] 36)) = w1 at a0_1 a1_1 al_1 c1 s1 ⊢
  have qa0_1 := cell_regrown a0_1
  have qa1_1 := cell_regrown a1_1
  have HA0_1 := hid ((HA0.out.mono (G := fun b => F0 b ∧ b < w.heap.size) (fun b hb hl => ⟨hb, hl⟩)).later c1)
  have HA1_1 := hid ((HA1.out.mono (G := fun b => F1 b ∧ b < w.heap.size) (fun b hb hl => ⟨hb, hl⟩)).later c1)
  have HN1 : Hid (Only (fun b => F0 b ∨ F1 b) w w1) := hid (Only.later c1)
  refine (markItemS_any _ L0 (k) (fun b => F0 b ∧ b < w.heap.size) _ (HA0_1.out) (by omega) (by omega)).mono ?_
  rintro e w2 ⟨rfl, ho, hn⟩
  have a0_2 := (World.cell?_of_block (a := ⟨w.heap.size, 0, none⟩) (hn.block w.heap.size (by have := al_1; omega) (fun q => Nat.lt_irrefl _ q.2))).trans a0_1
  have a1_2 := (World.cell?_of_block (a := ⟨w.heap.size, 1, none⟩) (hn.block w.heap.size (by have := al_1; omega) (fun q => Nat.lt_irrefl _ q.2))).trans a1_1
  have al_2 : w.heap.size < w2.heap.size := Nat.lt_of_lt_of_le al_1 hn.size
  have HN2 := hid (HN1.out.trans (hn.mono (fun b hb => Or.inl hb.1)))
  have HA0_2 := hid ho
  have HA1_2 := hid (HA1_1.out.only hn (fun b hb _ hc => d1_0 b hb.1 hc.1))
  clear ho hn HN1 HA0_1 HA1_1 a0_1 a1_1
  go_wp2_with fail
  refine (markIntS_any _ L1 (k + cntM 3 L0) (fun b => F1 b ∧ b < w.heap.size) _ (HA1_2.out) (by omega) (by omega)).mono ?_
  rintro e w3 ⟨rfl, ho, hn⟩
  have a0_3 := (World.cell?_of_block (a := ⟨w.heap.size, 0, none⟩) (hn.block w.heap.size (by have := al_2; omega) (fun q => Nat.lt_irrefl _ q.2))).trans a0_2
  have a1_3 := (World.cell?_of_block (a := ⟨w.heap.size, 1, none⟩) (hn.block w.heap.size (by have := al_2; omega) (fun q => Nat.lt_irrefl _ q.2))).trans a1_2
  have al_3 : w.heap.size < w3.heap.size := Nat.lt_of_lt_of_le al_2 hn.size
  have HN3 := hid (HN2.out.trans (hn.mono (fun b hb => Or.inr (hb.1))))
  have HA0_3 := hid (HA0_2.out.only hn (fun b hb _ hc => d0_1 b hb.1 hc.1))
  have HA1_3 := hid ho
  clear ho hn HN2 HA0_2 HA1_2 a0_2 a1_2
  go_wp2
  go_ret
  exact ⟨by simp, HA0_3.out.mono (fun b hb _ => hb.1), HA1_3.out.mono (fun b hb _ => hb.1), HN3.out⟩

set_option maxRecDepth 100000 in
set_option maxHeartbeats 2000000 in
theorem heldCache_all (a0 a1 : Value) (L0 L1 : List KD) (k : Int) (w : World) (ha0 : RdM 4 3 true w a0 (relM 3 (k) L0)) (ha1 : RdM 1 1 false w a1 (relM 1 (k + cntM 3 L0) L1)) (hl0 : ∀ i, i < L0.length → (L0.getD i kd0).1.length = 3) (hl1 : ∀ i, i < L1.length → (L1.getD i kd0).1.length = 1 ∧ (L1.getD i kd0).2 = []) (hk : 0 ≤ k) (hk2 : k + cntM 3 L0 + cntM 1 L1 ≤ 1099511627776) :
    Calls Try.prog 18 #[.agg #[a0, a1], .int .i64 k] w fun e w' => e = .returned (.int .i64 (k + cntM 3 L0 + cntM 1 L1)) ∧ Below w.heap.size w w' := by
  have HA0 := hid ha0
  have HL0 := hid hl0
  have hp0 := cntM_pos 3 L0
  obtain ⟨ao0, ac0, hv, _⟩ := ha0
  rw [relM_length] at hv
  subst hv
  have HA1 := hid ha1
  have HL1 := hid hl1
  have hp1 := cntM_pos 1 L1
  obtain ⟨ao1, ac1, hv, _⟩ := ha1
  rw [relM_length] at hv
  subst hv
  clear hl0 hl1
  go_enter Try.func18, Try.ntmps18
  go_wp2_with fail
  have a0_1 : (w.alloc (.cells #[.slice ao0 L0.length ac0, .slice ao1 L1.length ac1] 36)).cell? ⟨w.heap.size, 0, none⟩ = some (.slice ao0 L0.length ac0) := by go_cell
  have a1_1 : (w.alloc (.cells #[.slice ao0 L0.length ac0, .slice ao1 L1.length ac1] 36)).cell? ⟨w.heap.size, 1, none⟩ = some (.slice ao1 L1.length ac1) := by go_cell
  have al_1 : w.heap.size < (w.alloc (.cells #[.slice ao0 L0.length ac0, .slice ao1 L1.length ac1] 36)).heap.size := by first | (simp; done) | (simp; omega)
  have c1 : Below w.heap.size w (w.alloc (.cells #[.slice ao0 L0.length ac0, .slice ao1 L1.length ac1] 36)) := by go_grown
  have s1 : (w.alloc (.cells #[.slice ao0 L0.length ac0, .slice ao1 L1.length ac1] 36)).heap.size = w.heap.size + 1 := by simp
  generalize (w.alloc (.cells #[.slice ao0 L0.length ac0, .slice ao1 L1.length ac1] 36)) = w1 at a0_1 a1_1 al_1 c1 s1 ⊢
  have qa0_1 := cell_regrown a0_1
  have qa1_1 := cell_regrown a1_1
  refine (heldItemS_any _ L0 (k) _ (HA0.out.later c1) HL0.out (by omega) (by omega)).mono ?_
  rintro e w2 ⟨rfl, b2⟩
  have d2 : Below w1.heap.size w1 w2 := (Below.trans (by go_grown) (b2.mono (by first | omega | (simp; done) | (simp; omega))))
  have c2 : Below w.heap.size w w2 := c1.trans (d2.mono c1.size)
  have a0_2 : w2.cell? ⟨w.heap.size, 0, none⟩ = some (.slice ao0 L0.length ac0) := (by rw [b2.cell (by first | omega | (simp; done) | (simp; omega))]; go_cell)
  have a1_2 : w2.cell? ⟨w.heap.size, 1, none⟩ = some (.slice ao1 L1.length ac1) := (by rw [b2.cell (by first | omega | (simp; done) | (simp; omega))]; go_cell)
  have al_2 : w.heap.size < w2.heap.size := (by have := b2.size; first | omega | (revert this; simp; done) | (revert this; simp; omega))
  clear a0_1 a1_1 al_1
  clear b2 d2
  have hn0 : ¬ (k + cntM 3 L0 < 0) := by omega
  go_wp2_with fail
  refine (heldIntS_any _ L1 (k + cntM 3 L0) _ (HA1.out.later c2) HL1.out (by omega) (by omega)).mono ?_
  rintro e w3 ⟨rfl, b3⟩
  have d3 : Below w2.heap.size w2 w3 := (Below.trans (by go_grown) (b3.mono (by first | omega | (simp; done) | (simp; omega))))
  have c3 : Below w.heap.size w w3 := c2.trans (d3.mono c2.size)
  have a0_3 : w3.cell? ⟨w.heap.size, 0, none⟩ = some (.slice ao0 L0.length ac0) := (by rw [b3.cell (by first | omega | (simp; done) | (simp; omega))]; go_cell)
  have a1_3 : w3.cell? ⟨w.heap.size, 1, none⟩ = some (.slice ao1 L1.length ac1) := (by rw [b3.cell (by first | omega | (simp; done) | (simp; omega))]; go_cell)
  have al_3 : w.heap.size < w3.heap.size := (by have := b3.size; first | omega | (revert this; simp; done) | (revert this; simp; omega))
  clear a0_2 a1_2 al_2
  clear b3 d3
  have hn1 : ¬ (k + cntM 3 L0 + cntM 1 L1 < 0) := by omega
  go_wp2
  go_ret
  exact ⟨by simp, c3⟩

/-- The lists of a Cache read so. -/
structure RSCache (w : World) (v0 v1 : Value) (L0 L1 : List KD) : Prop where
  h0 : RdM 4 3 true w v0 L0
  h1 : RdM 1 1 false w v1 L1
theorem RSCache.later {w w' : World} {v0 v1 : Value} {L0 L1 : List KD} (h : RSCache w v0 v1 L0 L1) (hb : Below w.heap.size w w') : RSCache w' v0 v1 L0 L1 := ⟨h.h0.later hb, h.h1.later hb⟩
theorem RSCache.open {w : World} {v0 v1 : Value} {L0 L1 : List KD} (h : RSCache w v0 v1 L0 L1) : ∃ (o0 o1 : Option Addr) (c0 c1 : Nat), v0 = .slice o0 L0.length c0 ∧ v1 = .slice o1 L1.length c1 := by
  obtain ⟨o0, c0, e0, _⟩ := h.h0
  obtain ⟨o1, c1, e1, _⟩ := h.h1
  exact ⟨o0, o1, c0, c1, e0, e1⟩
theorem toCache_rd (a0 a1 : Value) (L0 L1 : List KD) (w : World) (h : RSCache w a0 a1 L0 L1) (hl : ∀ L ∈ [L0, L1], L.length + bulkM L ≤ 1048576) :
    Calls Try.prog 9 #[.agg #[a0, a1]] w fun e w' => (∃ (xo0 xo1 : Option Addr) (xc0 xc1 : Nat), e = .returned (.agg #[.slice xo0 L0.length xc0, .slice xo1 L1.length xc1]) ∧ RSCache w' (.slice xo0 L0.length xc0) (.slice xo1 L1.length xc1) L0 L1) ∧ Below w.heap.size w w' :=
  (toCache_own a0 a1 L0 L1 w h.h0 h.h1 (Nat.le_trans (Nat.le_add_right _ _) (hl L0 (by simp))) (Nat.le_trans (Nat.le_add_right _ _) (hl L1 (by simp))) (fun i hi => Nat.le_trans (bulkM_get L0 i hi) (Nat.le_trans (Nat.le_add_left _ _) (hl L0 (by simp))))).mono fun e w' ⟨he, hb⟩ => by
    obtain ⟨v0, v1, B1, he, q0, q1, _⟩ := he
    have hR : RSCache w' v0 v1 L0 L1 := ⟨q0.rd (by decide) (by decide), q1.rd (by decide) (by decide)⟩
    obtain ⟨o0, o1, c0, c1, rfl, rfl⟩ := hR.open
    exact ⟨⟨_, _, _, _, he, hR⟩, hb⟩
theorem eqCache_rd (a0 a1 b0 b1 : Value) (L0 L1 : List KD) (w : World) (h : RSCache w a0 a1 L0 L1) (h' : RSCache w b0 b1 L0 L1) :
    Calls Try.prog 12 #[.agg #[a0, a1], .agg #[b0, b1]] w fun e w' => e = .returned (.bool true) ∧ Below w.heap.size w w' := eqCache_self a0 a1 b0 b1 L0 L1 w h.h0 h.h1 h'.h0 h'.h1
theorem szCache_rd (a0 a1 : Value) (L0 L1 : List KD) (left : Int) (w : World) (h : RSCache w a0 a1 L0 L1) (h0 : 0 ≤ left) (h1 : left ≤ 1048576) :
    Calls Try.prog 7 #[.agg #[a0, a1], .int .i64 left] w fun e w' => SzD [L0, L1] left e ∧ Below w.heap.size w w' := szCache_all a0 a1 L0 L1 left w h.h0 h.h1 h0 h1
end Go.Proofs.Ytnenlnadmdlcfaa
