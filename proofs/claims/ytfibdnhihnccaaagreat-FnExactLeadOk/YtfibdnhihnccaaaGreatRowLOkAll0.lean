/- Proved here: FnExactLeadOk returns true for every lead and every part (no condition); what it was handed reads as before. -/
import Derived.Test.YtfibdnhihnccaaaGreatGrA
import Derived.Test.YtfibdnhihnccaaaGreatKIntent
import Derived.BigQuiet
import Derived.Test.YtfibdnhihnccaaaGreatS4b
import Derived.Test.YtfibdnhihnccaaaGreatSShard
import Derived.Test.YtfibdnhihnccaaaGreatGrB
import Derived.Test.YtfibdnhihnccaaaGreatGrC
import Derived.Test.YtfibdnhihnccaaaGreatKw
import Derived.Lib.QuietBelow
import Derived.Deep.RegionHeld3
import Derived.Test.YtfibdnhihnccaaaGreatS4n
import Derived.Test.YtfibdnhihnccaaaGreatGrD
import Derived.Test.YtfibdnhihnccaaaGreatCd
import Derived.Laws.ResultCell
import Derived.BigRegionIn
import Derived.Test.YtfibdnhihnccaaaGreatS4e
import Derived.Test.YtfibdnhihnccaaaGreatS4i
import Derived.Test.YtfibdnhihnccaaaGreatS4s
import Derived.Deep.Cut
import Derived.ProofKit
import Derived.Lib.SmallJoins
import Derived.ChangeArms
/- Part: The law's own helpers of a tier: contracts. Written by a program (gti.py). -/
namespace Go.Proofs.YtfibdnhihnccaaaGreat
open Go.RowKit
attribute [local go_sem ↓] Go.wp_at_zero Go.wp_at_succ

theorem frozen_agree {w w' : World} {p : Addr} (hb : w'.heap[p.block]? = w.heap[p.block]?) (h : w.frozen? p = false) : w'.frozen? p = false := by
  simp only [World.frozen?] at h ⊢; rw [hb]; exact h
/-- Two Booleans, the first k of them. -/
def upB (a b : Bool) (k : Nat) : Bool × Bool := (if 0 < k then a else false, if 1 < k then b else false)
/-- The two lists of a cache, owned from block B on, apart from each other. -/
def Own2 (B : Nat) (w : World) (v0 v1 : Value) (L0 L1 : List KD) : Prop :=
  ∃ B1, OwnM 68 4 3 true w (Span B B1) v0 L0 ∧ OwnM 3 1 1 false w (Span B1 w.heap.size) v1 L1 ∧ B ≤ B1 ∧ B1 ≤ w.heap.size
theorem Own2.rd {B : Nat} {w : World} {v0 v1 : Value} {L0 L1 : List KD} (h : Own2 B w v0 v1 L0 L1) : RSCache w v0 v1 L0 L1 := by
  obtain ⟨B1, h0, h1, _, _⟩ := h
  exact ⟨h0.rd (by decide) (by decide), h1.rd (by decide) (by decide)⟩
theorem Own2.set {B : Nat} {w : World} {v0 v1 : Value} {L0 L1 : List KD} (h : Own2 B w v0 v1 L0 L1) {p : Addr} (hp : p.block < B) (u : Value) : Own2 B (w.setCell p u) v0 v1 L0 L1 := by
  obtain ⟨B1, h0, h1, e0, e1⟩ := h
  exact ⟨B1, h0.set (fun q => by have := q.1; omega) u, by have := h1.set (p := p) (fun q => by have := q.1; omega) u; simpa using this, e0, by simpa using e1⟩
theorem Own2.wide {B B' : Nat} {w : World} {v0 v1 : Value} {L0 L1 : List KD} (h : Own2 B w v0 v1 L0 L1) (hb : B' ≤ B) : Own2 B' w v0 v1 L0 L1 := by
  obtain ⟨B1, h0, h1, e0, e1⟩ := h
  exact ⟨B1, h0.mono (fun b q _ => ⟨Nat.le_trans hb q.1, q.2⟩), h1, Nat.le_trans hb e0, e1⟩
theorem toCache_two (a0 a1 : Value) (L0 L1 : List KD) (w : World) (h : RSCache w a0 a1 L0 L1) (hl : ∀ L ∈ [L0, L1], L.length + bulkM L ≤ 1048576) :
    Calls Tryz.prog 21 #[.agg #[a0, a1]] w fun e w' => (∃ (xo0 xo1 : Option Addr) (xc0 xc1 : Nat), e = .returned (.agg #[.slice xo0 L0.length xc0, .slice xo1 L1.length xc1]) ∧ Own2 w.heap.size w' (.slice xo0 L0.length xc0) (.slice xo1 L1.length xc1) L0 L1) ∧ Below w.heap.size w w' :=
  (toCache_own a0 a1 L0 L1 w h.h0 h.h1 (Nat.le_trans (Nat.le_add_right _ _) (hl L0 (by simp))) (Nat.le_trans (Nat.le_add_right _ _) (hl L1 (by simp))) (fun i hi => Nat.le_trans (bulkM_get L0 i hi) (Nat.le_trans (Nat.le_add_left _ _) (hl L0 (by simp))))).mono fun e w' ⟨he, hb⟩ => by
    obtain ⟨v0, v1, B1, he, q0, q1, e0, e1⟩ := he
    have hO : Own2 w.heap.size w' v0 v1 L0 L1 := ⟨B1, q0, q1, e0, e1⟩
    obtain ⟨o0, o1, c0, c1, rfl, rfl⟩ := hO.rd.open
    exact ⟨⟨_, _, _, _, he, hO⟩, hb⟩
end Go.Proofs.YtfibdnhihnccaaaGreat

/- Part: The law's own helpers of one who leads: contracts. Written by a program (gld.py). -/
namespace Go.Proofs.YtfibdnhihnccaaaGreat
open Go.RowKit
attribute [local go_sem ↓] Go.wp_at_zero Go.wp_at_succ

set_option maxRecDepth 100000 in
set_option maxHeartbeats 4000000 in
theorem eqLead_rd (i0 : Int) (q0 : Bool) (va0 va1 vb0 vb1 : Value) (L0 L1 : List KD) (w : World) (ha : RSCache w va0 va1 L0 L1) (hb : RSCache w vb0 vb1 L0 L1) :
    Calls Tryz.prog 10 #[.agg #[.int .i64 i0, .bool q0, va0, va1], .agg #[.int .i64 i0, .bool q0, vb0, vb1]] w fun e w' => e = .returned (.bool true) ∧ Below w.heap.size w w' := by
  have HA := hid ha
  have HB := hid hb
  obtain ⟨ao0, ao1, ac0, ac1, rfl, rfl⟩ := ha.open
  obtain ⟨bo0, bo1, bc0, bc1, rfl, rfl⟩ := hb.open
  clear ha hb
  go_enter Tryz.func10, Tryz.ntmps10
  go_wp2_with fail
  generalize hW1 : ((w.alloc (.cells #[.int .i64 i0, .bool q0, .slice ao0 L0.length ac0, .slice ao1 L1.length ac1] 42)).alloc (.cells #[.int .i64 i0, .bool q0, .slice bo0 L0.length bc0, .slice bo1 L1.length bc1] 42)) = w1
  have a0_1 : w1.cell? ⟨w.heap.size, 0, none⟩ = some (.int .i64 i0) := by subst hW1; go_cell
  have a1_1 : w1.cell? ⟨w.heap.size, 1, none⟩ = some (.bool q0) := by subst hW1; go_cell
  have a2_1 : w1.cell? ⟨w.heap.size, 2, none⟩ = some (.slice ao0 L0.length ac0) := by subst hW1; go_cell
  have a3_1 : w1.cell? ⟨w.heap.size, 3, none⟩ = some (.slice ao1 L1.length ac1) := by subst hW1; go_cell
  have al_1 : w.heap.size < w1.heap.size := by subst hW1; first | (simp; done) | (simp; omega)
  have b0_1 : w1.cell? ⟨w.heap.size + 1, 0, none⟩ = some (.int .i64 i0) := by subst hW1; go_cell
  have b1_1 : w1.cell? ⟨w.heap.size + 1, 1, none⟩ = some (.bool q0) := by subst hW1; go_cell
  have b2_1 : w1.cell? ⟨w.heap.size + 1, 2, none⟩ = some (.slice bo0 L0.length bc0) := by subst hW1; go_cell
  have b3_1 : w1.cell? ⟨w.heap.size + 1, 3, none⟩ = some (.slice bo1 L1.length bc1) := by subst hW1; go_cell
  have bl_1 : w.heap.size + 1 < w1.heap.size := by subst hW1; first | (simp; done) | (simp; omega)
  have c1 : Below w.heap.size w w1 := by subst hW1; go_grown
  have s1 : w1.heap.size = w.heap.size + 2 := by subst hW1; simp
  clear hW1
  have qa0_1 := cell_regrown a0_1
  have qa1_1 := cell_regrown a1_1
  have qa2_1 := cell_regrown a2_1
  have qa3_1 := cell_regrown a3_1
  have qb0_1 := cell_regrown b0_1
  have qb1_1 := cell_regrown b1_1
  have qb2_1 := cell_regrown b2_1
  have qb3_1 := cell_regrown b3_1
  refine (eqCache_rd _ _ _ _ L0 L1 _ (HA.out.later c1) (HB.out.later c1)).mono ?_
  rintro e w2 ⟨rfl, b2⟩
  have d2 : Below w1.heap.size w1 w2 := (Below.trans (by go_grown) (b2.mono (by first | omega | (simp; done) | (simp; omega))))
  have c2 : Below w.heap.size w w2 := c1.trans (d2.mono c1.size)
  have a0_2 : w2.cell? ⟨w.heap.size, 0, none⟩ = some (.int .i64 i0) := (by rw [b2.cell (by first | omega | (simp; done) | (simp; omega))]; go_cell)
  have a1_2 : w2.cell? ⟨w.heap.size, 1, none⟩ = some (.bool q0) := (by rw [b2.cell (by first | omega | (simp; done) | (simp; omega))]; go_cell)
  have a2_2 : w2.cell? ⟨w.heap.size, 2, none⟩ = some (.slice ao0 L0.length ac0) := (by rw [b2.cell (by first | omega | (simp; done) | (simp; omega))]; go_cell)
  have a3_2 : w2.cell? ⟨w.heap.size, 3, none⟩ = some (.slice ao1 L1.length ac1) := (by rw [b2.cell (by first | omega | (simp; done) | (simp; omega))]; go_cell)
  have al_2 : w.heap.size < w2.heap.size := (by have := b2.size; first | omega | (revert this; simp; done) | (revert this; simp; omega))
  have b0_2 : w2.cell? ⟨w.heap.size + 1, 0, none⟩ = some (.int .i64 i0) := (by rw [b2.cell (by first | omega | (simp; done) | (simp; omega))]; go_cell)
  have b1_2 : w2.cell? ⟨w.heap.size + 1, 1, none⟩ = some (.bool q0) := (by rw [b2.cell (by first | omega | (simp; done) | (simp; omega))]; go_cell)
  have b2_2 : w2.cell? ⟨w.heap.size + 1, 2, none⟩ = some (.slice bo0 L0.length bc0) := (by rw [b2.cell (by first | omega | (simp; done) | (simp; omega))]; go_cell)
  have b3_2 : w2.cell? ⟨w.heap.size + 1, 3, none⟩ = some (.slice bo1 L1.length bc1) := (by rw [b2.cell (by first | omega | (simp; done) | (simp; omega))]; go_cell)
  have bl_2 : w.heap.size + 1 < w2.heap.size := (by have := b2.size; first | omega | (revert this; simp; done) | (revert this; simp; omega))
  clear a0_1 a1_1 a2_1 a3_1 al_1 b0_1 b1_1 b2_1 b3_1 bl_1
  clear b2 d2
  go_wp2
  go_ret
  exact ⟨by simp, c2⟩

set_option maxRecDepth 100000 in
set_option maxHeartbeats 4000000 in
theorem szLead_rd (i0 : Int) (q0 : Bool) (va0 va1 : Value) (L0 L1 : List KD) (left : Int) (w : World) (ha : RSCache w va0 va1 L0 L1) (h0 : 0 ≤ left) (h1 : left ≤ 1048576) :
    Calls Tryz.prog 4 #[.agg #[.int .i64 i0, .bool q0, va0, va1], .int .i64 left] w fun e w' => SzD [L0, L1] left e ∧ Below w.heap.size w w' := by
  have HA := hid ha
  obtain ⟨ao0, ao1, ac0, ac1, rfl, rfl⟩ := ha.open
  clear ha
  go_enter Tryz.func4, Tryz.ntmps4
  go_wp2_with fail
  generalize hW1 : (w.alloc (.cells #[.int .i64 i0, .bool q0, .slice ao0 L0.length ac0, .slice ao1 L1.length ac1] 27)) = w1
  have a0_1 : w1.cell? ⟨w.heap.size, 0, none⟩ = some (.int .i64 i0) := by subst hW1; go_cell
  have a1_1 : w1.cell? ⟨w.heap.size, 1, none⟩ = some (.bool q0) := by subst hW1; go_cell
  have a2_1 : w1.cell? ⟨w.heap.size, 2, none⟩ = some (.slice ao0 L0.length ac0) := by subst hW1; go_cell
  have a3_1 : w1.cell? ⟨w.heap.size, 3, none⟩ = some (.slice ao1 L1.length ac1) := by subst hW1; go_cell
  have al_1 : w.heap.size < w1.heap.size := by subst hW1; first | (simp; done) | (simp; omega)
  have c1 : Below w.heap.size w w1 := by subst hW1; go_grown
  have s1 : w1.heap.size = w.heap.size + 1 := by subst hW1; simp
  clear hW1
  have qa0_1 := cell_regrown a0_1
  have qa1_1 := cell_regrown a1_1
  have qa2_1 := cell_regrown a2_1
  have qa3_1 := cell_regrown a3_1
  refine (szCache_rd _ _ L0 L1 left _ (HA.out.later c1) h0 h1).mono ?_
  rintro e w2 ⟨hs, b2⟩
  have d2 : Below w1.heap.size w1 w2 := (Below.trans (by go_grown) (b2.mono (by first | omega | (simp; done) | (simp; omega))))
  have c2 : Below w.heap.size w w2 := c1.trans (d2.mono c1.size)
  have a0_2 : w2.cell? ⟨w.heap.size, 0, none⟩ = some (.int .i64 i0) := (by rw [b2.cell (by first | omega | (simp; done) | (simp; omega))]; go_cell)
  have a1_2 : w2.cell? ⟨w.heap.size, 1, none⟩ = some (.bool q0) := (by rw [b2.cell (by first | omega | (simp; done) | (simp; omega))]; go_cell)
  have a2_2 : w2.cell? ⟨w.heap.size, 2, none⟩ = some (.slice ao0 L0.length ac0) := (by rw [b2.cell (by first | omega | (simp; done) | (simp; omega))]; go_cell)
  have a3_2 : w2.cell? ⟨w.heap.size, 3, none⟩ = some (.slice ao1 L1.length ac1) := (by rw [b2.cell (by first | omega | (simp; done) | (simp; omega))]; go_cell)
  have al_2 : w.heap.size < w2.heap.size := (by have := b2.size; first | omega | (revert this; simp; done) | (revert this; simp; omega))
  clear a0_1 a1_1 a2_1 a3_1 al_1
  clear b2 d2
  rcases hs with ⟨r, rfl, hr0, hr1, hA⟩ | rfl
  · have HLA := hid hA
    have hr2 : ¬ (r < 0) := by omega
    have HR1 := hid hr1
    clear hA hr1
    go_wp2
    go_ret
    exact ⟨Or.inl ⟨r, by simp, hr0, HR1.out, HLA.out⟩, c2⟩
  · go_wp2
    go_ret
    exact ⟨Or.inr (by simp), c2⟩

set_option maxRecDepth 100000 in
set_option maxHeartbeats 8000000 in
theorem toLead_rd (i0 : Int) (q0 : Bool) (va0 va1 : Value) (L0 L1 : List KD) (w : World) (ha : RSCache w va0 va1 L0 L1) (hl : ∀ L ∈ [L0, L1], L.length + bulkM L ≤ 1048576) :
    Calls Tryz.prog 7 #[.agg #[.int .i64 i0, .bool q0, va0, va1]] w fun e w' => (∃ (xo0 xo1 : Option Addr) (xc0 xc1 : Nat), e = .returned (.agg #[.int .i64 i0, .bool q0, .slice xo0 L0.length xc0, .slice xo1 L1.length xc1]) ∧ RSCache w' (.slice xo0 L0.length xc0) (.slice xo1 L1.length xc1) L0 L1) ∧ Below w.heap.size w w' := by
  have HA := hid ha
  have HL := hid hl
  clear hl
  obtain ⟨ao0, ao1, ac0, ac1, rfl, rfl⟩ := ha.open
  clear ha
  go_enter Tryz.func7, Tryz.ntmps7
  go_wp2_with fail
  generalize hW1 : (((w.alloc (.cells #[.int .i64 i0, .bool q0, .slice ao0 L0.length ac0, .slice ao1 L1.length ac1] 27)).alloc (.cells #[.int .i64 0, .bool false, .slice none 0 0, .slice none 0 0] 42)).alloc (.cells #[.int .i64 i0, .bool q0, .slice none 0 0, .slice none 0 0] 42)) = w1
  have a0_1 : w1.cell? ⟨w.heap.size, 0, none⟩ = some (.int .i64 i0) := by subst hW1; go_cell
  have a1_1 : w1.cell? ⟨w.heap.size, 1, none⟩ = some (.bool q0) := by subst hW1; go_cell
  have a2_1 : w1.cell? ⟨w.heap.size, 2, none⟩ = some (.slice ao0 L0.length ac0) := by subst hW1; go_cell
  have a3_1 : w1.cell? ⟨w.heap.size, 3, none⟩ = some (.slice ao1 L1.length ac1) := by subst hW1; go_cell
  have al_1 : w.heap.size < w1.heap.size := by subst hW1; first | (simp; done) | (simp; omega)
  have r0_1 : w1.cell? ⟨w.heap.size + 1, 0, none⟩ = some (.int .i64 0) := by subst hW1; go_cell
  have rf0_1 : w1.frozen? ⟨w.heap.size + 1, 0, none⟩ = false := by subst hW1; (first | go_cell | (simp [World.frozen?, World.alloc]; done) | rfl)
  have r1_1 : w1.cell? ⟨w.heap.size + 1, 1, none⟩ = some (.bool false) := by subst hW1; go_cell
  have rf1_1 : w1.frozen? ⟨w.heap.size + 1, 1, none⟩ = false := by subst hW1; (first | go_cell | (simp [World.frozen?, World.alloc]; done) | rfl)
  have r2_1 : w1.cell? ⟨w.heap.size + 1, 2, none⟩ = some (.slice none 0 0) := by subst hW1; go_cell
  have rf2_1 : w1.frozen? ⟨w.heap.size + 1, 2, none⟩ = false := by subst hW1; (first | go_cell | (simp [World.frozen?, World.alloc]; done) | rfl)
  have r3_1 : w1.cell? ⟨w.heap.size + 1, 3, none⟩ = some (.slice none 0 0) := by subst hW1; go_cell
  have rf3_1 : w1.frozen? ⟨w.heap.size + 1, 3, none⟩ = false := by subst hW1; (first | go_cell | (simp [World.frozen?, World.alloc]; done) | rfl)
  have rl_1 : w.heap.size + 1 < w1.heap.size := by subst hW1; first | (simp; done) | (simp; omega)
  have o0_1 : w1.cell? ⟨w.heap.size + 1 + 1, 0, none⟩ = some (.int .i64 i0) := by subst hW1; go_cell
  have of0_1 : w1.frozen? ⟨w.heap.size + 1 + 1, 0, none⟩ = false := by subst hW1; (first | go_cell | (simp [World.frozen?, World.alloc]; done) | rfl)
  have o1_1 : w1.cell? ⟨w.heap.size + 1 + 1, 1, none⟩ = some (.bool q0) := by subst hW1; go_cell
  have of1_1 : w1.frozen? ⟨w.heap.size + 1 + 1, 1, none⟩ = false := by subst hW1; (first | go_cell | (simp [World.frozen?, World.alloc]; done) | rfl)
  have o2_1 : w1.cell? ⟨w.heap.size + 1 + 1, 2, none⟩ = some (.slice none 0 0) := by subst hW1; go_cell
  have of2_1 : w1.frozen? ⟨w.heap.size + 1 + 1, 2, none⟩ = false := by subst hW1; (first | go_cell | (simp [World.frozen?, World.alloc]; done) | rfl)
  have o3_1 : w1.cell? ⟨w.heap.size + 1 + 1, 3, none⟩ = some (.slice none 0 0) := by subst hW1; go_cell
  have of3_1 : w1.frozen? ⟨w.heap.size + 1 + 1, 3, none⟩ = false := by subst hW1; (first | go_cell | (simp [World.frozen?, World.alloc]; done) | rfl)
  have ol_1 : w.heap.size + 1 + 1 < w1.heap.size := by subst hW1; first | (simp; done) | (simp; omega)
  have c1 : Below w.heap.size w w1 := by subst hW1; go_grown
  have s1 : w1.heap.size = w.heap.size + 3 := by subst hW1; simp
  clear hW1
  have qa0_1 := cell_regrown a0_1
  have qa1_1 := cell_regrown a1_1
  have qa2_1 := cell_regrown a2_1
  have qa3_1 := cell_regrown a3_1
  have qr0_1 := cell_regrown r0_1
  have qr1_1 := cell_regrown r1_1
  have qr2_1 := cell_regrown r2_1
  have qr3_1 := cell_regrown r3_1
  have qo0_1 := cell_regrown o0_1
  have qo1_1 := cell_regrown o1_1
  have qo2_1 := cell_regrown o2_1
  have qo3_1 := cell_regrown o3_1
  have hz1 : w.heap.size + 3 ≤ w1.heap.size := by omega
  clear s1
  refine (toCache_two _ _ L0 L1 _ (HA.out.later c1) HL.out).mono ?_
  rintro e w2 ⟨⟨xo0, xo1, xc0, xc1, rfl, ho⟩, b2⟩
  have HO := hid ho
  clear ho
  have d2 : Below w1.heap.size w1 w2 := (Below.trans (by go_grown) (b2.mono (by first | omega | (simp; done) | (simp; omega))))
  have c2 : Below w.heap.size w w2 := c1.trans (d2.mono c1.size)
  have a0_2 : w2.cell? ⟨w.heap.size, 0, none⟩ = some (.int .i64 i0) := (by rw [b2.cell (by first | omega | (simp; done) | (simp; omega))]; go_cell)
  have a1_2 : w2.cell? ⟨w.heap.size, 1, none⟩ = some (.bool q0) := (by rw [b2.cell (by first | omega | (simp; done) | (simp; omega))]; go_cell)
  have a2_2 : w2.cell? ⟨w.heap.size, 2, none⟩ = some (.slice ao0 L0.length ac0) := (by rw [b2.cell (by first | omega | (simp; done) | (simp; omega))]; go_cell)
  have a3_2 : w2.cell? ⟨w.heap.size, 3, none⟩ = some (.slice ao1 L1.length ac1) := (by rw [b2.cell (by first | omega | (simp; done) | (simp; omega))]; go_cell)
  have al_2 : w.heap.size < w2.heap.size := (by have := b2.size; first | omega | (revert this; simp; done) | (revert this; simp; omega))
  have r0_2 : w2.cell? ⟨w.heap.size + 1, 0, none⟩ = some (.int .i64 0) := (by rw [b2.cell (by first | omega | (simp; done) | (simp; omega))]; go_cell)
  have rf0_2 : w2.frozen? ⟨w.heap.size + 1, 0, none⟩ = false := (by rw [b2.frozen (by first | omega | (simp; done) | (simp; omega))]; (first | go_cell | (simp [World.frozen?, World.alloc]; done) | rfl))
  have r1_2 : w2.cell? ⟨w.heap.size + 1, 1, none⟩ = some (.bool false) := (by rw [b2.cell (by first | omega | (simp; done) | (simp; omega))]; go_cell)
  have rf1_2 : w2.frozen? ⟨w.heap.size + 1, 1, none⟩ = false := (by rw [b2.frozen (by first | omega | (simp; done) | (simp; omega))]; (first | go_cell | (simp [World.frozen?, World.alloc]; done) | rfl))
  have r2_2 : w2.cell? ⟨w.heap.size + 1, 2, none⟩ = some (.slice none 0 0) := (by rw [b2.cell (by first | omega | (simp; done) | (simp; omega))]; go_cell)
  have rf2_2 : w2.frozen? ⟨w.heap.size + 1, 2, none⟩ = false := (by rw [b2.frozen (by first | omega | (simp; done) | (simp; omega))]; (first | go_cell | (simp [World.frozen?, World.alloc]; done) | rfl))
  have r3_2 : w2.cell? ⟨w.heap.size + 1, 3, none⟩ = some (.slice none 0 0) := (by rw [b2.cell (by first | omega | (simp; done) | (simp; omega))]; go_cell)
  have rf3_2 : w2.frozen? ⟨w.heap.size + 1, 3, none⟩ = false := (by rw [b2.frozen (by first | omega | (simp; done) | (simp; omega))]; (first | go_cell | (simp [World.frozen?, World.alloc]; done) | rfl))
  have rl_2 : w.heap.size + 1 < w2.heap.size := (by have := b2.size; first | omega | (revert this; simp; done) | (revert this; simp; omega))
  have o0_2 : w2.cell? ⟨w.heap.size + 1 + 1, 0, none⟩ = some (.int .i64 i0) := (by rw [b2.cell (by first | omega | (simp; done) | (simp; omega))]; go_cell)
  have of0_2 : w2.frozen? ⟨w.heap.size + 1 + 1, 0, none⟩ = false := (by rw [b2.frozen (by first | omega | (simp; done) | (simp; omega))]; (first | go_cell | (simp [World.frozen?, World.alloc]; done) | rfl))
  have o1_2 : w2.cell? ⟨w.heap.size + 1 + 1, 1, none⟩ = some (.bool q0) := (by rw [b2.cell (by first | omega | (simp; done) | (simp; omega))]; go_cell)
  have of1_2 : w2.frozen? ⟨w.heap.size + 1 + 1, 1, none⟩ = false := (by rw [b2.frozen (by first | omega | (simp; done) | (simp; omega))]; (first | go_cell | (simp [World.frozen?, World.alloc]; done) | rfl))
  have o2_2 : w2.cell? ⟨w.heap.size + 1 + 1, 2, none⟩ = some (.slice none 0 0) := (by rw [b2.cell (by first | omega | (simp; done) | (simp; omega))]; go_cell)
  have of2_2 : w2.frozen? ⟨w.heap.size + 1 + 1, 2, none⟩ = false := (by rw [b2.frozen (by first | omega | (simp; done) | (simp; omega))]; (first | go_cell | (simp [World.frozen?, World.alloc]; done) | rfl))
  have o3_2 : w2.cell? ⟨w.heap.size + 1 + 1, 3, none⟩ = some (.slice none 0 0) := (by rw [b2.cell (by first | omega | (simp; done) | (simp; omega))]; go_cell)
  have of3_2 : w2.frozen? ⟨w.heap.size + 1 + 1, 3, none⟩ = false := (by rw [b2.frozen (by first | omega | (simp; done) | (simp; omega))]; (first | go_cell | (simp [World.frozen?, World.alloc]; done) | rfl))
  have ol_2 : w.heap.size + 1 + 1 < w2.heap.size := (by have := b2.size; first | omega | (revert this; simp; done) | (revert this; simp; omega))
  clear a0_1 a1_1 a2_1 a3_1 al_1 r0_1 rf0_1 r1_1 rf1_1 r2_1 rf2_1 r3_1 rf3_1 rl_1 o0_1 of0_1 o1_1 of1_1 o2_1 of2_1 o3_1 of3_1 ol_1
  clear b2 d2
  go_wp2
  have HF' := ((((((HO.out.set (p := ⟨w.heap.size + 1 + 1, 2, none⟩) (by show w.heap.size + 1 + 1 < _; omega) (.slice xo0 L0.length xc0)).set (p := ⟨w.heap.size + 1 + 1, 3, none⟩) (by show w.heap.size + 1 + 1 < _; omega) (.slice xo1 L1.length xc1)).set (p := ⟨w.heap.size + 1, 0, none⟩) (by show w.heap.size + 1 < _; omega) (.int .i64 i0)).set (p := ⟨w.heap.size + 1, 1, none⟩) (by show w.heap.size + 1 < _; omega) (.bool q0)).set (p := ⟨w.heap.size + 1, 2, none⟩) (by show w.heap.size + 1 < _; omega) (.slice xo0 L0.length xc0)).set (p := ⟨w.heap.size + 1, 3, none⟩) (by show w.heap.size + 1 < _; omega) (.slice xo1 L1.length xc1))
  have HB' := ((((((c2.setCell (p := ⟨w.heap.size + 1 + 1, 2, none⟩) (by show w.heap.size ≤ w.heap.size + 1 + 1; omega) (.slice xo0 L0.length xc0)).setCell (p := ⟨w.heap.size + 1 + 1, 3, none⟩) (by show w.heap.size ≤ w.heap.size + 1 + 1; omega) (.slice xo1 L1.length xc1)).setCell (p := ⟨w.heap.size + 1, 0, none⟩) (by show w.heap.size ≤ w.heap.size + 1; omega) (.int .i64 i0)).setCell (p := ⟨w.heap.size + 1, 1, none⟩) (by show w.heap.size ≤ w.heap.size + 1; omega) (.bool q0)).setCell (p := ⟨w.heap.size + 1, 2, none⟩) (by show w.heap.size ≤ w.heap.size + 1; omega) (.slice xo0 L0.length xc0)).setCell (p := ⟨w.heap.size + 1, 3, none⟩) (by show w.heap.size ≤ w.heap.size + 1; omega) (.slice xo1 L1.length xc1))
  generalize hW7 : ((((((w2.setCell ⟨w.heap.size + 1 + 1, 2, none⟩ (.slice xo0 L0.length xc0)).setCell ⟨w.heap.size + 1 + 1, 3, none⟩ (.slice xo1 L1.length xc1)).setCell ⟨w.heap.size + 1, 0, none⟩ (.int .i64 i0)).setCell ⟨w.heap.size + 1, 1, none⟩ (.bool q0)).setCell ⟨w.heap.size + 1, 2, none⟩ (.slice xo0 L0.length xc0)).setCell ⟨w.heap.size + 1, 3, none⟩ (.slice xo1 L1.length xc1)) = w7 at HF' HB' ⊢
  have e0 : w7.cell? ⟨w.heap.size + 1, 0, none⟩ = some (.int .i64 i0) := by subst hW7; go_cell
  have e1 : w7.cell? ⟨w.heap.size + 1, 1, none⟩ = some (.bool q0) := by subst hW7; go_cell
  have e2 : w7.cell? ⟨w.heap.size + 1, 2, none⟩ = some (.slice xo0 L0.length xc0) := by subst hW7; go_cell
  have e3 : w7.cell? ⟨w.heap.size + 1, 3, none⟩ = some (.slice xo1 L1.length xc1) := by subst hW7; go_cell
  clear hW7
  exact bodyPost_ret (v := .agg #[.int .i64 i0, .bool q0, .slice xo0 L0.length xc0, .slice xo1 L1.length xc1]) (by simp [results, Tryz.results7, go_sem, e0, e1, e2, e3]) rfl ⟨⟨xo0, xo1, xc0, xc1, rfl, HF'.rd⟩, HB'⟩
end Go.Proofs.YtfibdnhihnccaaaGreat

/- Part: impl.writtenAnew, (*truth).toldRows: contracts. -/
namespace Go.Proofs.YtfibdnhihnccaaaGreat
open Go.RowKit
attribute [local go_sem ↓] Go.wp_at_zero Go.wp_at_succ

theorem len2 {x : KD} (h : x.1.length = 2) : x = ([x.1.getD 0 0, x.1.getD 1 0], x.2) := by
  obtain ⟨xs, l⟩ := x
  match xs, h with
  | [a, b], _ => rfl
theorem newAt_put {Lg : List KD} {k : Nat} {key p1 nm : Int} {l : List (Int × Int)} (hx : Lg.getD k kd0 = ([key, p1, nm], l)) : putN (newAt Lg k) key ([(newAt Lg k key).1.getD 0 0 + 1, nm], l) = newAt Lg (k + 1) := by
  have hc : colK Lg k 2 = nm := by rw [colK, hx]; rfl
  rw [newAt_step, hx, hc]
  funext q
  unfold putN
  by_cases e : q = key
  · subst e
    simp [keyK]
  · have e' : ¬ key = q := fun h => e h.symm
    simp [keyK, e, e']
theorem newLog_put {Lg : List KD} {k : Nat} {key p1 nm : Int} {l : List (Int × Int)} (hx : Lg.getD k kd0 = ([key, p1, nm], l)) : newLog Lg k ++ [([key, (newAt Lg k key).1.getD 0 0 + 1, nm], l)] = newLog Lg (k + 1) := by
  rw [newLog_succ, newCom, colK, hx]
  rfl
theorem Tru.zero (w : World) (db : Nat) (sb : Nat) (o1 o2 : Obj) : Tru ((((w.alloc (.map #[] 0)).alloc o1).alloc o2).alloc (.cells #[.int .i64 0, .int .i64 0, .int .i64 0, .map (some w.heap.size), .map (some db), .slice none 0 0, .map (some sb), .slice none 0 0] 160))
    w.heap.size (w.heap.size + 1 + 1 + 1) w.heap.size 0 0 0 0 db (.slice none 0 0) sb (fun _ => ([0, 0], [])) [] (.slice none 0 0) (fun _ => .slice none 0 0) [] (fun _ => .slice none 0 0) := by
  have e : rowOf (fun _ => ([0, 0], [])) (fun _ => .slice none 0 0) = fun _ => none := by
    funext x
    unfold rowOf
    split <;> simp
  refine ⟨⟨by go_cell, by go_cell, by go_cell, by go_cell, by go_cell, by go_cell, by go_cell, by go_cell, fun o => by (first | go_cell | (simp [World.frozen?, World.alloc]; done) | rfl), by simp⟩, ?_, RowC.nil _ _ _, KinC.nil _ _ _, fun k h => absurd rfl h, fun _ _ => rfl, ⟨by simp [Value.ownBlock], by simp [Value.ownBlock]⟩, fun k h => absurd rfl h, fun i hi => absurd hi (Nat.not_lt_zero _), by omega, Nat.le_refl _, by omega⟩
  rw [e]
  exact (MapF.made IsNum w).later ((((Below.refl _ _).alloc (Nat.le_refl _) _).alloc (by simp) _).alloc (by simp) _)
set_option maxRecDepth 100000 in
set_option maxHeartbeats 4000000 in
theorem writtenAnew_any (v : Value) (Lg : List KD) (w : World) (h : RdM 4 3 true w v Lg) (hn : Lg.length ≤ 1000) (hk : ∀ i, i < Lg.length → (Lg.getD i kd0).2.length ≤ 1099511627776) :
    Calls Tryz.prog 83 #[v] w fun e w' => ∃ (K rb db sb : Nat) (lv : Value) (us : Int → Value) (xs : List Value) (ts : Nat → Value), e = .returned (.pointer (some ⟨K, 0, none⟩)) ∧ Tru w' w.heap.size K rb Lg.length 0 0 0 db (.slice none 0 0) sb (newAt Lg Lg.length) (newLog Lg Lg.length) lv us xs ts ∧ Below w.heap.size w w' := by
  obtain ⟨ao, cap, rfl, hml, hc⟩ := h
  have HC := hid hc
  have HK := hid hk
  clear hc hk
  unfold maxLen at hml
  go_enter Tryz.func83, Tryz.ntmps83
  have hmm := @run_makeMap Tryz.prog
  go_wp2
  go_loopw [13] (fun i wr => ∃ (k : Nat) (lv : Value) (us : Int → Value) (xs : List Value) (ts : Nat → Value), k ≤ Lg.length ∧ i = .int .i64 k ∧ Hid (Tru wr w.heap.size (w.heap.size + 1 + 1 + 1) w.heap.size k 0 0 0 (w.heap.size + 1) (.slice none 0 0) (w.heap.size + 1 + 1) (newAt Lg k) (newLog Lg k) lv us xs ts) ∧ Hid (Below w.heap.size w wr)) (fun i _ => Lg.length - (intOf i).toNat)
  case atStart => exact ⟨0, _, _, _, _, Nat.zero_le _, rfl, hid (Tru.zero w (w.heap.size + 1) (w.heap.size + 1 + 1) (.map #[] 0) (.map #[] 0)), hid (by go_grown)⟩
  case round =>
    obtain ⟨k, lv, us, xs, ts, hk, rfl, hT, hbel⟩ := hrel
    obtain ⟨w50, hw50⟩ : ∃ y, y = wr := ⟨_, rfl⟩
    subst hw50
    by_cases hlt : k < Lg.length
    · obtain ⟨b, o, rfl, hb, hcc⟩ := HC.out (by omega)
      obtain ⟨key, p1, nm, l, u, hx, e0, e1, e2, e3, hu⟩ := atK_3k (hcc k hlt)
      have HU := hid hu
      have HX := hid hx
      have hll := HK.out k hlt
      rw [hx] at hll
      have HLL := hid hll
      obtain ⟨uo, uc, rfl, _⟩ := hu
      have hki : (k : Int) < (Lg.length : Int) := by omega
      have x0 := (hbel.out.cell (p := ⟨b, o + k * 4, none⟩) hb).trans e0
      have x1 := (hbel.out.cell (p := ⟨b, o + k * 4 + 1, none⟩) hb).trans e1
      have x2 := (hbel.out.cell (p := ⟨b, o + k * 4 + 2, none⟩) hb).trans e2
      have x3 := (hbel.out.cell (p := ⟨b, o + k * 4 + 3, none⟩) hb).trans e3
      have c50 : Below w.heap.size w w50 := hbel.out
      have HLT := hid hlt
      clear hx hll hcc e0 e1 e2 e3 hlt hmm
      go_wp2_with fail
      generalize hW51 : (w50.alloc (.cells #[.int .i64 key, .int .i64 p1, .int .i64 nm, .slice uo l.length uc] 119)) = w51
      have m0_51 : w51.cell? ⟨w50.heap.size, 0, none⟩ = some (.int .i64 key) := by subst hW51; go_cell
      have m1_51 : w51.cell? ⟨w50.heap.size, 1, none⟩ = some (.int .i64 p1) := by subst hW51; go_cell
      have m2_51 : w51.cell? ⟨w50.heap.size, 2, none⟩ = some (.int .i64 nm) := by subst hW51; go_cell
      have m3_51 : w51.cell? ⟨w50.heap.size, 3, none⟩ = some (.slice uo l.length uc) := by subst hW51; go_cell
      have ml_51 : w50.heap.size < w51.heap.size := by subst hW51; simp
      have d51 : Below w50.heap.size w50 w51 := by subst hW51; go_grown
      clear hW51
      have c51 : Below w.heap.size w w51 := c50.trans (d51.mono c50.size)
      have H51 := hid (hT.out.later d51)
      clear x0 x1 x2 x3
      refine (commit_any w w51 w.heap.size (w.heap.size + 1 + 1 + 1) w.heap.size k 0 0 0 (w.heap.size + 1) (.slice none 0 0) (w.heap.size + 1 + 1) (newAt Lg k) (newLog Lg k) lv us xs ts key nm (.slice uo l.length uc) l H51.out HU.out HLL.out c51 (Nat.le_refl _) (by rw [newLog_length]; omega) (newAt_le Lg k key).1 (by have := (newAt_le Lg k key).2; omega)).mono ?_
      rintro e w52 ⟨rfl, ⟨lv', us', xs', ts', hT2⟩, b52⟩
      rw [newAt_put HX.out, newLog_put HX.out] at hT2
      have HT2 := hid hT2
      have HB2 := hid (c51.trans b52)
      clear hT2 b52
      go_wp2_with fail
      go_roundw
      case rel => exact ⟨k + 1, lv', us', xs', ts', by have := HLT.out; omega, by go_num, HT2, HB2⟩
      case measure =>
        have := HLT.out
        simp [intOf]
        omega
    · obtain rfl : k = Lg.length := by omega
      go_wp2
      go_ret
      exact ⟨_, _, _, _, _, _, _, _, by simp, hT.out, hbel.out⟩
set_option maxRecDepth 100000 in
set_option maxHeartbeats 4000000 in
theorem toldRows_any (w : World) (B K rb n : Nat) (p f st : Int) (db : Nat) (iv : Value) (sb : Nat) (N : Int → KD) (M : List KD) (lv : Value) (us : Int → Value) (xs : List Value) (ts : Nat → Value)
    (h : Tru w B K rb n p f st db iv sb N M lv us xs ts) (h2 : ∀ k, (N k).1.length = 2) :
    Calls Tryz.prog 87 #[.pointer (some ⟨K, 0, none⟩)] w fun e w' => (∃ v, e = .returned v ∧ RdM 3 2 true w' v ((List.range 24).map fun (k : Nat) => N (k : Int))) ∧ Below w.heap.size w w' := by
  have H := hid h
  have H2 := hid h2
  obtain ⟨i0, hi, hz0, hz1, hz2⟩ := info_parts Tryz.info70
  have hby : i0.bytes * 24 ≤ 281474976710656 := by rw [hz2]; omega
  have hKw := h.var.lt
  clear h h2
  go_enter Tryz.func87, Tryz.ntmps87
  go_wp2_with (first | (at_make; refine wpList_make_full _ rfl (.const (.int .i64 24)) (.const (.int .i64 24)) 44 rfl w.heap.size 70 i0 _ 3 Tryz.underlying44 hi hz0 hz1 .i64 .i64 _ _ 24 rfl rfl rfl rfl hby (by decide) (Nat.le_refl _) ?_; intro w1 hown hgrow; have HOW := hid hown; have HGR := hid hgrow; clear hown hgrow))
  have c1 : Below w.heap.size w w1 := (Below.refl _ w).grown HGR.out (Nat.le_refl _) (by simp)
  have HR1 := hid (RowsC.made HOW.out (W := w1) rfl (Nat.le_refl _))
  clear hi hz0 hz1 hz2 hby HOW HGR
  go_loopw [8] (fun i wr => ∃ (j : Nat) (vs : Nat → Value), j ≤ 24 ∧ i = .int .i64 j ∧ Hid (RowsC wr w.heap.size (fun k => if k < j then N (k : Int) else ([0, 0], [])) vs) ∧ Hid (∀ k, k < 24 → Rd w (vs k) (if k < j then N (k : Int) else ([0, 0], [])).2) ∧ Hid (Below w.heap.size w wr)) (fun i _ => 24 - (intOf i).toNat)
  case atStart => exact ⟨0, _, Nat.zero_le _, rfl, hid (by simpa using HR1.out), hid (fun k _ => by simpa using Rd.nil w none 0), hid c1⟩
  case round =>
    obtain ⟨j, vs, hj, rfl, hrow, hrd, hbel⟩ := hrel
    obtain ⟨w50, hw50⟩ : ∃ y, y = wr := ⟨_, rfl⟩
    subst hw50
    by_cases hlt : j < 24
    · have hT := H.out.later hbel.out
      have k3 := hT.var.c3
      have hlk := hT.lookup (j : Int)
      have hown := H.out.kinOf (j : Int)
      obtain ⟨zo, zc, hz, _⟩ := hown.rd
      have HU := hid hown.rd
      have hx := len2 (H2.out (j : Int))
      obtain ⟨na, ha⟩ : ∃ z, (N (j : Int)).1.getD 0 0 = z := ⟨_, rfl⟩
      obtain ⟨nb, hb⟩ : ∃ z, (N (j : Int)).1.getD 1 0 = z := ⟨_, rfl⟩
      rw [ha, hb] at hlk hx
      rw [ha] at hz HU
      have hN : (fun k => if k = j then ([na, nb], (N (j : Int)).2) else (if k < j then N (k : Int) else ([0, 0], []))) = (fun k => if k < j + 1 then N (k : Int) else (([0, 0], []) : KD)) := by
        funext k
        by_cases e : k = j
        · subst e
          simp only [if_true, show k < k + 1 from Nat.lt_succ_self k]
          exact hx.symm
        · simp only [if_neg e]
          by_cases e2 : k < j
          · simp only [if_pos e2, show k < j + 1 from by omega, if_true]
          · simp only [if_neg e2, show ¬ k < j + 1 from by omega, if_false]
      have HN := hid hN
      rw [hz] at hlk HU
      have HLJ : Hid ((N (j : Int)).2.length = (N (j : Int)).2.length) := hid rfl
      generalize (N (j : Int)).2 = lj at hlk HU HN
      have hji : (j : Int) < 24 := by omega
      have f0 := hrow.out.frz (j * 3)
      have f1 := hrow.out.frz (j * 3 + 1)
      have f2 := hrow.out.frz (j * 3 + 2)
      have x0 := hrow.out.ver j hlt
      have x1 := hrow.out.num j hlt
      have x2 := hrow.out.kin j hlt
      have hG := hrow.out.lt
      have HLT := hid hlt
      clear hz hown hT hx hlt ha hb hN HLJ
      go_wp2_with fail
      go_roundw
      case rel =>
        have hr2 := hrow.out.put j na nb (.slice zo lj.length zc) lj
        rw [HN.out] at hr2
        have hd2 : ∀ k, k < 24 → Rd w ((fun k => if k = j then .slice zo lj.length zc else vs k) k) (if k < j + 1 then N (k : Int) else ([0, 0], [])).2 := fun k hk => by
          rw [← congrFun HN.out k]
          by_cases e : k = j
          · simp only [if_pos e]; exact HU.out
          · simp only [if_neg e]; exact hrd.out k hk
        exact ⟨j + 1, _, by have := HLT.out; omega, by go_num, hid hr2, hid hd2, hid (((hbel.out.setCell (p := ⟨w.heap.size, j * 3, none⟩) (Nat.le_refl _) _).setCell (p := ⟨w.heap.size, j * 3 + 1, none⟩) (Nat.le_refl _) _).setCell (p := ⟨w.heap.size, j * 3 + 2, none⟩) (Nat.le_refl _) _)⟩
      case measure =>
        have := HLT.out
        simp [intOf]
        omega
    · obtain rfl : j = 24 := by omega
      go_wp2
      go_ret
      refine ⟨⟨.slice (some ⟨w.heap.size, 0, none⟩) 24 24, by simp, ?_⟩, hbel.out⟩
      have := hrow.out.rd (fun k hk => by simp only [if_pos hk]; exact H2.out _) (fun k hk => (hrd.out k hk).later hbel.out)
      rwa [List.map_congr_left (g := fun (k : Nat) => N (k : Int)) (fun k hk => if_pos (by simpa using hk))] at this
end Go.Proofs.YtfibdnhihnccaaaGreat

/- Part: Comparisons of a shard's lists: contracts. Written by a program (gsb.py). -/
namespace Go.Proofs.YtfibdnhihnccaaaGreat
open Go.RowKit
attribute [local go_sem ↓] Go.wp_at_zero Go.wp_at_succ

theorem sVSame_k (n m : Int) (va vb : Value) (la lb : List (Int × Int)) (w : World) (ha : Rd w va la) (hb : Rd w vb lb) {c : Bool} (hc : (n == m && eqL la lb) = c) :
    Calls Tryz.prog 74 #[.agg #[.int .i64 n, va], .agg #[.int .i64 m, vb]] w fun e w' => e = .returned (.bool c) ∧ Below w.heap.size w w' := hc ▸ specVSame_any n m va vb la lb w ha hb
theorem iVSame_k (n m : Int) (va vb : Value) (la lb : List (Int × Int)) (w : World) (ha : Rd w va la) (hb : Rd w vb lb) {c : Bool} (hc : (n == m && eqL la lb) = c) :
    Calls Tryz.prog 115 #[.agg #[.int .i64 n, va], .agg #[.int .i64 m, vb]] w fun e w' => e = .returned (.bool c) ∧ Below w.heap.size w w' := hc ▸ implVSame_any n m va vb la lb w ha hb
theorem eqK_3 (p0 p1 p2 t0 t1 t2 : Int) (la lb : List (Int × Int)) : eqK ([p0, p1, p2], la) ([t0, t1, t2], lb) = (decide (p0 = t0) && (decide (p1 = t1) && (p2 == t2 && eqL la lb))) := by
  by_cases h0 : p0 = t0 <;> by_cases h1 : p1 = t1 <;> by_cases h2 : p2 = t2 <;> simp [eqK, eqL, h0, h1, h2]
theorem eqK_2 (p0 p1 t0 t1 : Int) (la lb : List (Int × Int)) : eqK ([p0, p1], la) ([t0, t1], lb) = (decide (p0 = t0) && (p1 == t1 && eqL la lb)) := by
  by_cases h0 : p0 = t0 <;> by_cases h1 : p1 = t1 <;> simp [eqK, eqL, h0, h1]

set_option maxRecDepth 100000 in
set_option maxHeartbeats 2000000 in
theorem implCommitSame_any (p0 p1 p2 t0 t1 t2 : Int) (la lb : List (Int × Int)) (va vb : Value) (w : World) (ha : Rd w va la) (hb : Rd w vb lb) :
    Calls Tryz.prog 85 #[.agg #[.int .i64 p0, .int .i64 p1, .int .i64 p2, va], .agg #[.int .i64 t0, .int .i64 t1, .int .i64 t2, vb]] w fun e w' => e = .returned (.bool (eqK ([p0, p1, p2], la) ([t0, t1, t2], lb))) ∧ Below w.heap.size w w' := by
  rw [eqK_3]
  have HA := hid ha
  have HB := hid hb
  obtain ⟨ao, ac, hv, _⟩ := ha
  subst hv
  obtain ⟨bo, bc, hv, _⟩ := hb
  subst hv
  by_cases h0 : p0 = t0
  · subst h0
    by_cases h1 : p1 = t1
    · subst h1
      simp only [decide_true, Bool.true_and]
      cases hc : (p2 == t2 && eqL la lb) with
      | true =>
        go_enter Tryz.func85, Tryz.ntmps85
        go_wp2_with (first | (go_at_call 115; refine (iVSame_k p2 t2 _ _ la lb _ (HA.out.later (by go_grown)) (HB.out.later (by go_grown)) hc).mono ?_; rintro e w2 ⟨rfl, b2⟩; have bb : Below w.heap.size w w2 := (Below.trans (by go_grown) (b2.mono (by first | omega | (simp; done) | (simp; omega))))))
        all_goals
          go_ret
          exact ⟨by simp, bb⟩
      | false =>
        go_enter Tryz.func85, Tryz.ntmps85
        go_wp2_with (first | (go_at_call 115; refine (iVSame_k p2 t2 _ _ la lb _ (HA.out.later (by go_grown)) (HB.out.later (by go_grown)) hc).mono ?_; rintro e w2 ⟨rfl, b2⟩; have bb : Below w.heap.size w w2 := (Below.trans (by go_grown) (b2.mono (by first | omega | (simp; done) | (simp; omega))))))
        all_goals
          go_ret
          exact ⟨by simp, bb⟩
    · have hne : (p1 == t1) = false := by simpa using h1
      go_enter Tryz.func85, Tryz.ntmps85
      go_wp2_with fail
      go_ret
      exact ⟨by simp [h1], by go_grown⟩
  · have hne : (p0 == t0) = false := by simpa using h0
    go_enter Tryz.func85, Tryz.ntmps85
    go_wp2_with fail
    go_ret
    exact ⟨by simp [h0], by go_grown⟩

set_option maxRecDepth 100000 in
set_option maxHeartbeats 2000000 in
theorem implRowSame_any (p0 p1 t0 t1 : Int) (la lb : List (Int × Int)) (va vb : Value) (w : World) (ha : Rd w va la) (hb : Rd w vb lb) :
    Calls Tryz.prog 88 #[.agg #[.int .i64 p0, .int .i64 p1, va], .agg #[.int .i64 t0, .int .i64 t1, vb]] w fun e w' => e = .returned (.bool (eqK ([p0, p1], la) ([t0, t1], lb))) ∧ Below w.heap.size w w' := by
  rw [eqK_2]
  have HA := hid ha
  have HB := hid hb
  obtain ⟨ao, ac, hv, _⟩ := ha
  subst hv
  obtain ⟨bo, bc, hv, _⟩ := hb
  subst hv
  by_cases h0 : p0 = t0
  · subst h0
    simp only [decide_true, Bool.true_and]
    cases hc : (p1 == t1 && eqL la lb) with
    | true =>
      go_enter Tryz.func88, Tryz.ntmps88
      go_wp2_with (first | (go_at_call 115; refine (iVSame_k p1 t1 _ _ la lb _ (HA.out.later (by go_grown)) (HB.out.later (by go_grown)) hc).mono ?_; rintro e w2 ⟨rfl, b2⟩; have bb : Below w.heap.size w w2 := (Below.trans (by go_grown) (b2.mono (by first | omega | (simp; done) | (simp; omega))))))
      all_goals
        go_ret
        exact ⟨by simp, bb⟩
    | false =>
      go_enter Tryz.func88, Tryz.ntmps88
      go_wp2_with (first | (go_at_call 115; refine (iVSame_k p1 t1 _ _ la lb _ (HA.out.later (by go_grown)) (HB.out.later (by go_grown)) hc).mono ?_; rintro e w2 ⟨rfl, b2⟩; have bb : Below w.heap.size w w2 := (Below.trans (by go_grown) (b2.mono (by first | omega | (simp; done) | (simp; omega))))))
      all_goals
        go_ret
        exact ⟨by simp, bb⟩
  · have hne : (p0 == t0) = false := by simpa using h0
    go_enter Tryz.func88, Tryz.ntmps88
    go_wp2_with fail
    go_ret
    exact ⟨by simp [h0], by go_grown⟩

set_option maxRecDepth 100000 in
set_option maxHeartbeats 2000000 in
theorem equalRows_any (va vb : Value) (la lb : List KD) (w : World) (ha : RdM 3 2 true w va la) (hb : RdM 3 2 true w vb lb) :
    Calls Tryz.prog 86 #[va, vb, .func (.func 88) #[] #[]] w fun e w' => e = .returned (.bool (eqM la lb)) ∧ Below w.heap.size w w' := by
  obtain ⟨aa, ca, rfl, hla, hca⟩ := ha
  obtain ⟨ab, cb, rfl, hlb, hcb⟩ := hb
  unfold maxLen at hla hlb
  by_cases hne : ((la.length : Int) != (lb.length : Int)) = true
  · have : la ≠ lb := fun h => by simp [h] at hne
    go_enter Tryz.func86, Tryz.ntmps86
    go_wp2
    go_ret
    exact ⟨by simp [eqM_no this], by go_grown⟩
  · have hlen : la.length = lb.length := by simp at hne; omega
    have HL : Hid (la.length = lb.length) := hlen
    clear hlen
    go_enter Tryz.func86, Tryz.ntmps86
    go_wp2
    go_loopw [17] (fun i wr => ∃ k : Nat, k ≤ la.length ∧ i = .int .i64 k ∧ Hid (la.take k = lb.take k) ∧ Below w.heap.size w wr) (fun i _ => la.length - (intOf i).toNat)
    case atStart => exact ⟨0, Nat.zero_le _, rfl, rfl, Below.refl _ _⟩
    case round =>
      obtain ⟨k, hk, rfl, hpre, hbel⟩ := hrel
      by_cases hlt : k < la.length
      · obtain ⟨ba, oa, rfl, hba, hcca⟩ := hca (by omega)
        obtain ⟨bb, ob, rfl, hbb, hccb⟩ := hcb (by have := HL.out; omega)
        have hkb : (k : Int) < (lb.length : Int) := by have := HL.out; omega
        obtain ⟨p0, p1, lx, ux, hx, c0, c1, c2, hux⟩ := atK_2k ((hcca k hlt).later hba hbel)
        obtain ⟨t0, t1, ly, uy, hy, d0, d1, d2, huy⟩ := atK_2k ((hccb k (by have := HL.out; omega)).later hbb hbel)
        have hnext : Hid (la.getD k kd0 = lb.getD k kd0 → la.take (k + 1) = lb.take (k + 1)) := hid (fun h => take_more la lb kd0 k hlt (by have := HL.out; omega) hpre h)
        have hdiff : Hid (¬ la.getD k kd0 = lb.getD k kd0 → eqM la lb = false) := hid (fun h => eqM_no (fun e => h (by rw [e])))
        rw [hx, hy] at hnext hdiff
        have hsz := (hbel).size
        have HUA := hid hux
        have HUB := hid huy
        clear hux huy
        clear hcca hccb hx hy
        have hba' : ba < wr.heap.size := by omega
        have hbb' : bb < wr.heap.size := by omega
        clear hca hcb
        obtain ⟨uao, uac, huav, _⟩ := HUA.out
        obtain ⟨ubo, ubc, hubv, _⟩ := HUB.out
        subst huav
        subst hubv
        go_wp2_with fail
        refine (implRowSame_any p0 p1 t0 t1 lx ly _ _ _ (HUA.out.later (by go_grown)) (HUB.out.later (by go_grown))).mono ?_
        rintro e w2 ⟨rfl, b2⟩
        have d2' : Below wr.heap.size wr w2 := (Below.trans (by go_grown) (b2.mono (by first | omega | (simp; done) | (simp; omega))))
        have c2' := hbel.trans (d2'.mono hsz)
        clear b2 d2'
        cases hxy : eqK ([p0, p1], lx) ([t0, t1], ly) with
        | true =>
          have hN := hid (hnext.out (eqK_iff.1 hxy))
          clear hnext hdiff
          go_wp2
          go_roundw
          case rel => exact ⟨k + 1, by omega, by go_num, hN, c2'⟩
          case measure => simp [intOf]; omega
        | false =>
          have hN := hid (hdiff.out (fun e => by rw [eqK_iff.2 e] at hxy; cases hxy))
          clear hnext hdiff
          go_wp2
          go_ret
          exact ⟨by simp [hN.out], c2'⟩
      · have hall : eqM la lb = true := eqM_yes (by have h1 := HL.out; have h2 := hpre.out; rwa [List.take_of_length_le (by omega), List.take_of_length_le (by omega)] at h2)
        go_wp2
        go_ret
        exact ⟨by simp [hall], hbel⟩

set_option maxRecDepth 100000 in
set_option maxHeartbeats 2000000 in
theorem equalCommits_any (va vb : Value) (la lb : List KD) (w : World) (ha : RdM 4 3 true w va la) (hb : RdM 4 3 true w vb lb) :
    Calls Tryz.prog 84 #[va, vb, .func (.func 85) #[] #[]] w fun e w' => e = .returned (.bool (eqM la lb)) ∧ Below w.heap.size w w' := by
  obtain ⟨aa, ca, rfl, hla, hca⟩ := ha
  obtain ⟨ab, cb, rfl, hlb, hcb⟩ := hb
  unfold maxLen at hla hlb
  by_cases hne : ((la.length : Int) != (lb.length : Int)) = true
  · have : la ≠ lb := fun h => by simp [h] at hne
    go_enter Tryz.func84, Tryz.ntmps84
    go_wp2
    go_ret
    exact ⟨by simp [eqM_no this], by go_grown⟩
  · have hlen : la.length = lb.length := by simp at hne; omega
    have HL : Hid (la.length = lb.length) := hlen
    clear hlen
    go_enter Tryz.func84, Tryz.ntmps84
    go_wp2
    go_loopw [17] (fun i wr => ∃ k : Nat, k ≤ la.length ∧ i = .int .i64 k ∧ Hid (la.take k = lb.take k) ∧ Below w.heap.size w wr) (fun i _ => la.length - (intOf i).toNat)
    case atStart => exact ⟨0, Nat.zero_le _, rfl, rfl, Below.refl _ _⟩
    case round =>
      obtain ⟨k, hk, rfl, hpre, hbel⟩ := hrel
      by_cases hlt : k < la.length
      · obtain ⟨ba, oa, rfl, hba, hcca⟩ := hca (by omega)
        obtain ⟨bb, ob, rfl, hbb, hccb⟩ := hcb (by have := HL.out; omega)
        have hkb : (k : Int) < (lb.length : Int) := by have := HL.out; omega
        obtain ⟨p0, p1, p2, lx, ux, hx, c0, c1, c2, c3, hux⟩ := atK_3k ((hcca k hlt).later hba hbel)
        obtain ⟨t0, t1, t2, ly, uy, hy, d0, d1, d2, d3, huy⟩ := atK_3k ((hccb k (by have := HL.out; omega)).later hbb hbel)
        have hnext : Hid (la.getD k kd0 = lb.getD k kd0 → la.take (k + 1) = lb.take (k + 1)) := hid (fun h => take_more la lb kd0 k hlt (by have := HL.out; omega) hpre h)
        have hdiff : Hid (¬ la.getD k kd0 = lb.getD k kd0 → eqM la lb = false) := hid (fun h => eqM_no (fun e => h (by rw [e])))
        rw [hx, hy] at hnext hdiff
        have hsz := (hbel).size
        have HUA := hid hux
        have HUB := hid huy
        clear hux huy
        clear hcca hccb hx hy
        have hba' : ba < wr.heap.size := by omega
        have hbb' : bb < wr.heap.size := by omega
        clear hca hcb
        obtain ⟨uao, uac, huav, _⟩ := HUA.out
        obtain ⟨ubo, ubc, hubv, _⟩ := HUB.out
        subst huav
        subst hubv
        go_wp2_with fail
        refine (implCommitSame_any p0 p1 p2 t0 t1 t2 lx ly _ _ _ (HUA.out.later (by go_grown)) (HUB.out.later (by go_grown))).mono ?_
        rintro e w2 ⟨rfl, b2⟩
        have d2' : Below wr.heap.size wr w2 := (Below.trans (by go_grown) (b2.mono (by first | omega | (simp; done) | (simp; omega))))
        have c2' := hbel.trans (d2'.mono hsz)
        clear b2 d2'
        cases hxy : eqK ([p0, p1, p2], lx) ([t0, t1, t2], ly) with
        | true =>
          have hN := hid (hnext.out (eqK_iff.1 hxy))
          clear hnext hdiff
          go_wp2
          go_roundw
          case rel => exact ⟨k + 1, by omega, by go_num, hN, c2'⟩
          case measure => simp [intOf]; omega
        | false =>
          have hN := hid (hdiff.out (fun e => by rw [eqK_iff.2 e] at hxy; cases hxy))
          clear hnext hdiff
          go_wp2
          go_ret
          exact ⟨by simp [hN.out], c2'⟩
      · have hall : eqM la lb = true := eqM_yes (by have h1 := HL.out; have h2 := hpre.out; rwa [List.take_of_length_le (by omega), List.take_of_length_le (by omega)] at h2)
        go_wp2
        go_ret
        exact ⟨by simp [hall], hbel⟩

end Go.Proofs.YtfibdnhihnccaaaGreat

/- Part: impl.logRight: contract. -/
namespace Go.Proofs.YtfibdnhihnccaaaGreat
open Go.RowKit
attribute [local go_sem ↓] Go.wp_at_zero Go.wp_at_succ

theorem logB_is {p : Int} {R Lg : List KD} (h3 : ∀ i, i < Lg.length → (Lg.getD i kd0).1.length = 3) (h60 : Lg.length ≤ 60) (hk : ∀ i, i < Lg.length → partOf (keyK (Lg.getD i kd0)) = p ∧ okV (keyK (Lg.getD i kd0)) (colK Lg i 2) (Lg.getD i kd0).2 = true) :
    logB p R Lg = (eqM Lg (newLog Lg Lg.length) && eqM R (newRows Lg)) := by
  rw [Bool.eq_iff_iff, ← logB_new h3, Bool.and_eq_true]
  simp only [eqM, decide_eq_true_eq]
  exact ⟨fun h => h.2.2, fun h => ⟨h60, hk, h⟩⟩
theorem Tru.log {w : World} {B K rb n : Nat} {p f st : Int} {db : Nat} {iv : Value} {sb : Nat} {N : Int → KD} {M : List KD} {lv : Value} {us : Int → Value} {xs : List Value} {ts : Nat → Value} (h : Tru w B K rb n p f st db iv sb N M lv us xs ts) : RdM 4 3 true w lv M :=
  h.row.rdM (fun i hi => (h.kin.own i hi).rd)
theorem equalCommits_is {va vb : Value} {la lb : List KD} {w : World} {r : Bool} (hr : eqM la lb = r) (ha : RdM 4 3 true w va la) (hb : RdM 4 3 true w vb lb) :
    Calls Tryz.prog 84 #[va, vb, .func (.func 85) #[] #[]] w fun e w' => e = .returned (.bool r) ∧ Below w.heap.size w w' := hr ▸ equalCommits_any va vb la lb w ha hb
theorem equalRows_is {va vb : Value} {la lb : List KD} {w : World} {r : Bool} (hr : eqM la lb = r) (ha : RdM 3 2 true w va la) (hb : RdM 3 2 true w vb lb) :
    Calls Tryz.prog 86 #[va, vb, .func (.func 88) #[] #[]] w fun e w' => e = .returned (.bool r) ∧ Below w.heap.size w w' := hr ▸ equalRows_any va vb la lb w ha hb
set_option maxRecDepth 100000 in
set_option maxHeartbeats 8000000 in
theorem logRight_any (p f st : Int) (v0 v1 v2 v3 v4 : Value) (R Lg : List KD) (w : World) (hR : RdM 3 2 true w v0 R) (hL : RdM 4 3 true w v4 Lg) :
    Calls Tryz.prog 58 #[.agg #[.int .i64 p, .int .i64 f, .int .i64 st, v0, v1, v2, v3, v4]] w fun e w' => e = .returned (.bool (logB p R Lg)) ∧ Below w.heap.size w w' := by
  have HR := hid hR
  have HL := hid hL
  obtain ⟨ro, rc, rfl, _⟩ := hR
  obtain ⟨lo, lc, rfl, hml, hcl⟩ := hL
  have HC := hid hcl
  have h3 : ∀ i, i < Lg.length → (Lg.getD i kd0).1.length = 3 := fun i hi => by
    obtain ⟨b, o, _, _, hcc⟩ := hcl (by omega)
    exact (hcc i hi).len
  have H3 := hid h3
  clear h3 hcl
  unfold maxLen at hml
  go_enter Tryz.func58, Tryz.ntmps58
  by_cases h60 : Lg.length ≤ 60
  case neg =>
    have hno : logB p R Lg = false := logB_len (fun q => h60 q.2)
    have g1 : decide ((Lg.length : Int) > 60) = true := by simp; omega
    go_wp2
    go_ret
    exact ⟨by simp [hno], by go_grown⟩
  have g1 : decide ((Lg.length : Int) > 60) = false := by simp; omega
  go_wp2_with fail
  generalize hW1 : (w.alloc (.cells #[.int .i64 p, .int .i64 f, .int .i64 st, .slice ro R.length rc, v1, v2, v3, .slice lo Lg.length lc] 50)) = w1
  have a0_1 : w1.cell? ⟨w.heap.size, 0, none⟩ = some (.int .i64 p) := by subst hW1; go_cell
  have a1_1 : w1.cell? ⟨w.heap.size, 1, none⟩ = some (.int .i64 f) := by subst hW1; go_cell
  have a2_1 : w1.cell? ⟨w.heap.size, 2, none⟩ = some (.int .i64 st) := by subst hW1; go_cell
  have a3_1 : w1.cell? ⟨w.heap.size, 3, none⟩ = some (.slice ro R.length rc) := by subst hW1; go_cell
  have a4_1 : w1.cell? ⟨w.heap.size, 4, none⟩ = some (v1) := by subst hW1; go_cell
  have a5_1 : w1.cell? ⟨w.heap.size, 5, none⟩ = some (v2) := by subst hW1; go_cell
  have a6_1 : w1.cell? ⟨w.heap.size, 6, none⟩ = some (v3) := by subst hW1; go_cell
  have a7_1 : w1.cell? ⟨w.heap.size, 7, none⟩ = some (.slice lo Lg.length lc) := by subst hW1; go_cell
  have al_1 : w.heap.size < w1.heap.size := by subst hW1; first | (simp; done) | (simp; omega)
  have c1 : Below w.heap.size w w1 := by subst hW1; go_grown
  have s1 : w1.heap.size = w.heap.size + 1 := by subst hW1; simp
  clear hW1
  have qa0_1 := cell_regrown a0_1
  have qa1_1 := cell_regrown a1_1
  have qa2_1 := cell_regrown a2_1
  have qa3_1 := cell_regrown a3_1
  have qa4_1 := cell_regrown a4_1
  have qa5_1 := cell_regrown a5_1
  have qa6_1 := cell_regrown a6_1
  have qa7_1 := cell_regrown a7_1
  clear qa0_1 qa1_1 qa2_1 qa3_1 qa4_1 qa5_1 qa6_1 qa7_1 g1
  go_loopw [13] (fun i wr => ∃ k : Nat, k ≤ Lg.length ∧ i = .int .i64 k ∧ Hid (∀ i, i < k → partOf (keyK (Lg.getD i kd0)) = p ∧ okV (keyK (Lg.getD i kd0)) (colK Lg i 2) (Lg.getD i kd0).2 = true) ∧ Hid (Below w1.heap.size w1 wr)) (fun i _ => Lg.length - (intOf i).toNat)
  case atStart => exact ⟨0, Nat.zero_le _, rfl, hid (fun j hj => absurd hj (Nat.not_lt_zero j)), hid (Below.refl _ _)⟩
  case round =>
    obtain ⟨k, hk, rfl, hpre, hbel⟩ := hrel
    obtain ⟨w50, hw50⟩ : ∃ y, y = wr := ⟨_, rfl⟩
    subst hw50
    have b50 := hbel.out
    have d50 : Below w1.heap.size w1 w50 := (Below.trans (by go_grown) (b50.mono (by first | omega | (simp; done) | (simp; omega))))
    have c50 : Below w.heap.size w w50 := c1.trans (d50.mono c1.size)
    have a0_50 : w50.cell? ⟨w.heap.size, 0, none⟩ = some (.int .i64 p) := (by rw [b50.cell (by first | omega | (simp; done) | (simp; omega))]; go_cell)
    have a1_50 : w50.cell? ⟨w.heap.size, 1, none⟩ = some (.int .i64 f) := (by rw [b50.cell (by first | omega | (simp; done) | (simp; omega))]; go_cell)
    have a2_50 : w50.cell? ⟨w.heap.size, 2, none⟩ = some (.int .i64 st) := (by rw [b50.cell (by first | omega | (simp; done) | (simp; omega))]; go_cell)
    have a3_50 : w50.cell? ⟨w.heap.size, 3, none⟩ = some (.slice ro R.length rc) := (by rw [b50.cell (by first | omega | (simp; done) | (simp; omega))]; go_cell)
    have a4_50 : w50.cell? ⟨w.heap.size, 4, none⟩ = some (v1) := (by rw [b50.cell (by first | omega | (simp; done) | (simp; omega))]; go_cell)
    have a5_50 : w50.cell? ⟨w.heap.size, 5, none⟩ = some (v2) := (by rw [b50.cell (by first | omega | (simp; done) | (simp; omega))]; go_cell)
    have a6_50 : w50.cell? ⟨w.heap.size, 6, none⟩ = some (v3) := (by rw [b50.cell (by first | omega | (simp; done) | (simp; omega))]; go_cell)
    have a7_50 : w50.cell? ⟨w.heap.size, 7, none⟩ = some (.slice lo Lg.length lc) := (by rw [b50.cell (by first | omega | (simp; done) | (simp; omega))]; go_cell)
    have al_50 : w.heap.size < w50.heap.size := (by have := b50.size; first | omega | (revert this; simp; done) | (revert this; simp; omega))
    clear a0_1 a1_1 a2_1 a3_1 a4_1 a5_1 a6_1 a7_1 al_1
    clear b50 d50
    by_cases hlt : k < Lg.length
    · obtain ⟨b, o, rfl, hb, hcc⟩ := HC.out (by omega)
      obtain ⟨key, p1, nm, l, u, hx, e0, e1, e2, e3, hu⟩ := atK_3k ((hcc k hlt).later hb c50)
      have HU := hid hu
      have HNO : Hid (¬ (partOf key = p ∧ okV key nm l = true) → logB p R Lg = false) := hid (fun q => logB_no hlt (fun z => q ⟨by have := z.1; rwa [hx] at this, by have := z.2.1; rwa [colK, hx] at this⟩))
      have HMORE : Hid (partOf key = p → okV key nm l = true → ∀ i, i < k + 1 → partOf (keyK (Lg.getD i kd0)) = p ∧ okV (keyK (Lg.getD i kd0)) (colK Lg i 2) (Lg.getD i kd0).2 = true) := hid (fun h1 h2 i hi => by
        by_cases e : i = k
        · subst e
          rw [colK, hx]
          exact ⟨h1, h2⟩
        · exact hpre.out i (by omega))
      obtain ⟨uo, uc, rfl, _⟩ := hu
      have hki : (k : Int) < (Lg.length : Int) := by omega
      have HLT := hid hlt
      have HB1 := hid hbel.out
      clear hx hcc hlt hpre hbel
      go_upto_region 6 with fail
      generalize hW51 : (w50.alloc (.cells #[.int .i64 key, .int .i64 p1, .int .i64 nm, .slice uo l.length uc] 119)) = w51
      have m0_51 : w51.cell? ⟨w50.heap.size, 0, none⟩ = some (.int .i64 key) := by subst hW51; go_cell
      have m1_51 : w51.cell? ⟨w50.heap.size, 1, none⟩ = some (.int .i64 p1) := by subst hW51; go_cell
      have m2_51 : w51.cell? ⟨w50.heap.size, 2, none⟩ = some (.int .i64 nm) := by subst hW51; go_cell
      have m3_51 : w51.cell? ⟨w50.heap.size, 3, none⟩ = some (.slice uo l.length uc) := by subst hW51; go_cell
      have ml_51 : w50.heap.size < w51.heap.size := by subst hW51; simp
      have d51 : Below w50.heap.size w50 w51 := by subst hW51; go_grown
      clear hW51
      have c51 : Below w.heap.size w w51 := c50.trans (d51.mono c50.size)
      have a0_51 : w51.cell? ⟨w.heap.size, 0, none⟩ = some (.int .i64 p) := (by rw [d51.cell (by first | omega | (simp; done) | (simp; omega))]; go_cell)
      have a1_51 : w51.cell? ⟨w.heap.size, 1, none⟩ = some (.int .i64 f) := (by rw [d51.cell (by first | omega | (simp; done) | (simp; omega))]; go_cell)
      have a2_51 : w51.cell? ⟨w.heap.size, 2, none⟩ = some (.int .i64 st) := (by rw [d51.cell (by first | omega | (simp; done) | (simp; omega))]; go_cell)
      have a3_51 : w51.cell? ⟨w.heap.size, 3, none⟩ = some (.slice ro R.length rc) := (by rw [d51.cell (by first | omega | (simp; done) | (simp; omega))]; go_cell)
      have a4_51 : w51.cell? ⟨w.heap.size, 4, none⟩ = some (v1) := (by rw [d51.cell (by first | omega | (simp; done) | (simp; omega))]; go_cell)
      have a5_51 : w51.cell? ⟨w.heap.size, 5, none⟩ = some (v2) := (by rw [d51.cell (by first | omega | (simp; done) | (simp; omega))]; go_cell)
      have a6_51 : w51.cell? ⟨w.heap.size, 6, none⟩ = some (v3) := (by rw [d51.cell (by first | omega | (simp; done) | (simp; omega))]; go_cell)
      have a7_51 : w51.cell? ⟨w.heap.size, 7, none⟩ = some (.slice (some ⟨b, o, none⟩) Lg.length lc) := (by rw [d51.cell (by first | omega | (simp; done) | (simp; omega))]; go_cell)
      have al_51 : w.heap.size < w51.heap.size := (by have := d51.size; omega)
      clear a0_50 a1_50 a2_50 a3_50 a4_50 a5_50 a6_50 a7_50 al_50
      have HD51 := hid d51
      have HU51 := hid (HU.out.later d51)
      clear e0 e1 e2 e3 a1_51 a2_51 a3_51 a4_51 a5_51 a6_51 a7_51
      have ra0 := cell_regrown a0_51
      have rm0 := cell_regrown m0_51
      have rm2 := cell_regrown m2_51
      have rm3 := cell_regrown m3_51
      have OV := fun (W : World) (h : Rd W (.slice uo l.length uc) l) => implOkV_any key nm _ l W h
      by_cases h0 : partOf key = p
      case neg =>
        have g0 : (partOf key != p) = true := by simpa using h0
        have hno := HNO.out (fun q => h0 q.1)
        refine wp_region_quiet_below (by kernel_rfl) (by kernel_rfl) ?_
        repeat (first | go_big_quiet_skip | (go_big_quiet_want; go_big_quiet_op; first | go_big_quiet_on | go_big_quiet_call (first | (go_at_call 28; exact Calls.regrown_of ((implShard_any _ _).mono fun _ _ h => ⟨h.1, by rw [h.2]; exact Below.refl _ _⟩)))))
        refine wpQuiet_nil ?_
        rintro wq ⟨pq, hwq⟩
        have hq : Below w51.heap.size w51 wq := by rw [hwq]; exact below_regrown _ _ _
        clear hwq pq
        have cq := c51.trans (hq.mono c51.size)
        go_wp2
        go_ret
        exact ⟨by simp [hno], cq⟩
      have g0 : (partOf key != p) = false := by simpa using h0
      cases hv : okV key nm l with
      | false =>
        have hno := HNO.out (fun q => by rw [hv] at q; cases q.2)
        rw [hv] at OV
        clear hv
        refine wp_region_quiet_below (by kernel_rfl) (by kernel_rfl) ?_
        repeat (first | go_big_quiet_skip | (go_big_quiet_want; go_big_quiet_op; first | go_big_quiet_on | go_big_quiet_call (first | (go_at_call 28; exact Calls.regrown_of ((implShard_any _ _).mono fun _ _ h => ⟨h.1, by rw [h.2]; exact Below.refl _ _⟩)) | (go_at_call 82; exact Calls.regrown_of (OV _ (HU51.out.later (below_regrown _ _ _)))))))
        refine wpQuiet_nil ?_
        rintro wq ⟨pq, hwq⟩
        have hq : Below w51.heap.size w51 wq := by rw [hwq]; exact below_regrown _ _ _
        clear hwq pq
        have cq := c51.trans (hq.mono c51.size)
        go_wp2
        go_ret
        exact ⟨by simp [hno], cq⟩
      | true =>
        have HM := hid (HMORE.out h0 hv)
        rw [hv] at OV
        clear hv
        refine wp_region_quiet_below (by kernel_rfl) (by kernel_rfl) ?_
        repeat (first | go_big_quiet_skip | (go_big_quiet_want; go_big_quiet_op; first | go_big_quiet_on | go_big_quiet_call (first | (go_at_call 28; exact Calls.regrown_of ((implShard_any _ _).mono fun _ _ h => ⟨h.1, by rw [h.2]; exact Below.refl _ _⟩)) | (go_at_call 82; exact Calls.regrown_of (OV _ (HU51.out.later (below_regrown _ _ _)))))))
        refine wpQuiet_nil ?_
        rintro wq ⟨pq, hwq⟩
        have hq : Below w51.heap.size w51 wq := by rw [hwq]; exact below_regrown _ _ _
        clear hwq pq
        have HQ := hid (HB1.out.trans ((HD51.out.trans (hq.mono HD51.out.size)).mono HB1.out.size))
        go_wp2_with fail
        go_roundw
        case rel => exact ⟨k + 1, by have := HLT.out; omega, by go_num, HM, HQ⟩
        case measure =>
          have := HLT.out
          simp [intOf]
          omega
    · obtain rfl : k = Lg.length := by omega
      have HIS := hid (logB_is (R := R) H3.out h60 hpre.out)
      have hle : ∀ i, i < Lg.length → (Lg.getD i kd0).2.length ≤ 1099511627776 := fun i hi => Nat.le_trans (okV_le (hpre.out i hi).2) (by decide)
      have HLE := hid hle
      have HB1 := hid hbel.out
      clear hle hpre hbel hlt
      go_wp2_with fail
      refine (writtenAnew_any _ Lg _ (HL.out.later c50) (by omega) HLE.out).mono ?_
      rintro e w60 ⟨K, rb, db, sb, lv, us, xs, ts, rfl, hT, b60⟩
      have d60 : Below w50.heap.size w50 w60 := (Below.trans (by go_grown) (b60.mono (by first | omega | (simp; done) | (simp; omega))))
      have c60 : Below w.heap.size w w60 := c50.trans (d60.mono c50.size)
      have a0_60 : w60.cell? ⟨w.heap.size, 0, none⟩ = some (.int .i64 p) := (by rw [b60.cell (by first | omega | (simp; done) | (simp; omega))]; go_cell)
      have a1_60 : w60.cell? ⟨w.heap.size, 1, none⟩ = some (.int .i64 f) := (by rw [b60.cell (by first | omega | (simp; done) | (simp; omega))]; go_cell)
      have a2_60 : w60.cell? ⟨w.heap.size, 2, none⟩ = some (.int .i64 st) := (by rw [b60.cell (by first | omega | (simp; done) | (simp; omega))]; go_cell)
      have a3_60 : w60.cell? ⟨w.heap.size, 3, none⟩ = some (.slice ro R.length rc) := (by rw [b60.cell (by first | omega | (simp; done) | (simp; omega))]; go_cell)
      have a4_60 : w60.cell? ⟨w.heap.size, 4, none⟩ = some (v1) := (by rw [b60.cell (by first | omega | (simp; done) | (simp; omega))]; go_cell)
      have a5_60 : w60.cell? ⟨w.heap.size, 5, none⟩ = some (v2) := (by rw [b60.cell (by first | omega | (simp; done) | (simp; omega))]; go_cell)
      have a6_60 : w60.cell? ⟨w.heap.size, 6, none⟩ = some (v3) := (by rw [b60.cell (by first | omega | (simp; done) | (simp; omega))]; go_cell)
      have a7_60 : w60.cell? ⟨w.heap.size, 7, none⟩ = some (.slice lo Lg.length lc) := (by rw [b60.cell (by first | omega | (simp; done) | (simp; omega))]; go_cell)
      have al_60 : w.heap.size < w60.heap.size := (by have := b60.size; first | omega | (revert this; simp; done) | (revert this; simp; omega))
      clear a0_50 a1_50 a2_50 a3_50 a4_50 a5_50 a6_50 a7_50 al_50
      have HT := hid hT
      have k7 := hT.var.c7
      obtain ⟨no, nc, hlv, _⟩ := hT.log
      subst hlv
      clear b60 d60 hT
      go_upto_region 10 with fail
      have HL60 := hid (HL.out.later c60)
      have HR60 := hid (HR.out.later c60)
      have HTL := hid HT.out.log
      have hKl := HT.out.var.lt
      cases he : eqM Lg (newLog Lg Lg.length) with
      | false =>
        have hno : logB p R Lg = false := by rw [HIS.out, he, Bool.false_and]
        have HE := hid he
        have rk7 := cell_regrown k7
        have ra3 := cell_regrown a3_60
        have ra7 := cell_regrown a7_60
        clear he
        refine wp_region_quiet_below (by kernel_rfl) (by kernel_rfl) ?_
        repeat (first | go_big_quiet_skip | (go_big_quiet_want; go_big_quiet_op; first | go_big_quiet_on | go_big_quiet_call (first | (go_at_call 84; exact Calls.regrown_of (equalCommits_is HE.out (HL60.out.later (below_regrown _ _ _)) (HTL.out.later (below_regrown _ _ _)))))))
        refine wpQuiet_nil ?_
        rintro wq ⟨pq, hwq⟩
        have hq : Below w60.heap.size w60 wq := by rw [hwq]; exact below_regrown _ _ _
        clear hwq pq
        have cq := c60.trans (hq.mono c60.size)
        go_wp2
        go_ret
        exact ⟨by simp [hno], cq⟩
      | true =>
        obtain ⟨r2, hr2⟩ : ∃ z, eqM R (newRows Lg) = z := ⟨_, rfl⟩
        have hyes : logB p R Lg = r2 := by rw [HIS.out, he, hr2, Bool.true_and]
        have HE := hid he
        have HE2 := hid hr2
        clear he hr2
        have S60 := hid (And.intro a3_60 (And.intro a7_60 k7))
        go_region_held3 (fun w' => w'.cell? ⟨w.heap.size, 3, none⟩ = some (.slice ro R.length rc) ∧ w'.cell? ⟨w.heap.size, 7, none⟩ = some (.slice lo Lg.length lc) ∧ w'.cell? ⟨K, 7, none⟩ = some (.slice no (newLog Lg Lg.length).length nc)) (go_keep) (first
          | (go_at_call 84; refine (equalCommits_is HE.out (HL60.out.later (by go_grown)) (HTL.out.later (by go_grown))).mono ?_; rintro e w61 ⟨rfl, b61⟩; have d61 : Below w60.heap.size w60 w61 := (Below.trans (by go_grown) (b61.mono (by first | omega | (simp; done) | (simp; omega)))); have c61 : Below w.heap.size w w61 := c60.trans (d61.mono c60.size); have a0_61 : w61.cell? ⟨w.heap.size, 0, none⟩ = some (.int .i64 p) := (by rw [b61.cell (by first | omega | (simp; done) | (simp; omega))]; go_cell); have a1_61 : w61.cell? ⟨w.heap.size, 1, none⟩ = some (.int .i64 f) := (by rw [b61.cell (by first | omega | (simp; done) | (simp; omega))]; go_cell); have a2_61 : w61.cell? ⟨w.heap.size, 2, none⟩ = some (.int .i64 st) := (by rw [b61.cell (by first | omega | (simp; done) | (simp; omega))]; go_cell); have a3_61 : w61.cell? ⟨w.heap.size, 3, none⟩ = some (.slice ro R.length rc) := (by rw [b61.cell (by first | omega | (simp; done) | (simp; omega))]; go_cell); have a4_61 : w61.cell? ⟨w.heap.size, 4, none⟩ = some (v1) := (by rw [b61.cell (by first | omega | (simp; done) | (simp; omega))]; go_cell); have a5_61 : w61.cell? ⟨w.heap.size, 5, none⟩ = some (v2) := (by rw [b61.cell (by first | omega | (simp; done) | (simp; omega))]; go_cell); have a6_61 : w61.cell? ⟨w.heap.size, 6, none⟩ = some (v3) := (by rw [b61.cell (by first | omega | (simp; done) | (simp; omega))]; go_cell); have a7_61 : w61.cell? ⟨w.heap.size, 7, none⟩ = some (.slice lo Lg.length lc) := (by rw [b61.cell (by first | omega | (simp; done) | (simp; omega))]; go_cell); have al_61 : w.heap.size < w61.heap.size := (by have := b61.size; first | omega | (revert this; simp; done) | (revert this; simp; omega)); clear a0_60 a1_60 a2_60 a3_60 a4_60 a5_60 a6_60 a7_60 al_60; have k7_61 := (d61.cell (p := ⟨K, 7, none⟩) hKl).trans k7; have HT61 := hid (HT.out.later d61))
          | (go_at_call 87; refine (toldRows_any _ _ K rb _ _ _ _ _ _ _ _ _ _ _ _ _ HT61.out (fun q => newAt_len Lg _ q)).mono ?_; rintro e w62 ⟨⟨rv, rfl, hrd⟩, b62⟩; have d62 : Below w61.heap.size w61 w62 := (Below.trans (by go_grown) (b62.mono (by first | omega | (simp; done) | (simp; omega)))); have c62 : Below w.heap.size w w62 := c61.trans (d62.mono c61.size); have a0_62 : w62.cell? ⟨w.heap.size, 0, none⟩ = some (.int .i64 p) := (by rw [b62.cell (by first | omega | (simp; done) | (simp; omega))]; go_cell); have a1_62 : w62.cell? ⟨w.heap.size, 1, none⟩ = some (.int .i64 f) := (by rw [b62.cell (by first | omega | (simp; done) | (simp; omega))]; go_cell); have a2_62 : w62.cell? ⟨w.heap.size, 2, none⟩ = some (.int .i64 st) := (by rw [b62.cell (by first | omega | (simp; done) | (simp; omega))]; go_cell); have a3_62 : w62.cell? ⟨w.heap.size, 3, none⟩ = some (.slice ro R.length rc) := (by rw [b62.cell (by first | omega | (simp; done) | (simp; omega))]; go_cell); have a4_62 : w62.cell? ⟨w.heap.size, 4, none⟩ = some (v1) := (by rw [b62.cell (by first | omega | (simp; done) | (simp; omega))]; go_cell); have a5_62 : w62.cell? ⟨w.heap.size, 5, none⟩ = some (v2) := (by rw [b62.cell (by first | omega | (simp; done) | (simp; omega))]; go_cell); have a6_62 : w62.cell? ⟨w.heap.size, 6, none⟩ = some (v3) := (by rw [b62.cell (by first | omega | (simp; done) | (simp; omega))]; go_cell); have a7_62 : w62.cell? ⟨w.heap.size, 7, none⟩ = some (.slice lo Lg.length lc) := (by rw [b62.cell (by first | omega | (simp; done) | (simp; omega))]; go_cell); have al_62 : w.heap.size < w62.heap.size := (by have := b62.size; first | omega | (revert this; simp; done) | (revert this; simp; omega)); clear a0_61 a1_61 a2_61 a3_61 a4_61 a5_61 a6_61 a7_61 al_61; have k7_62 := (d62.cell (p := ⟨K, 7, none⟩) (Nat.lt_of_lt_of_le hKl d61.size)).trans k7_61; have HRR := hid hrd; have HR62 := hid ((HR60.out.later d61).later d62); obtain ⟨rro, rrc, hrv, _⟩ := hrd; subst hrv)
          | (go_at_call 86; refine (equalRows_is (lb := newRows Lg) HE2.out (HR62.out.later (by go_grown)) (HRR.out.later (by go_grown))).mono ?_; rintro e w63 ⟨rfl, b63⟩; have d63 : Below w62.heap.size w62 w63 := (Below.trans (by go_grown) (b63.mono (by first | omega | (simp; done) | (simp; omega)))); have c63 : Below w.heap.size w w63 := c62.trans (d63.mono c62.size); have a0_63 : w63.cell? ⟨w.heap.size, 0, none⟩ = some (.int .i64 p) := (by rw [b63.cell (by first | omega | (simp; done) | (simp; omega))]; go_cell); have a1_63 : w63.cell? ⟨w.heap.size, 1, none⟩ = some (.int .i64 f) := (by rw [b63.cell (by first | omega | (simp; done) | (simp; omega))]; go_cell); have a2_63 : w63.cell? ⟨w.heap.size, 2, none⟩ = some (.int .i64 st) := (by rw [b63.cell (by first | omega | (simp; done) | (simp; omega))]; go_cell); have a3_63 : w63.cell? ⟨w.heap.size, 3, none⟩ = some (.slice ro R.length rc) := (by rw [b63.cell (by first | omega | (simp; done) | (simp; omega))]; go_cell); have a4_63 : w63.cell? ⟨w.heap.size, 4, none⟩ = some (v1) := (by rw [b63.cell (by first | omega | (simp; done) | (simp; omega))]; go_cell); have a5_63 : w63.cell? ⟨w.heap.size, 5, none⟩ = some (v2) := (by rw [b63.cell (by first | omega | (simp; done) | (simp; omega))]; go_cell); have a6_63 : w63.cell? ⟨w.heap.size, 6, none⟩ = some (v3) := (by rw [b63.cell (by first | omega | (simp; done) | (simp; omega))]; go_cell); have a7_63 : w63.cell? ⟨w.heap.size, 7, none⟩ = some (.slice lo Lg.length lc) := (by rw [b63.cell (by first | omega | (simp; done) | (simp; omega))]; go_cell); have al_63 : w.heap.size < w63.heap.size := (by have := b63.size; first | omega | (revert this; simp; done) | (revert this; simp; omega)); clear a0_62 a1_62 a2_62 a3_62 a4_62 a5_62 a6_62 a7_62 al_62; have k7_63 := (d63.cell (p := ⟨K, 7, none⟩) (Nat.lt_of_lt_of_le hKl (Nat.le_trans d61.size d62.size))).trans k7_62))
        all_goals
          go_wp2
          go_ret
          exact ⟨by simp [hyes], c63⟩
end Go.Proofs.YtfibdnhihnccaaaGreat

/- Part: impl.ShardOk: contract. Written by a program (gso.py). -/
namespace Go.Proofs.YtfibdnhihnccaaaGreat
open Go.RowKit
attribute [local go_sem ↓] Go.wp_at_zero Go.wp_at_succ

set_option maxRecDepth 100000 in
set_option maxHeartbeats 4000000 in
theorem implSOk_any (p f st : Int) (v0 v1 v2 v3 v4 : Value) (R D T S Lg : List KD) (w : World) (h : RSShard w v0 v1 v2 v3 v4 R D T S Lg) :
    Calls Tryz.prog 29 #[.agg #[.int .i64 p, .int .i64 f, .int .i64 st, v0, v1, v2, v3, v4]] w fun e w' => e = .returned (.bool (okS p f st R D T S Lg)) ∧ Below w.heap.size w w' := by
  have H := hid h
  obtain ⟨o0, o1, o2, o3, o4, q0, q1, q2, q3, q4, rfl, rfl, rfl, rfl, rfl⟩ := h.open
  clear h
  go_enter Tryz.func29, Tryz.ntmps29
  by_cases hp : 0 ≤ p ∧ p < 2
  case neg =>
    have hno : okS p f st R D T S Lg = false := by
      unfold okS
      rw [decide_eq_false hp]
      simp
    go_wp2_with fail
    refine (partOk_any p _).mono ?_
    rintro e w2 ⟨rfl, rfl⟩
    rw [decide_eq_false hp]
    go_wp2
    go_ret
    exact ⟨by first | (simp; done) | simp [hno], by go_grown⟩
  by_cases hf : 0 ≤ f
  case neg =>
    have hno : okS p f st R D T S Lg = false := by
      unfold okS
      rw [decide_eq_false hf]
      simp
    have gf : decide (f ≥ 0) = false := by simp; omega
    go_wp2_with fail
    refine (partOk_any p _).mono ?_
    rintro e w2 ⟨rfl, rfl⟩
    rw [decide_eq_true hp]
    go_wp2
    go_ret
    exact ⟨by first | (simp; done) | simp [hno], by go_grown⟩
  have gf : decide (f ≥ 0) = true := by simp; omega
  by_cases hs0 : 0 ≤ st
  case neg =>
    have hno : okS p f st R D T S Lg = false := by
      unfold okS
      rw [decide_eq_false (show ¬ (0 ≤ st ∧ st ≤ 60) from fun z => hs0 z.1)]
      simp
    have gs0 : decide (0 ≤ st) = false := by simp; omega
    go_wp2_with fail
    refine (partOk_any p _).mono ?_
    rintro e w2 ⟨rfl, rfl⟩
    rw [decide_eq_true hp]
    go_wp2
    go_ret
    exact ⟨by first | (simp; done) | simp [hno], by go_grown⟩
  have gs0 : decide (0 ≤ st) = true := by simp; omega
  by_cases hs1 : st ≤ 60
  case neg =>
    have hno : okS p f st R D T S Lg = false := by
      unfold okS
      rw [decide_eq_false (show ¬ (0 ≤ st ∧ st ≤ 60) from fun z => hs1 z.2)]
      simp
    have gs1 : decide (st ≤ 60) = false := by simp; omega
    go_wp2_with fail
    refine (partOk_any p _).mono ?_
    rintro e w2 ⟨rfl, rfl⟩
    rw [decide_eq_true hp]
    go_wp2
    go_ret
    exact ⟨by first | (simp; done) | simp [hno], by go_grown⟩
  have gs1 : decide (st ≤ 60) = true := by simp; omega
  have hs : 0 ≤ st ∧ st ≤ 60 := ⟨hs0, hs1⟩
  have hd0 : decide (0 ≤ p ∧ p < 2) = true := decide_eq_true hp
  have hd1 : decide (0 ≤ f) = true := decide_eq_true hf
  have hd2 : decide (0 ≤ st ∧ st ≤ 60) = true := decide_eq_true hs
  have HOK : Hid (okS p f st R D T S Lg = (logB p R Lg && (donesB p R D && (intsB p st T && seenB p S)))) := hid (by
    unfold okS
    rw [hd0, hd1, hd2]
    simp only [Bool.true_and])
  have HP := hid hp
  clear hd0 hd1 hd2
  go_wp2_with fail
  refine (partOk_any p _).mono ?_
  rintro e w2 ⟨rfl, rfl⟩
  rw [decide_eq_true hp]
  go_wp2_with fail
  generalize hW1 : (w.alloc (.cells #[.int .i64 p, .int .i64 f, .int .i64 st, .slice o0 R.length q0, .slice o1 D.length q1, .slice o2 T.length q2, .slice o3 S.length q3, .slice o4 Lg.length q4] 50)) = w1
  have a0_1 : w1.cell? ⟨w.heap.size, 0, none⟩ = some (.int .i64 p) := by subst hW1; go_cell
  have a1_1 : w1.cell? ⟨w.heap.size, 1, none⟩ = some (.int .i64 f) := by subst hW1; go_cell
  have a2_1 : w1.cell? ⟨w.heap.size, 2, none⟩ = some (.int .i64 st) := by subst hW1; go_cell
  have a3_1 : w1.cell? ⟨w.heap.size, 3, none⟩ = some (.slice o0 R.length q0) := by subst hW1; go_cell
  have a4_1 : w1.cell? ⟨w.heap.size, 4, none⟩ = some (.slice o1 D.length q1) := by subst hW1; go_cell
  have a5_1 : w1.cell? ⟨w.heap.size, 5, none⟩ = some (.slice o2 T.length q2) := by subst hW1; go_cell
  have a6_1 : w1.cell? ⟨w.heap.size, 6, none⟩ = some (.slice o3 S.length q3) := by subst hW1; go_cell
  have a7_1 : w1.cell? ⟨w.heap.size, 7, none⟩ = some (.slice o4 Lg.length q4) := by subst hW1; go_cell
  have al_1 : w.heap.size < w1.heap.size := by subst hW1; first | (simp; done) | (simp; omega)
  have c1 : Below w.heap.size w w1 := by subst hW1; go_grown
  have s1 : w1.heap.size = w.heap.size + 1 := by subst hW1; simp
  clear hW1
  have qa0_1 := cell_regrown a0_1
  have qa1_1 := cell_regrown a1_1
  have qa2_1 := cell_regrown a2_1
  have qa3_1 := cell_regrown a3_1
  have qa4_1 := cell_regrown a4_1
  have qa5_1 := cell_regrown a5_1
  have qa6_1 := cell_regrown a6_1
  have qa7_1 := cell_regrown a7_1
  clear qa0_1 qa1_1 qa2_1 qa3_1 qa4_1 qa5_1 qa6_1 qa7_1
  refine (logRight_any p f st _ _ _ _ _ R Lg _ (H.out.h0.later c1) (H.out.h4.later c1)).mono ?_
  rintro e w2 ⟨rfl, b2⟩
  have d2 : Below w1.heap.size w1 w2 := (Below.trans (by go_grown) (b2.mono (by first | omega | (simp; done) | (simp; omega))))
  have c2 : Below w.heap.size w w2 := c1.trans (d2.mono c1.size)
  have a0_2 : w2.cell? ⟨w.heap.size, 0, none⟩ = some (.int .i64 p) := (by rw [b2.cell (by first | omega | (simp; done) | (simp; omega))]; go_cell)
  have a1_2 : w2.cell? ⟨w.heap.size, 1, none⟩ = some (.int .i64 f) := (by rw [b2.cell (by first | omega | (simp; done) | (simp; omega))]; go_cell)
  have a2_2 : w2.cell? ⟨w.heap.size, 2, none⟩ = some (.int .i64 st) := (by rw [b2.cell (by first | omega | (simp; done) | (simp; omega))]; go_cell)
  have a3_2 : w2.cell? ⟨w.heap.size, 3, none⟩ = some (.slice o0 R.length q0) := (by rw [b2.cell (by first | omega | (simp; done) | (simp; omega))]; go_cell)
  have a4_2 : w2.cell? ⟨w.heap.size, 4, none⟩ = some (.slice o1 D.length q1) := (by rw [b2.cell (by first | omega | (simp; done) | (simp; omega))]; go_cell)
  have a5_2 : w2.cell? ⟨w.heap.size, 5, none⟩ = some (.slice o2 T.length q2) := (by rw [b2.cell (by first | omega | (simp; done) | (simp; omega))]; go_cell)
  have a6_2 : w2.cell? ⟨w.heap.size, 6, none⟩ = some (.slice o3 S.length q3) := (by rw [b2.cell (by first | omega | (simp; done) | (simp; omega))]; go_cell)
  have a7_2 : w2.cell? ⟨w.heap.size, 7, none⟩ = some (.slice o4 Lg.length q4) := (by rw [b2.cell (by first | omega | (simp; done) | (simp; omega))]; go_cell)
  have al_2 : w.heap.size < w2.heap.size := (by have := b2.size; first | omega | (revert this; simp; done) | (revert this; simp; omega))
  clear a0_1 a1_1 a2_1 a3_1 a4_1 a5_1 a6_1 a7_1 al_1
  clear b2 d2
  cases hb0 : logB p R Lg with
  | false =>
    have hno : okS p f st R D T S Lg = false := by rw [HOK.out, hb0]; simp
    go_wp2
    go_ret
    exact ⟨by simp [hno], c2⟩
  | true =>
    have HB0 := hid hb0
    have HR24 := hid ((of_decide_eq_true hb0).1)
    clear hb0
    go_wp2_with fail
    refine (donesRight_any p f st _ _ _ _ _ R D _ (H.out.h0.later c2) (H.out.h1.later c2) HR24.out HP.out.1).mono ?_
    rintro e w3 ⟨rfl, b3⟩
    have d3 : Below w2.heap.size w2 w3 := (Below.trans (by go_grown) (b3.mono (by first | omega | (simp; done) | (simp; omega))))
    have c3 : Below w.heap.size w w3 := c2.trans (d3.mono c2.size)
    have a0_3 : w3.cell? ⟨w.heap.size, 0, none⟩ = some (.int .i64 p) := (by rw [b3.cell (by first | omega | (simp; done) | (simp; omega))]; go_cell)
    have a1_3 : w3.cell? ⟨w.heap.size, 1, none⟩ = some (.int .i64 f) := (by rw [b3.cell (by first | omega | (simp; done) | (simp; omega))]; go_cell)
    have a2_3 : w3.cell? ⟨w.heap.size, 2, none⟩ = some (.int .i64 st) := (by rw [b3.cell (by first | omega | (simp; done) | (simp; omega))]; go_cell)
    have a3_3 : w3.cell? ⟨w.heap.size, 3, none⟩ = some (.slice o0 R.length q0) := (by rw [b3.cell (by first | omega | (simp; done) | (simp; omega))]; go_cell)
    have a4_3 : w3.cell? ⟨w.heap.size, 4, none⟩ = some (.slice o1 D.length q1) := (by rw [b3.cell (by first | omega | (simp; done) | (simp; omega))]; go_cell)
    have a5_3 : w3.cell? ⟨w.heap.size, 5, none⟩ = some (.slice o2 T.length q2) := (by rw [b3.cell (by first | omega | (simp; done) | (simp; omega))]; go_cell)
    have a6_3 : w3.cell? ⟨w.heap.size, 6, none⟩ = some (.slice o3 S.length q3) := (by rw [b3.cell (by first | omega | (simp; done) | (simp; omega))]; go_cell)
    have a7_3 : w3.cell? ⟨w.heap.size, 7, none⟩ = some (.slice o4 Lg.length q4) := (by rw [b3.cell (by first | omega | (simp; done) | (simp; omega))]; go_cell)
    have al_3 : w.heap.size < w3.heap.size := (by have := b3.size; first | omega | (revert this; simp; done) | (revert this; simp; omega))
    clear a0_2 a1_2 a2_2 a3_2 a4_2 a5_2 a6_2 a7_2 al_2
    clear b3 d3
    cases hb1 : donesB p R D with
    | false =>
      have hno : okS p f st R D T S Lg = false := by rw [HOK.out, HB0.out, hb1]; simp
      go_wp2
      go_ret
      exact ⟨by simp [hno], c3⟩
    | true =>
      have HB1 := hid hb1
      clear hb1
      go_wp2_with fail
      refine (intentsRight_any p f st _ _ _ _ _ T _ (H.out.h2.later c3) HP.out.1).mono ?_
      rintro e w4 ⟨rfl, b4⟩
      have d4 : Below w3.heap.size w3 w4 := (Below.trans (by go_grown) (b4.mono (by first | omega | (simp; done) | (simp; omega))))
      have c4 : Below w.heap.size w w4 := c3.trans (d4.mono c3.size)
      have a0_4 : w4.cell? ⟨w.heap.size, 0, none⟩ = some (.int .i64 p) := (by rw [b4.cell (by first | omega | (simp; done) | (simp; omega))]; go_cell)
      have a1_4 : w4.cell? ⟨w.heap.size, 1, none⟩ = some (.int .i64 f) := (by rw [b4.cell (by first | omega | (simp; done) | (simp; omega))]; go_cell)
      have a2_4 : w4.cell? ⟨w.heap.size, 2, none⟩ = some (.int .i64 st) := (by rw [b4.cell (by first | omega | (simp; done) | (simp; omega))]; go_cell)
      have a3_4 : w4.cell? ⟨w.heap.size, 3, none⟩ = some (.slice o0 R.length q0) := (by rw [b4.cell (by first | omega | (simp; done) | (simp; omega))]; go_cell)
      have a4_4 : w4.cell? ⟨w.heap.size, 4, none⟩ = some (.slice o1 D.length q1) := (by rw [b4.cell (by first | omega | (simp; done) | (simp; omega))]; go_cell)
      have a5_4 : w4.cell? ⟨w.heap.size, 5, none⟩ = some (.slice o2 T.length q2) := (by rw [b4.cell (by first | omega | (simp; done) | (simp; omega))]; go_cell)
      have a6_4 : w4.cell? ⟨w.heap.size, 6, none⟩ = some (.slice o3 S.length q3) := (by rw [b4.cell (by first | omega | (simp; done) | (simp; omega))]; go_cell)
      have a7_4 : w4.cell? ⟨w.heap.size, 7, none⟩ = some (.slice o4 Lg.length q4) := (by rw [b4.cell (by first | omega | (simp; done) | (simp; omega))]; go_cell)
      have al_4 : w.heap.size < w4.heap.size := (by have := b4.size; first | omega | (revert this; simp; done) | (revert this; simp; omega))
      clear a0_3 a1_3 a2_3 a3_3 a4_3 a5_3 a6_3 a7_3 al_3
      clear b4 d4
      cases hb2 : intsB p st T with
      | false =>
        have hno : okS p f st R D T S Lg = false := by rw [HOK.out, HB0.out, HB1.out, hb2]; simp
        go_wp2
        go_ret
        exact ⟨by simp [hno], c4⟩
      | true =>
        have HB2 := hid hb2
        clear hb2
        go_wp2_with fail
        refine (seenRight_any p f st _ _ _ _ _ S _ (H.out.h3.later c4) HP.out.1).mono ?_
        rintro e w5 ⟨rfl, b5⟩
        have d5 : Below w4.heap.size w4 w5 := (Below.trans (by go_grown) (b5.mono (by first | omega | (simp; done) | (simp; omega))))
        have c5 : Below w.heap.size w w5 := c4.trans (d5.mono c4.size)
        have a0_5 : w5.cell? ⟨w.heap.size, 0, none⟩ = some (.int .i64 p) := (by rw [b5.cell (by first | omega | (simp; done) | (simp; omega))]; go_cell)
        have a1_5 : w5.cell? ⟨w.heap.size, 1, none⟩ = some (.int .i64 f) := (by rw [b5.cell (by first | omega | (simp; done) | (simp; omega))]; go_cell)
        have a2_5 : w5.cell? ⟨w.heap.size, 2, none⟩ = some (.int .i64 st) := (by rw [b5.cell (by first | omega | (simp; done) | (simp; omega))]; go_cell)
        have a3_5 : w5.cell? ⟨w.heap.size, 3, none⟩ = some (.slice o0 R.length q0) := (by rw [b5.cell (by first | omega | (simp; done) | (simp; omega))]; go_cell)
        have a4_5 : w5.cell? ⟨w.heap.size, 4, none⟩ = some (.slice o1 D.length q1) := (by rw [b5.cell (by first | omega | (simp; done) | (simp; omega))]; go_cell)
        have a5_5 : w5.cell? ⟨w.heap.size, 5, none⟩ = some (.slice o2 T.length q2) := (by rw [b5.cell (by first | omega | (simp; done) | (simp; omega))]; go_cell)
        have a6_5 : w5.cell? ⟨w.heap.size, 6, none⟩ = some (.slice o3 S.length q3) := (by rw [b5.cell (by first | omega | (simp; done) | (simp; omega))]; go_cell)
        have a7_5 : w5.cell? ⟨w.heap.size, 7, none⟩ = some (.slice o4 Lg.length q4) := (by rw [b5.cell (by first | omega | (simp; done) | (simp; omega))]; go_cell)
        have al_5 : w.heap.size < w5.heap.size := (by have := b5.size; first | omega | (revert this; simp; done) | (revert this; simp; omega))
        clear a0_4 a1_4 a2_4 a3_4 a4_4 a5_4 a6_4 a7_4 al_4
        clear b5 d5
        have hyes : okS p f st R D T S Lg = seenB p S := by rw [HOK.out, HB0.out, HB1.out, HB2.out]; simp
        go_wp2
        go_ret
        exact ⟨by simp [hyes], c5⟩
end Go.Proofs.YtfibdnhihnccaaaGreat

/- Part: impl.shelfOf: contract. -/
namespace Go.Proofs.YtfibdnhihnccaaaGreat
open Go.RowKit Go.Shelf
attribute [local go_sem ↓] Go.wp_at_zero Go.wp_at_succ
attribute [local go_sem ↓] ldQ_open stQ_open ldH_open ldF_open stH_open zeroH bdH_open binQ_open

/-- What shelfOf answers: a shelf, and whether the cache is ok; then the shelf is its items on its floors. -/
def EndS (I F : List KD) (e : Ending) : Prop := ∃ X G, X.length = 4 ∧ G.length = 24 ∧ e = .returned (.tuple #[.agg (cellsH X G).toArray, .bool (okC I F)]) ∧ (okC I F = true → X = itemsX I ∧ G = F)
theorem shelf_results {w : World} {g : Nat} {X : List (Option KD)} {F : List KD} (h : ShAt w g fr0 X F) (tmps : Array Value) (hp : tmps.getD 2 undef = .pointer (some ⟨g, 0, none⟩)) :
    (results Tryz.f62 tmps).run Tryz.prog w = .ok (.tuple #[.agg (cellsH X F).toArray, tmps.getD 3 undef]) w := by
  rw [results_cell_tmp (p := 2) (u := 3) (ty := 130) Tryz.results62]
  have hl : (loadVar 130 ⟨g, 0, none⟩).run Tryz.prog w = .ok (.agg (cellsH X F).toArray) w := run_loadVar_mid w g 0 130 _ _ (rangeAt_whole h.whole) Tryz.underlying130 rfl (by rw [Tryz.infoX_shelf, cellsH_length h.x4 h.f24])
  rw [hp]
  simp [asAddr, hl, Result.andThen]
set_option maxRecDepth 100000 in
set_option maxHeartbeats 4000000 in
theorem shelfOf_no (v0 v1 : Value) (I F : List KD) (w : World) (h0 : RdM 4 3 true w v0 I) (h1 : RdM 1 1 false w v1 F) (hn : ¬ (I.length ≤ 4 ∧ vsR F = true)) :
    Calls Tryz.prog 62 #[.agg #[v0, v1]] w fun e w' => EndS I F e ∧ Below w.heap.size w w' := by
  have HO : Hid (okC I F = false) := hid (okC_no (fun q => hn ⟨q.2.1, decide_eq_true ⟨q.1, q.2.2.1⟩⟩))
  have H1 := hid h1
  obtain ⟨ai, ci, rfl, hli, hci⟩ := h0
  obtain ⟨af, cf, rfl, hlf, hcf⟩ := h1
  clear hci hcf
  unfold maxLen at hli hlf
  have hfl := fun (W : World) (hr : RdM 1 1 false W (.slice af F.length cf) F) => floorsRight_any _ F W hr
  have g2 : ((w.alloc (.cells #[.slice ai I.length ci, .slice af F.length cf] 40)).alloc (.cells (cellsH emptyX zeroF).toArray 130)).heap[w.heap.size + 1]? = some (.cells (cellsH emptyX zeroF).toArray 130 (0, 0)) := by
    have := heap_alloc_new (w.alloc (.cells #[.slice ai I.length ci, .slice af F.length cf] 40)) (.cells (cellsH emptyX zeroF).toArray 130)
    have e : (w.alloc (.cells #[.slice ai I.length ci, .slice af F.length cf] 40)).heap.size = w.heap.size + 1 := by simp
    rw [e] at this
    exact this
  have HS1 := hid (shAt_of emptyX_length zeroF_length g2)
  have a0_1 : ((w.alloc (.cells #[.slice ai I.length ci, .slice af F.length cf] 40)).alloc (.cells (cellsH emptyX zeroF).toArray 130)).cell? ⟨w.heap.size, 0, none⟩ = some (.slice ai I.length ci) := by go_cell
  have a1_1 : ((w.alloc (.cells #[.slice ai I.length ci, .slice af F.length cf] 40)).alloc (.cells (cellsH emptyX zeroF).toArray 130)).cell? ⟨w.heap.size, 1, none⟩ = some (.slice af F.length cf) := by go_cell
  have c1 : Below w.heap.size w ((w.alloc (.cells #[.slice ai I.length ci, .slice af F.length cf] 40)).alloc (.cells (cellsH emptyX zeroF).toArray 130)) := by go_grown
  clear g2
  by_cases hI : I.length ≤ 4
  · have hv : vsR F = false := by
      cases hv : vsR F with
      | false => rfl
      | true => exact absurd ⟨hI, hv⟩ hn
    have hg : decide ((I.length : Int) > 4) = false := by simp; omega
    rw [hv] at hfl
    clear hI hn hv
    go_enter Tryz.func62, Tryz.ntmps62
    go_wp2_with fail
    refine (hfl _ (H1.out.later c1)).mono ?_
    rintro e w2 ⟨rfl, b2⟩
    have c2 := c1.trans (b2.mono c1.size)
    obtain ⟨w3, hst, h3, o3, s3⟩ := stH_at (HS1.out.later b2) emptyX_length zeroF_length
    have H3 := hid h3
    have C3 : Hid (Below w.heap.size w w3) := hid (c2.trans (o3.below (fun k hk => by omega) c2.size))
    clear b2 c2 h3 o3 s3 hfl c1 a0_1 a1_1 HS1
    go_wp2_with fail
    exact bodyPost_ret (shelf_results H3.out _ rfl) rfl ⟨⟨_, _, emptyX_length, zeroF_length, by rw [HO.out]; rfl, fun q => by rw [HO.out] at q; cases q⟩, C3.out⟩
  · have hg : decide ((I.length : Int) > 4) = true := by simp; omega
    obtain ⟨w3, hst, h3, o3, s3⟩ := stH_at HS1.out emptyX_length zeroF_length
    have H3 := hid h3
    have C3 : Hid (Below w.heap.size w w3) := hid (c1.trans (o3.below (fun k hk => by omega) c1.size))
    clear h3 o3 s3 hfl c1 HS1 hI hn
    go_enter Tryz.func62, Tryz.ntmps62
    go_wp2_with fail
    exact bodyPost_ret (shelf_results H3.out _ rfl) rfl ⟨⟨_, _, emptyX_length, zeroF_length, by rw [HO.out]; rfl, fun q => by rw [HO.out] at q; cases q⟩, C3.out⟩
end Go.Proofs.YtfibdnhihnccaaaGreat

/- Part: impl.shelfOf of a cache whose floors are right: contract. -/
namespace Go.Proofs.YtfibdnhihnccaaaGreat
open Go.RowKit Go.Shelf
attribute [local go_sem ↓] Go.wp_at_zero Go.wp_at_succ
attribute [local go_sem ↓] ldQ_open stQ_open ldH_open ldF_open stH_open zeroH bdH_open binQ_open
attribute [local go_sem] Oper.semAt_some

theorem arr24 (a : Addr) (c : Nat) (w : World) : (Instr.arrayAt 128 (.slice (some a) 24 c)).run Tryz.prog w = .ok (.pointer (some a)) w := by
  simp [Instr.arrayAt, run_underlying Tryz.shp_flo]
attribute [local go_sem ↓] arr24
theorem fold_N (f : Nat → Int) : List.foldl (fun (cs : Array Value) (x : Value × Nat) => cs.setIfInBounds (84 + x.snd) x.fst) (cellsH emptyX zeroF).toArray (floN f).zipIdx = (spotsC emptyX ++ floN f).toArray := by kernel_rfl
theorem fold_F {F : List KD} (h : F.length = 24) : List.foldl (fun (cs : Array Value) (x : Value × Nat) => cs.setIfInBounds (84 + x.snd) x.fst) (cellsH emptyX zeroF).toArray (floC F).zipIdx = (cellsH emptyX F).toArray := by
  rw [show cellsH emptyX F = spotsC emptyX ++ floC F from rfl, floC_N h]
  exact fold_N _
theorem stQ_k {W : World} {g : Nat} {X : List (Option KD)} {F : List KD} (h : ShAt W g fr0 X F) (i : Nat) (hi : i < 4) (k v n : Int) (l : List (Int × Int)) :
    ∃ W', (stQ (.pointer (some ⟨g, i * 21, none⟩)) (.agg (spotC true k v n l).toArray)).run Tryz.prog W = .ok () W' ∧ ShAt W' g fr0 (splice X i [some ([k, v, n], l)]) F ∧ Only (fun k => k = g) W W' := by
  have := stQ_at h i hi (some ([k, v, n], l))
  rw [show (fr0 : Fr).pre.length + 21 * i = i * 21 from by simp; omega] at this
  exact this
theorem Rd.belowX {m X : Nat} {w w' : World} {u : Value} {l : List (Int × Int)} (h : Rd w u l) (ho : BelowX m X w w') (hn : 0 < l.length → ∀ b, u.ownBlock = some b → b < m ∧ ¬ b = X) : Rd w' u l := by
  obtain ⟨ao, cap, rfl, hl, hc⟩ := h
  refine ⟨ao, cap, rfl, hl, fun h0 => ?_⟩
  obtain ⟨b, off, rfl, hb, hcc⟩ := hc h0
  have hg := ho.2 b (hn h0 b rfl).1 (hn h0 b rfl).2
  refine ⟨b, off, rfl, Nat.lt_of_lt_of_le hb ho.1, fun i hi => ?_⟩
  obtain ⟨c0, c1⟩ := hcc i hi
  exact ⟨(World.cell?_of_block (a := ⟨b, off + i * 2, none⟩) hg).trans c0, (World.cell?_of_block (a := ⟨b, off + i * 2 + 1, none⟩) hg).trans c1⟩
theorem Rd.own_lt {w : World} {u : Value} {l : List (Int × Int)} (h : Rd w u l) (h0 : 0 < l.length) : ∀ b, u.ownBlock = some b → b < w.heap.size := by
  obtain ⟨ao, cap, rfl, hl, hc⟩ := h
  obtain ⟨b, off, rfl, hb, _⟩ := hc h0
  intro b' hb'
  simp only [Value.ownBlock, Option.some.injEq] at hb'
  omega
theorem keeps_only {W W2 : World} {G B : Nat} (o : Only (fun k => k = G) W W2) (hg : G < B) : KeepsFrom B W W2 :=
  ⟨o.size, fun k _ hk ho _ => (o.block k (Array.getElem?_eq_some_iff.1 ho).1 (by omega)).trans ho⟩
theorem belowX_only {W W2 : World} {m X : Nat} (o : Only (fun k => k = X) W W2) (hm : m ≤ W.heap.size) : BelowX m X W W2 := ⟨o.size, fun k hk hn => o.block k (by omega) hn⟩
abbrev itemV (I : List KD) (us : Nat → Value) (x : Fin I.length) : Value := .agg #[.int .i64 (keyK I[x.val]), .int .i64 (verK I[x.val]), .int .i64 (numK I[x.val]), us x.val]
set_option maxRecDepth 100000 in
set_option maxHeartbeats 4000000 in
theorem shelfOf_yes (v0 v1 : Value) (I F : List KD) (w : World) (h0 : RdM 4 3 true w v0 I) (h1 : RdM 1 1 false w v1 F) (hI : I.length ≤ 4) (hv : vsR F = true) :
    Calls Tryz.prog 62 #[.agg #[v0, v1]] w fun e w' => EndS I F e ∧ Below w.heap.size w w' := by
  have hF24 : F.length = 24 := (of_decide_eq_true hv).1
  have H1 := hid h1
  obtain ⟨ai, ci, rfl, hli, hci⟩ := h0
  obtain ⟨af, cf, rfl, hlf, hcf⟩ := h1
  obtain ⟨bf, of', rfl, hbf, hccf⟩ := hcf (by omega)
  have HRF : Hid (w.rangeAt bf of' (floC F)) := hid (rdF_row hccf)
  obtain ⟨us, hus⟩ : ∃ us : Nat → Value, 0 < I.length → ∃ b o, ai = some ⟨b, o, none⟩ ∧ ItemsAt w I.length b o I us := by
    by_cases h0 : 0 < I.length
    · obtain ⟨b, o, rfl, hb, hcc⟩ := hci h0
      obtain ⟨us, hu⟩ := itemsAt_of hb hcc
      exact ⟨us, fun _ => ⟨b, o, rfl, hu⟩⟩
    · exact ⟨fun _ => default, fun h => absurd h h0⟩
  have HL3 : Hid (∀ x ∈ I, x.1.length = 3) := hid (fun x hx => by
    obtain ⟨i, hi, rfl⟩ := List.getElem_of_mem hx
    obtain ⟨_, _, _, hit⟩ := hus (by omega)
    have := hit.l3 i hi
    rwa [getD_at hi] at this)
  have HFL : Hid (FlrTo F 24) := hid (of_decide_eq_true hv).2
  have HIT := hid hus
  clear hci hcf hccf hus hli hlf
  have hfl := fun (W : World) (hr : RdM 1 1 false W (.slice (some ⟨bf, of', none⟩) F.length cf) F) => floorsRight_any _ F W hr
  rw [hv] at hfl
  have H24 := hid hF24
  rw [hF24] at hfl
  have H1' : Hid (RdM 1 1 false w (.slice (some ⟨bf, of', none⟩) 24 cf) F) := by rw [hF24] at H1; exact H1
  rw [hF24]
  clear H1 hF24 hv
  have hg : decide ((I.length : Int) > 4) = false := by simp; omega
  have g2 : ((w.alloc (.cells #[.slice ai I.length ci, .slice (some ⟨bf, of', none⟩) 24 cf] 40)).alloc (.cells (cellsH emptyX zeroF).toArray 130)).heap[w.heap.size + 1]? = some (.cells (cellsH emptyX zeroF).toArray 130 (0, 0)) := by
    have := heap_alloc_new (w.alloc (.cells #[.slice ai I.length ci, .slice (some ⟨bf, of', none⟩) 24 cf] 40)) (.cells (cellsH emptyX zeroF).toArray 130)
    have e : (w.alloc (.cells #[.slice ai I.length ci, .slice (some ⟨bf, of', none⟩) 24 cf] 40)).heap.size = w.heap.size + 1 := by simp
    rw [e] at this
    exact this
  have HS1 := hid (shAt_of emptyX_length zeroF_length g2)
  have a0_1 : ((w.alloc (.cells #[.slice ai I.length ci, .slice (some ⟨bf, of', none⟩) 24 cf] 40)).alloc (.cells (cellsH emptyX zeroF).toArray 130)).cell? ⟨w.heap.size, 0, none⟩ = some (.slice ai I.length ci) := by go_cell
  have a1_1 : ((w.alloc (.cells #[.slice ai I.length ci, .slice (some ⟨bf, of', none⟩) 24 cf] 40)).alloc (.cells (cellsH emptyX zeroF).toArray 130)).cell? ⟨w.heap.size, 1, none⟩ = some (.slice (some ⟨bf, of', none⟩) 24 cf) := by go_cell
  have c1 : Below w.heap.size w ((w.alloc (.cells #[.slice ai I.length ci, .slice (some ⟨bf, of', none⟩) 24 cf] 40)).alloc (.cells (cellsH emptyX zeroF).toArray 130)) := by go_grown
  have s1 : ((w.alloc (.cells #[.slice ai I.length ci, .slice (some ⟨bf, of', none⟩) 24 cf] 40)).alloc (.cells (cellsH emptyX zeroF).toArray 130)).heap.size = w.heap.size + 2 := by simp
  clear g2
  refine (callsIn_wide (n := 3)).1 ?_
  refine callsIn_of_wp_marks Tryz.func62 rfl trivial ?_ rfl
  simp only [Tryz.ntmps62, List.size_toArray, List.length_cons, List.length_nil, Nat.reduceAdd, Nat.reduceSub, Array.replicate_succ, Array.replicate_zero, List.push_toArray, List.append_toArray, List.nil_append, List.cons_append]
  gi_wp2_with fail
  refine ⟨trivial, (callsIn_wide.2 (hfl _ (H1'.out.later c1))).mono ?_⟩
  rintro e w2 ⟨rfl, b2⟩
  generalize ((w.alloc (.cells #[.slice ai I.length ci, .slice (some ⟨bf, of', none⟩) 24 cf] 40)).alloc (.cells (cellsH emptyX zeroF).toArray 130)) = w1 at HS1 a0_1 a1_1 c1 s1 b2 ⊢
  have HS2 := hid (HS1.out.later b2)
  have a0_2 := (b2.cell (p := ⟨w.heap.size, 0, none⟩) (by show w.heap.size < _; omega)).trans a0_1
  have a1_2 := (b2.cell (p := ⟨w.heap.size, 1, none⟩) (by show w.heap.size < _; omega)).trans a1_1
  have c2 := c1.trans (b2.mono c1.size)
  have l2 : w.heap.size + 1 < w2.heap.size := by have := b2.size; omega
  have RF2 : w2.rangeAt bf of' (floC F) := fun j v hj => (c2.cell (p := ⟨bf, of' + j, none⟩) hbf).trans (HRF.out j v hj)
  have hld := ldF_row H24.out RF2
  have hbd := fold_F H24.out
  have hflen : (floC F).length = 24 := by rw [floC_length]; exact H24.out
  -- the shelf
  obtain ⟨w3, hst3, h3, o3, s3⟩ := stH_at (shAt_of emptyX_length zeroF_length (heap_alloc_new w2 (.cells (cellsH emptyX zeroF).toArray 130))) emptyX_length H24.out
  have O3 : Hid (Only (fun j => j = w2.heap.size) w2 w3) := hid ((Only.later (by go_grown)).trans o3)
  have S3 : Hid (w3.heap.size = w2.heap.size + 1) := hid (by rw [s3]; simp)
  have HA3 := hid h3
  have hld3 := ldH_at h3
  obtain ⟨w4, hst4, h4, o4, s4⟩ := stH_at (shAt_of emptyX_length zeroF_length (heap_alloc_new w3 (.cells (cellsH emptyX zeroF).toArray 130))) emptyX_length H24.out
  have O4 : Hid (Only (fun j => j = w3.heap.size) w3 w4) := hid ((Only.later (by go_grown)).trans o4)
  have S4 : Hid (w4.heap.size = w3.heap.size + 1) := hid (by rw [s4]; simp)
  have HN4 := hid h4
  clear h3 o3 s3 h4 o4 s4 hfl RF2 b2 HS1 a0_1 a1_1 c1
  have a0_4 : w4.cell? ⟨w.heap.size, 0, none⟩ = some (.slice ai I.length ci) := ((World.cell?_of_block (a := ⟨w.heap.size, 0, none⟩) (O4.out.block _ (by have := S3.out; show w.heap.size < _; omega) (by have := S3.out; show ¬ w.heap.size = _; omega))).trans (World.cell?_of_block (a := ⟨w.heap.size, 0, none⟩) (O3.out.block _ (by have := S3.out; show w.heap.size < _; omega) (by have := S3.out; show ¬ w.heap.size = _; omega)))).trans a0_2
  have C4 : Hid (Below w.heap.size w w4) := hid (c2.trans (((O3.out.below (fun k hk => by omega) (Nat.le_refl _)).trans ((O4.out.below (B := w2.heap.size) (fun k hk => by have := S3.out; omega) (by have := S3.out; omega)))).mono c2.size))
  have R4 : Hid (ShAt w4 (w.heap.size + 1) fr0 emptyX zeroF) := hid ((HS2.out.only O3.out (by omega)).only O4.out (by have := S3.out; omega))
  have HA4 : Hid (ShAt w4 w2.heap.size fr0 emptyX F) := hid (HA3.out.only O4.out (by have := S3.out; omega))
  gi_wp2_with fail
  clear hflen hst3 hst4 hld hbd hld3 a0_2 a1_2 HS2 O3 O4 HA3 HRF H1' hg
  gi_loopw [30] (fun i wr => ∃ k : Nat, k ≤ I.length ∧ i = .int .i64 k ∧ Hid (ShAt wr w2.heap.size fr0 (itemsX (I.take k)) F) ∧ Hid (Only (fun j => j = w2.heap.size) w4 wr)) (fun i _ => I.length - (intOf i).toNat)
  case atStart => exact ⟨0, Nat.zero_le _, rfl, HA4, hid (Only.refl _ _)⟩
  case round =>
    obtain ⟨k, hk, rfl, hsh, hon⟩ := hrel
    have hbelw : Below w.heap.size w wr := C4.out.trans (hon.out.below (fun j hj => by omega) C4.out.size)
    have hszr := hon.out.size
    by_cases hlt : k < I.length
    · obtain ⟨b, o, rfl, hit0⟩ := HIT.out (by omega)
      have hit := hit0.later hbelw
      have k0 := hit.c0 k hlt
      have k1 := hit.c1 k hlt
      have k2 := hit.c2 k hlt
      have k3 := hit.c3 k hlt
      have HU := hid (hit.rd k hlt)
      have HX : Hid (([keyK (I.getD k kd0), verK (I.getD k kd0), numK (I.getD k kd0)], (I.getD k kd0).2) = I.getD k kd0) := hid (kd3 (hit.l3 k hlt))
      have HSET := hid (itemsX_set hlt hI)
      have hk4 : k < 4 := by omega
      have hki : (k : Int) < 4 := by omega
      clear hit hit0 HIT
      generalize I.getD k kd0 = x at *
      generalize keyK x = p0 at *
      generalize verK x = p1 at *
      generalize numK x = p2 at *
      generalize us k = u at *
      obtain ⟨uo, uc, hue, _⟩ := HU.out
      subst hue
      gi_wp2_with fail
      have bq : Below wr.heap.size wr (wr.alloc (.cells #[.int .i64 p0, .int .i64 p1, .int .i64 p2, .slice uo x.2.length uc] 68)) := by go_grown
      refine ⟨trivial, (callsIn_wide.2 (spotOf_any _ _ _ _ x.2 _ (HU.out.later bq))).mono ?_⟩
      rintro e w5 ⟨rfl, b5⟩
      have b6 := bq.trans (b5.mono bq.size)
      obtain ⟨w6, hst6, h6, o6⟩ := stQ_k (hsh.out.later b6) k hk4 p0 p1 p2 x.2
      rw [HX.out, HSET.out] at h6
      have H6 := hid h6
      have ON6 : Hid (Only (fun j => j = w2.heap.size) w4 w6) := hid ((hon.out.trans (Only.later b6)).trans o6)
      clear b5 b6 bq h6 o6
      gi_wp2_with fail
      go_roundw
      case rel => exact ⟨k + 1, by omega, by go_num, H6, ON6⟩
      case measure => simp [intOf]; omega
    · have hkn : k = I.length := by omega
      subst hkn
      rw [List.take_length] at hsh
      have a0_5 : wr.cell? ⟨w.heap.size, 0, none⟩ = some (.slice ai I.length ci) := (World.cell?_of_block (a := ⟨w.heap.size, 0, none⟩) (hon.out.block _ (by show w.heap.size < _; have := C4.out.size; have := (World.block_lt_of_cell? _ _ a0_4); simpa using this) (by show ¬ w.heap.size = _; omega))).trans a0_4
      gi_wp2_with fail
      refine ⟨trivial, (callsIn_wide.2 (backward_any ai I.length ci _)).mono ?_⟩
      rintro e w7 ⟨rfl, hw7⟩
      have b7 : Below wr.heap.size wr w7 := by rw [hw7]; go_grown
      have z7 : w7.cell? ⟨wr.heap.size, 0, none⟩ = some (.slice ai I.length ci) := by rw [hw7]; go_cell
      have l7 : wr.heap.size < w7.heap.size := by rw [hw7]; simp
      clear hw7
      have hnr : w3.heap.size < wr.heap.size := by have := S3.out; have := S4.out; omega
      have HA7 := hid (hsh.out.later b7)
      have HN7 : Hid (ShAt w7 w3.heap.size fr0 emptyX F) := hid ((HN4.out.only hon.out (by have := S3.out; omega)).later b7)
      have HR7 : Hid (ShAt w7 (w.heap.size + 1) fr0 emptyX zeroF) := hid ((R4.out.only hon.out (by omega)).later b7)
      have C7 : Hid (Below w.heap.size w w7) := hid (hbelw.trans (b7.mono hbelw.size))
      have HI7 : Hid (0 < I.length → ∃ b o, ai = some ⟨b, o, none⟩ ∧ b ≠ w3.heap.size ∧ ItemsAt w7 I.length b o I us) := hid (fun h0 => by
        obtain ⟨b, o, rfl, hit⟩ := HIT.out h0
        exact ⟨b, o, rfl, by have := hit.lt; have := S3.out; omega, hit.later C7.out⟩)
      have hrw : w.heap.size ≤ wr.heap.size := hbelw.size
      clear b7 a0_5 hsh hon hbelw HN4 R4 HA4 C4 a0_4
      gi_wp2
      refine wpIn_rangeFunc_ownH rfl (by omega) (gf := 123) (lb := #[.pointer (some ⟨wr.heap.size, 0, none⟩)]) rfl trivial (enters_of Tryz.func123 (by kernel_rfl) rfl)
        (back_stops 2 (by omega) wr.heap.size ai ci I us w3.heap.size w7 hI HI7.out (by omega) z7) BelowX.trans (belowX_b (Nat.le_refl _)) (Below.refl _ _) (fun _ => rfl)
        (fun pre W => ShAt W w3.heap.size fr0 (runS F I pre).1 (runS F I pre).2 ∧ BelowX w7.heap.size w3.heap.size w7 W ∧ Below w.heap.size w W)
        (fun _ _ _ => False)
        (fun pre A B row hs hg hr => ⟨hs.1.agree (hg.block _ hs.1.lt (fun e => by have := (hr _ e.symm).1; omega)),
          ⟨Nat.le_trans hs.2.1.1 hg.size, fun k hk hne => (hg.block k (Nat.lt_of_lt_of_le hk hs.2.1.1) (fun e => by have := (hr k e.symm).1; omega)).trans (hs.2.1.2 k hk hne)⟩,
          ownFrom_below (β := Unit) (Nat.le_refl _) (by omega) () A B row hs.2.2 hg hr⟩)
        (fun _ _ _ _ _ hs _ _ => hs)
        ⟨HN7.out, BelowX.refl _ _ _, C7.out⟩
        (fun x a' W => ∃ Bx, w3.heap.size < Bx ∧ W.heap[Bx]? = some (.cells #[.int .i64 (keyK I[x.val]), .int .i64 (verK I[x.val]), .int .i64 (numK I[x.val]), us x.val] 68 (0, 0)) ∧ a' = { tmps := #[.agg #[.slice ai I.length ci, .slice (some ⟨bf, of', none⟩) 24 cf], .pointer (some ⟨w.heap.size, 0, none⟩), .pointer (some ⟨w.heap.size + 1, 0, none⟩), .bool false, .pointer (some ⟨w2.heap.size, 0, none⟩), .pointer (some ⟨w3.heap.size, 0, none⟩), u6, u7, undef, .pointer (some ⟨Bx, 0, none⟩), .pointer (some ⟨w.heap.size, 0, none⟩), .slice ai I.length ci, .int .i64 I.length, .bool false, .bool false, .pointer (some ⟨w.heap.size, 1, none⟩), .slice (some ⟨bf, of', none⟩) 24 cf, .bool true, .bool false, .bool false, undef, .pointer (some ⟨w.heap.size, 1, none⟩), .slice (some ⟨bf, of', none⟩) 24 cf, .pointer (some ⟨bf, of', none⟩), .agg (floC F).toArray, .agg (cellsH emptyX F).toArray, .agg (cellsH emptyX F).toArray, .pointer (some ⟨w.heap.size, 0, none⟩), .slice ai I.length ci, .int .i64 I.length, .int .i64 I.length, .bool false, u32, u33, u34, u35, u36, u37, u38, u39, u40, .pointer (some ⟨w.heap.size, 0, none⟩), .slice ai I.length ci, .func (.func 123) #[] #[.pointer (some ⟨wr.heap.size, 0, none⟩)], .int .i64 ((x.val : Nat) : Int), itemV I us x, undef, undef, undef, undef, undef, undef], defers := [] })
        (fun x a' _ X Y row hs hg hr => by
          obtain ⟨Bx, h1, h2, h3⟩ := hs
          refine ⟨Bx, h1, (hg.block Bx (Array.getElem?_eq_some_iff.1 h2).1 (fun e => ?_)).trans h2, h3⟩
          obtain ⟨_, o, ho, hc⟩ := hr Bx e.symm
          rw [h2] at ho
          cases ho
          cases hc)
        ?assign ?body ?done ?stop
      case assign =>
        rintro l2 pre x W K ⟨hN, hX, hB⟩ hK
        obtain ⟨b, o, rfl, hbX, hit⟩ := HI7.out (by have := x.isLt; omega)
        obtain ⟨uo, uc, hue, _⟩ := hit.rd x.val x.isLt
        rw [getD_at x.isLt] at hue
        gi_wp2
        have bW : Below W.heap.size W (W.alloc (.cells #[.int .i64 (keyK I[x.val]), .int .i64 (verK I[x.val]), .int .i64 (numK I[x.val]), .slice uo I[x.val].2.length uc] 68)) := (Below.refl _ W).alloc (Nat.le_refl _) _
        exact hK _ _ ((KeepsOthers.alloc _ _).from _) (.of (bW.mono hX.1)) ⟨hN.later bW, hX.trans (.of (bW.mono hX.1)), hB.trans (bW.mono hB.size)⟩ ⟨W.heap.size, hN.lt, by rw [hue]; exact heap_alloc_new W _, by simp only [itemV, hue]⟩
      case body =>
        rintro l2 pre x a' W hl2 ⟨r, hr⟩ ⟨hN, hX, hB⟩ ⟨Bx, hBx, hP, rfl⟩ hlt
        obtain ⟨b, o, rfl, hbX, hit⟩ := HI7.out (by have := x.isLt; omega)
        have hru := hit.rd x.val x.isLt
        rw [getD_at x.isLt] at hru
        have hub : 0 < I[x.val].2.length → ∀ b, (us x.val).ownBlock = some b → b < w7.heap.size ∧ ¬ b = w3.heap.size := fun h0 b hb => ⟨hru.own_lt h0 b hb, by
          obtain ⟨b0, o0, hh, hit0⟩ := HIT.out (by have := x.isLt; omega)
          have h1 := hit0.rd x.val x.isLt
          rw [getD_at x.isLt] at h1
          have := h1.own_lt h0 b hb
          have := S3.out
          omega⟩
        have HU := hid (hru.belowX hX hub)
        have HUB : Hid (0 < I[x.val].2.length → ∀ b, (us x.val).ownBlock = some b → ¬ b = w3.heap.size) := hid (fun h0 b hb => (hub h0 b hb).2)
        have HN := hid hN
        have HX := hid hX
        have HB := hid hB
        have h3 := hit.l3 x.val x.isLt
        rw [getD_at x.isLt] at h3
        have H3 := hid (kd3 h3)
        have q0 : W.cell? ⟨Bx, 0, none⟩ = some (.int .i64 (keyK I[x.val])) := by simp [World.cell?, hP]
        have q1 : W.cell? ⟨Bx, 1, none⟩ = some (.int .i64 (verK I[x.val])) := by simp [World.cell?, hP]
        have q2 : W.cell? ⟨Bx, 2, none⟩ = some (.int .i64 (numK I[x.val])) := by simp [World.cell?, hP]
        have q3 : W.cell? ⟨Bx, 3, none⟩ = some (us x.val) := by simp [World.cell?, hP]
        have hn7 := hN.lt
        have hlt7 : w3.heap.size < w7.heap.size := by omega
        clear hP hN hX hB hru hub hit h3
        by_cases hp : putB (runS F I pre).2 (keyK I[x.val]) (verK I[x.val]) (numK I[x.val]) I[x.val].2 = true
        · have HP := hid hp
          clear hp
          gi_wp2_with fail
          refine ⟨trivial, (callsIn_wide.2 (putX_any w3.heap.size fr0 _ _ _ _ _ _ _ _ HN.out HU.out HUB.out HP.out)).mono ?_⟩
          rintro e W2 ⟨rfl, h2, o2⟩
          have HO2 := hid o2
          have H2 := hid h2
          clear o2 h2
          gi_wp2
          exact ⟨keeps_only HO2.out hlt7, belowX_only HO2.out HX.out.1, by rw [runS_more, stepS, if_pos HP.out]; exact H2.out, HX.out.trans (belowX_only HO2.out HX.out.1), HB.out.trans (HO2.out.below (fun k hk => by have := S3.out; omega) HB.out.size)⟩
        · have HP : Hid (putB (runS F I pre).2 (keyK I[x.val]) (verK I[x.val]) (numK I[x.val]) I[x.val].2 = false) := hid (by simpa using hp)
          clear hp
          gi_wp2_with fail
          refine ⟨trivial, (callsIn_wide.2 (putX_no w3.heap.size fr0 _ _ _ _ _ _ _ _ HN.out HU.out HP.out)).mono ?_⟩
          rintro e W2 ⟨rfl, b2⟩
          have HB2 := hid b2
          clear b2
          gi_wp2
          have hnp : ¬ (putB (runS F I pre).2 (keyK I[x.val]) (verK I[x.val]) (numK I[x.val]) I[x.val].2 = true) := by rw [HP.out]; simp
          exact ⟨keeps_only (G := w3.heap.size) (Only.later HB2.out) hlt7, .of (HB2.out.mono HX.out.1), by rw [runS_more, stepS, if_neg hnp]; exact HN.out.later HB2.out, HX.out.trans (.of (HB2.out.mono HX.out.1)), HB.out.trans (HB2.out.mono HB.out.size)⟩
      case done =>
        rintro D ys W hD rfl ⟨hN, hX, hB⟩ hK
        rw [runS_all] at hN
        have hsz3 := S3.out
        have hA : ShAt W w2.heap.size fr0 (itemsX I) F := HA7.out.agree (hX.2 _ (by omega) (by omega))
        have hR : ShAt W (w.heap.size + 1) fr0 emptyX zeroF := HR7.out.agree (hX.2 _ (by omega) (by omega))
        obtain ⟨q, hq, hiff⟩ := binQ_run (itemsX_length I) hN.x4 H24.out hN.f24
        have hq' : ∀ W, (binQ (.agg (cellsH (itemsX I) F).toArray) (.agg (cellsH (anewS F I).1 (anewS F I).2).toArray)).run Tryz.prog W = .ok (.bool q) W := hq
        have hok : q = okC I F := by
          rw [Bool.eq_iff_iff, hiff, okC_iff]
          have := anew_same H24.out hI HL3.out
          rw [this]
          exact ⟨fun h => ⟨H24.out, hI, HFL.out, h⟩, fun h => h.2.2.2⟩
        have HOK := hid hok
        have hldA := ldH_at hA.drew
        have hldN := ldH_at hN.drew
        obtain ⟨W2, hst, h2, o2, s2⟩ := stH_at hR.drew (itemsX_length I) H24.out
        have hldA2 := ldH_at (hA.drew.only o2 (by omega))
        have hldN2 := ldH_at (hN.drew.only o2 (by omega))
        have H2 := hid h2
        have HB2 : Hid (Below w.heap.size w W2) := hid (hB.trans (((Below.refl _ W).drew).trans (o2.below (fun k hk => by omega) hB.size)))
        have hK2 : W2.heap[D]? = some (.deferred (some [])) := (o2.block D (Array.getElem?_eq_some_iff.1 hK).1 (by omega)).trans hK
        have hWD : w7.heap.size ≤ D := hD
        clear hq hA hR hN hiff hok h2 o2 s2 hX hB hsz3
        gi_wp2
        gi_region
        all_goals
          gi_wp2
          have hH : ShAt (W2.putObj D (.deferred none)) (w.heap.size + 1) fr0 (itemsX I) F := H2.out.agree (World.putObj_heap_other (by have := S3.out; omega))
          refine ⟨by simp, .inl ⟨_, _, rfl, run_takeDeferred hK2, ?_⟩⟩
          exact ⟨_, shelf_results hH _ rfl, ⟨itemsX I, F, itemsX_length I, H24.out, by rw [← HOK.out]; rfl, fun _ => ⟨rfl, rfl⟩⟩, HB2.out.trans (belowK_b (w := w) (Nat.le_refl _) W2 D _ _ (by have := S3.out; omega) hK2 rfl rfl)⟩
      case stop =>
        rintro D c pre W _ _ h _
        exact h.elim
theorem shelfOf_any (v0 v1 : Value) (I F : List KD) (w : World) (h0 : RdM 4 3 true w v0 I) (h1 : RdM 1 1 false w v1 F) :
    Calls Tryz.prog 62 #[.agg #[v0, v1]] w fun e w' => EndS I F e ∧ Below w.heap.size w w' := by
  by_cases h : I.length ≤ 4 ∧ vsR F = true
  · exact shelfOf_yes v0 v1 I F w h0 h1 h.1 h.2
  · exact shelfOf_no v0 v1 I F w h0 h1 h
set_option maxRecDepth 100000 in
set_option maxHeartbeats 2000000 in
theorem implCOk_any (v0 v1 : Value) (I F : List KD) (w : World) (h0 : RdM 4 3 true w v0 I) (h1 : RdM 1 1 false w v1 F) :
    Calls Tryz.prog 30 #[.agg #[v0, v1]] w fun e w' => e = .returned (.bool (okC I F)) ∧ Below w.heap.size w w' := by
  have H0 := hid h0
  have H1 := hid h1
  obtain ⟨ai, ci, rfl, hq0, hq1⟩ := h0
  obtain ⟨af, cf, rfl, hq2, hq3⟩ := h1
  clear hq0 hq1 hq2 hq3
  have c1 : Below w.heap.size w (w.alloc (.cells #[.slice ai I.length ci, .slice af F.length cf] 40)) := by go_grown
  go_enter Tryz.func30, Tryz.ntmps30
  go_wp2_with fail
  refine (shelfOf_any _ _ I F _ (H0.out.later c1) (H1.out.later c1)).mono ?_
  rintro e w2 ⟨⟨X, G, hx, hg, rfl, hc⟩, b2⟩
  have c2 := c1.trans (b2.mono c1.size)
  obtain ⟨w3, hst, h3, o3, s3⟩ := stH_at (shAt_of emptyX_length zeroF_length (heap_alloc_new w2 (.cells (cellsH emptyX zeroF).toArray 130))) hx hg
  have C3 : Hid (Below w.heap.size w w3) := hid ((c2.alloc c2.size (.cells (cellsH emptyX zeroF).toArray 130)).trans (o3.below (fun k hk => by have := c2.size; omega) (by have := c2.size; simp; omega)))
  clear h3 o3 s3 hc c2 b2 c1

  go_wp2_with fail
  go_ret
  exact ⟨by simp, C3.out⟩
end Go.Proofs.YtfibdnhihnccaaaGreat

/- Part: Both LeadOk: contracts. -/
namespace Go.Proofs.YtfibdnhihnccaaaGreat
open Go.RowKit
attribute [local go_sem ↓] Go.wp_at_zero Go.wp_at_succ

/-- The first n items are of the part p, and none is newer than its row. -/
def LdTo (p : Int) (R I : List KD) (n : Nat) : Prop := ∀ i, i < n → partOf (keyK (I.getD i kd0)) = p ∧ verK (I.getD i kd0) ≤ verAt R (keyK (I.getD i kd0))
instance (p : Int) (R I : List KD) (n : Nat) : Decidable (LdTo p R I n) := inferInstanceAs (Decidable (∀ i, i < n → partOf (keyK (I.getD i kd0)) = p ∧ verK (I.getD i kd0) ≤ verAt R (keyK (I.getD i kd0))))
def ldB (p : Int) (R I : List KD) : Bool := decide (LdTo p R I I.length)
def okLd (ti : Int) (I F : List KD) (p f st : Int) (R D T S Lg : List KD) : Bool := okS p f st R D T S Lg && (decide (0 ≤ ti) && (decide (ti ≤ f) && (okC I F && ldB p R I)))
theorem LdTo.more {p : Int} {R I : List KD} {k : Nat} (h : LdTo p R I k) (h1 : partOf (keyK (I.getD k kd0)) = p) (h2 : verK (I.getD k kd0) ≤ verAt R (keyK (I.getD k kd0))) : LdTo p R I (k + 1) := by
  intro i hi
  by_cases e : i = k
  · rw [e]; exact ⟨h1, h2⟩
  · exact h i (by omega)
theorem ldB_no {p : Int} {R I : List KD} {k : Nat} (hk : k < I.length) (h : ¬ (partOf (keyK (I.getD k kd0)) = p ∧ verK (I.getD k kd0) ≤ verAt R (keyK (I.getD k kd0)))) : ldB p R I = false := decide_eq_false (fun q => h (q k hk))
/-- The rows' Vers, as they are read in the worlds behind w. -/
def RowsRd (w : World) (br or' : Nat) (R : List KD) : Prop := br < w.heap.size ∧ ∀ j, j < 24 → ∃ d, colK R j 0 = d ∧ w.cell? ⟨br, or' + j * 3, none⟩ = some (.int .i64 d)
theorem RowsRd.later {w w' : World} {br or' : Nat} {R : List KD} (h : RowsRd w br or' R) (hb : Below w.heap.size w w') : RowsRd w' br or' R :=
  ⟨Nat.lt_of_lt_of_le h.1 hb.size, fun j hj => by obtain ⟨d, h1, h2⟩ := h.2 j hj; exact ⟨d, h1, (hb.cell (p := ⟨br, or' + j * 3, none⟩) h.1).trans h2⟩⟩
theorem rowsRd_of {w : World} {v : Value} {R : List KD} (h : RdM 3 2 true w v R) (h24 : R.length = 24) : ∃ br or' q0, v = .slice (some ⟨br, or', none⟩) 24 q0 ∧ RowsRd w br or' R := by
  obtain ⟨ar, q0, rfl, _, hc⟩ := h
  obtain ⟨br, or', rfl, hb, hcc⟩ := hc (by omega)
  refine ⟨br, or', q0, by rw [h24], hb, fun j hj => ?_⟩
  obtain ⟨t0, t1, tl, tu, ht, z0, _⟩ := atK_2k (hcc j (by omega))
  exact ⟨t0, by rw [colK, ht]; rfl, z0⟩
set_option maxRecDepth 100000 in
set_option maxHeartbeats 2000000 in
theorem ahead_any (B br or' q0 : Nat) (p k v n : Int) (u : Value) (R : List KD) (w : World) (h0 : w.cell? ⟨B, 0, none⟩ = some (.int .i64 p)) (h3 : w.cell? ⟨B, 3, none⟩ = some (.slice (some ⟨br, or', none⟩) 24 q0)) (hR : RowsRd w br or' R) (hp : 0 ≤ p) (hB : B < w.heap.size) :
    Calls Tryz.prog 27 #[.agg #[.int .i64 k, .int .i64 v, .int .i64 n, u], .pointer (some ⟨B, 0, none⟩)] w fun e w' => e = .returned (.bool (!(decide (partOf k = p) && decide (v ≤ verAt R k)))) ∧ Below w.heap.size w w' := by
  have HR := hid hR
  clear hR
  go_enter Tryz.func27, Tryz.ntmps27
  go_upto_region 1 with fail
  generalize hW1 : (w.alloc (.cells #[.int .i64 k, .int .i64 v, .int .i64 n, u] 68)) = w1
  have a0_1 : w1.cell? ⟨w.heap.size, 0, none⟩ = some (.int .i64 k) := by subst hW1; go_cell
  have a1_1 : w1.cell? ⟨w.heap.size, 1, none⟩ = some (.int .i64 v) := by subst hW1; go_cell
  have a2_1 : w1.cell? ⟨w.heap.size, 2, none⟩ = some (.int .i64 n) := by subst hW1; go_cell
  have a3_1 : w1.cell? ⟨w.heap.size, 3, none⟩ = some (u) := by subst hW1; go_cell
  have al_1 : w.heap.size < w1.heap.size := by subst hW1; first | (simp; done) | (simp; omega)
  have c1 : Below w.heap.size w w1 := by subst hW1; go_grown
  have s1 : w1.heap.size = w.heap.size + 1 := by subst hW1; simp
  clear hW1
  have qa0_1 := cell_regrown a0_1
  have qa1_1 := cell_regrown a1_1
  have qa2_1 := cell_regrown a2_1
  have qa3_1 := cell_regrown a3_1
  have r0 := cell_regrown ((c1.cell (p := ⟨B, 0, none⟩) hB).trans h0)
  have r3 := cell_regrown ((c1.cell (p := ⟨B, 3, none⟩) hB).trans h3)
  have ra0 := cell_regrown a0_1
  have ra1 := cell_regrown a1_1
  by_cases h1 : partOf k = p
  case neg =>
    have g1 : (partOf k != p) = true := by simpa using h1
    have hres : (!(decide (partOf k = p) && decide (v ≤ verAt R k))) = true := by simp [h1]
    have HRES := hid hres
    have H1 := hid h1
    clear h1 hres
    refine wp_region_quiet_below (by kernel_rfl) (by kernel_rfl) ?_
    repeat (first | go_big_quiet_skip | (go_big_quiet_want; go_big_quiet_op; first | go_big_quiet_on | go_big_quiet_call (first | (go_at_call 28; exact Calls.regrown_of (implShard_b _ _)))))
    refine wpQuiet_nil ?_
    rintro wq ⟨pq, hwq⟩
    have hq : Below w1.heap.size w1 wq := by rw [hwq]; exact below_regrown _ _ _
    clear hwq pq
    have cq := c1.trans (hq.mono c1.size)
    go_wp2
    go_ret
    exact ⟨by rw [HRES.out]; simp, cq⟩
  have g1 : (partOf k != p) = false := by simpa using h1
  have hpk := partOf_key h1 hp
  obtain ⟨j, rfl⟩ := Int.eq_ofNat_of_zero_le hpk.1
  have hj24 : j < 24 := by omega
  obtain ⟨ver, hver, hvc⟩ := HR.out.2 j hj24
  have hva : verAt R (j : Int) = ver := by unfold verAt; simpa using hver
  have rv := cell_regrown ((c1.cell (p := ⟨br, or' + j * 3, none⟩) HR.out.1).trans hvc)
  have hji : (j : Int) < 24 := by omega
  have hres : (!(decide (partOf (j : Int) = p) && decide (v ≤ verAt R (j : Int)))) = decide (v > ver) := by
    rw [h1, hva]
    by_cases z : v ≤ ver
    · have z2 : ¬ v > ver := by omega
      simp [z, z2]
    · have z2 : v > ver := by omega
      simp [z, z2]
  have H1 := hid h1
  have HRES := hid hres
  clear h1 hver hvc hpk hva hres
  refine wp_region_quiet_below (by kernel_rfl) (by kernel_rfl) ?_
  repeat (first | go_big_quiet_skip | (go_big_quiet_want; go_big_quiet_op; first | go_big_quiet_on | go_big_quiet_call (first | (go_at_call 28; exact Calls.regrown_of (implShard_b _ _)))))
  refine wpQuiet_nil ?_
  rintro wq ⟨pq, hwq⟩
  have hq : Below w1.heap.size w1 wq := by rw [hwq]; exact below_regrown _ _ _
  clear hwq pq
  have cq := c1.trans (hq.mono c1.size)
  go_wp2
  go_ret
  exact ⟨by rw [HRES.out]; simp, cq⟩
end Go.Proofs.YtfibdnhihnccaaaGreat

/- Part: spec.ShardOk: contract. Written by a program (gso.py). -/
namespace Go.Proofs.YtfibdnhihnccaaaGreat
open Go.RowKit
attribute [local go_sem ↓] Go.wp_at_zero Go.wp_at_succ

set_option maxRecDepth 100000 in
set_option maxHeartbeats 4000000 in
theorem specSOk_any (p f st : Int) (v0 v1 v2 v3 v4 : Value) (R D T S Lg : List KD) (w : World) (h : RSShard w v0 v1 v2 v3 v4 R D T S Lg) :
    Calls Tryz.prog 18 #[.agg #[.int .i64 p, .int .i64 f, .int .i64 st, v0, v1, v2, v3, v4]] w fun e w' => e = .returned (.bool (okS p f st R D T S Lg)) ∧ Below w.heap.size w w' := by
  have H := hid h
  obtain ⟨o0, o1, o2, o3, o4, q0, q1, q2, q3, q4, rfl, rfl, rfl, rfl, rfl⟩ := h.open
  clear h
  go_enter Tryz.func18, Tryz.ntmps18
  by_cases hp0 : 0 ≤ p
  case neg =>
    have hno : okS p f st R D T S Lg = false := by
      unfold okS
      rw [decide_eq_false (show ¬ (0 ≤ p ∧ p < 2) from fun z => hp0 z.1)]
      simp
    have gp0 : decide (p ≥ 0) = false := by simp; omega
    go_wp2
    go_ret
    exact ⟨by first | (simp; done) | simp [hno], by go_grown⟩
  have gp0 : decide (p ≥ 0) = true := by simp; omega
  by_cases hp1 : p < 2
  case neg =>
    have hno : okS p f st R D T S Lg = false := by
      unfold okS
      rw [decide_eq_false (show ¬ (0 ≤ p ∧ p < 2) from fun z => hp1 z.2)]
      simp
    have gp1 : decide (p < 2) = false := by simp; omega
    go_wp2
    go_ret
    exact ⟨by first | (simp; done) | simp [hno], by go_grown⟩
  have gp1 : decide (p < 2) = true := by simp; omega
  have hp := And.intro hp0 hp1
  by_cases hf : 0 ≤ f
  case neg =>
    have hno : okS p f st R D T S Lg = false := by
      unfold okS
      rw [decide_eq_false hf]
      simp
    have gf : decide (f ≥ 0) = false := by simp; omega
    go_wp2
    go_ret
    exact ⟨by first | (simp; done) | simp [hno], by go_grown⟩
  have gf : decide (f ≥ 0) = true := by simp; omega
  by_cases hs0 : 0 ≤ st
  case neg =>
    have hno : okS p f st R D T S Lg = false := by
      unfold okS
      rw [decide_eq_false (show ¬ (0 ≤ st ∧ st ≤ 60) from fun z => hs0 z.1)]
      simp
    have gs0 : decide (st ≥ 0) = false := by simp; omega
    go_wp2
    go_ret
    exact ⟨by first | (simp; done) | simp [hno], by go_grown⟩
  have gs0 : decide (st ≥ 0) = true := by simp; omega
  by_cases hs1 : st ≤ 60
  case neg =>
    have hno : okS p f st R D T S Lg = false := by
      unfold okS
      rw [decide_eq_false (show ¬ (0 ≤ st ∧ st ≤ 60) from fun z => hs1 z.2)]
      simp
    have gs1 : decide (st ≤ 60) = false := by simp; omega
    go_wp2
    go_ret
    exact ⟨by first | (simp; done) | simp [hno], by go_grown⟩
  have gs1 : decide (st ≤ 60) = true := by simp; omega
  have hs : 0 ≤ st ∧ st ≤ 60 := ⟨hs0, hs1⟩
  have hd0 : decide (0 ≤ p ∧ p < 2) = true := decide_eq_true hp
  have hd1 : decide (0 ≤ f) = true := decide_eq_true hf
  have hd2 : decide (0 ≤ st ∧ st ≤ 60) = true := decide_eq_true hs
  have HOK : Hid (okS p f st R D T S Lg = (logB p R Lg && (donesB p R D && (intsB p st T && seenB p S)))) := hid (by
    unfold okS
    rw [hd0, hd1, hd2]
    simp only [Bool.true_and])
  have HP := hid hp
  clear hd0 hd1 hd2
  go_wp2_with fail
  generalize hW1 : (w.alloc (.cells #[.int .i64 p, .int .i64 f, .int .i64 st, .slice o0 R.length q0, .slice o1 D.length q1, .slice o2 T.length q2, .slice o3 S.length q3, .slice o4 Lg.length q4] 50)) = w1
  have a0_1 : w1.cell? ⟨w.heap.size, 0, none⟩ = some (.int .i64 p) := by subst hW1; go_cell
  have a1_1 : w1.cell? ⟨w.heap.size, 1, none⟩ = some (.int .i64 f) := by subst hW1; go_cell
  have a2_1 : w1.cell? ⟨w.heap.size, 2, none⟩ = some (.int .i64 st) := by subst hW1; go_cell
  have a3_1 : w1.cell? ⟨w.heap.size, 3, none⟩ = some (.slice o0 R.length q0) := by subst hW1; go_cell
  have a4_1 : w1.cell? ⟨w.heap.size, 4, none⟩ = some (.slice o1 D.length q1) := by subst hW1; go_cell
  have a5_1 : w1.cell? ⟨w.heap.size, 5, none⟩ = some (.slice o2 T.length q2) := by subst hW1; go_cell
  have a6_1 : w1.cell? ⟨w.heap.size, 6, none⟩ = some (.slice o3 S.length q3) := by subst hW1; go_cell
  have a7_1 : w1.cell? ⟨w.heap.size, 7, none⟩ = some (.slice o4 Lg.length q4) := by subst hW1; go_cell
  have al_1 : w.heap.size < w1.heap.size := by subst hW1; first | (simp; done) | (simp; omega)
  have c1 : Below w.heap.size w w1 := by subst hW1; go_grown
  have s1 : w1.heap.size = w.heap.size + 1 := by subst hW1; simp
  clear hW1
  have qa0_1 := cell_regrown a0_1
  have qa1_1 := cell_regrown a1_1
  have qa2_1 := cell_regrown a2_1
  have qa3_1 := cell_regrown a3_1
  have qa4_1 := cell_regrown a4_1
  have qa5_1 := cell_regrown a5_1
  have qa6_1 := cell_regrown a6_1
  have qa7_1 := cell_regrown a7_1
  clear qa0_1 qa1_1 qa2_1 qa3_1 qa4_1 qa5_1 qa6_1 qa7_1
  refine (specRows_any p f st _ _ _ _ _ R Lg _ (H.out.h0.later c1) (H.out.h4.later c1) HP.out.1).mono ?_
  rintro e w2 ⟨rfl, b2⟩
  have d2 : Below w1.heap.size w1 w2 := (Below.trans (by go_grown) (b2.mono (by first | omega | (simp; done) | (simp; omega))))
  have c2 : Below w.heap.size w w2 := c1.trans (d2.mono c1.size)
  have a0_2 : w2.cell? ⟨w.heap.size, 0, none⟩ = some (.int .i64 p) := (by rw [b2.cell (by first | omega | (simp; done) | (simp; omega))]; go_cell)
  have a1_2 : w2.cell? ⟨w.heap.size, 1, none⟩ = some (.int .i64 f) := (by rw [b2.cell (by first | omega | (simp; done) | (simp; omega))]; go_cell)
  have a2_2 : w2.cell? ⟨w.heap.size, 2, none⟩ = some (.int .i64 st) := (by rw [b2.cell (by first | omega | (simp; done) | (simp; omega))]; go_cell)
  have a3_2 : w2.cell? ⟨w.heap.size, 3, none⟩ = some (.slice o0 R.length q0) := (by rw [b2.cell (by first | omega | (simp; done) | (simp; omega))]; go_cell)
  have a4_2 : w2.cell? ⟨w.heap.size, 4, none⟩ = some (.slice o1 D.length q1) := (by rw [b2.cell (by first | omega | (simp; done) | (simp; omega))]; go_cell)
  have a5_2 : w2.cell? ⟨w.heap.size, 5, none⟩ = some (.slice o2 T.length q2) := (by rw [b2.cell (by first | omega | (simp; done) | (simp; omega))]; go_cell)
  have a6_2 : w2.cell? ⟨w.heap.size, 6, none⟩ = some (.slice o3 S.length q3) := (by rw [b2.cell (by first | omega | (simp; done) | (simp; omega))]; go_cell)
  have a7_2 : w2.cell? ⟨w.heap.size, 7, none⟩ = some (.slice o4 Lg.length q4) := (by rw [b2.cell (by first | omega | (simp; done) | (simp; omega))]; go_cell)
  have al_2 : w.heap.size < w2.heap.size := (by have := b2.size; first | omega | (revert this; simp; done) | (revert this; simp; omega))
  clear a0_1 a1_1 a2_1 a3_1 a4_1 a5_1 a6_1 a7_1 al_1
  clear b2 d2
  cases hb0 : logB p R Lg with
  | false =>
    have hno : okS p f st R D T S Lg = false := by rw [HOK.out, hb0]; simp
    go_wp2
    go_ret
    exact ⟨by simp [hno], c2⟩
  | true =>
    have HB0 := hid hb0
    have HR24 := hid ((of_decide_eq_true hb0).1)
    clear hb0
    go_wp2_with fail
    refine (specDones_any p f st _ _ _ _ _ R D _ (H.out.h0.later c2) (H.out.h1.later c2) HR24.out HP.out.1).mono ?_
    rintro e w3 ⟨rfl, b3⟩
    have d3 : Below w2.heap.size w2 w3 := (Below.trans (by go_grown) (b3.mono (by first | omega | (simp; done) | (simp; omega))))
    have c3 : Below w.heap.size w w3 := c2.trans (d3.mono c2.size)
    have a0_3 : w3.cell? ⟨w.heap.size, 0, none⟩ = some (.int .i64 p) := (by rw [b3.cell (by first | omega | (simp; done) | (simp; omega))]; go_cell)
    have a1_3 : w3.cell? ⟨w.heap.size, 1, none⟩ = some (.int .i64 f) := (by rw [b3.cell (by first | omega | (simp; done) | (simp; omega))]; go_cell)
    have a2_3 : w3.cell? ⟨w.heap.size, 2, none⟩ = some (.int .i64 st) := (by rw [b3.cell (by first | omega | (simp; done) | (simp; omega))]; go_cell)
    have a3_3 : w3.cell? ⟨w.heap.size, 3, none⟩ = some (.slice o0 R.length q0) := (by rw [b3.cell (by first | omega | (simp; done) | (simp; omega))]; go_cell)
    have a4_3 : w3.cell? ⟨w.heap.size, 4, none⟩ = some (.slice o1 D.length q1) := (by rw [b3.cell (by first | omega | (simp; done) | (simp; omega))]; go_cell)
    have a5_3 : w3.cell? ⟨w.heap.size, 5, none⟩ = some (.slice o2 T.length q2) := (by rw [b3.cell (by first | omega | (simp; done) | (simp; omega))]; go_cell)
    have a6_3 : w3.cell? ⟨w.heap.size, 6, none⟩ = some (.slice o3 S.length q3) := (by rw [b3.cell (by first | omega | (simp; done) | (simp; omega))]; go_cell)
    have a7_3 : w3.cell? ⟨w.heap.size, 7, none⟩ = some (.slice o4 Lg.length q4) := (by rw [b3.cell (by first | omega | (simp; done) | (simp; omega))]; go_cell)
    have al_3 : w.heap.size < w3.heap.size := (by have := b3.size; first | omega | (revert this; simp; done) | (revert this; simp; omega))
    clear a0_2 a1_2 a2_2 a3_2 a4_2 a5_2 a6_2 a7_2 al_2
    clear b3 d3
    cases hb1 : donesB p R D with
    | false =>
      have hno : okS p f st R D T S Lg = false := by rw [HOK.out, HB0.out, hb1]; simp
      go_wp2
      go_ret
      exact ⟨by simp [hno], c3⟩
    | true =>
      have HB1 := hid hb1
      clear hb1
      go_wp2_with fail
      refine (specInts_any p f st _ _ _ _ _ T _ (H.out.h2.later c3)).mono ?_
      rintro e w4 ⟨rfl, b4⟩
      have d4 : Below w3.heap.size w3 w4 := (Below.trans (by go_grown) (b4.mono (by first | omega | (simp; done) | (simp; omega))))
      have c4 : Below w.heap.size w w4 := c3.trans (d4.mono c3.size)
      have a0_4 : w4.cell? ⟨w.heap.size, 0, none⟩ = some (.int .i64 p) := (by rw [b4.cell (by first | omega | (simp; done) | (simp; omega))]; go_cell)
      have a1_4 : w4.cell? ⟨w.heap.size, 1, none⟩ = some (.int .i64 f) := (by rw [b4.cell (by first | omega | (simp; done) | (simp; omega))]; go_cell)
      have a2_4 : w4.cell? ⟨w.heap.size, 2, none⟩ = some (.int .i64 st) := (by rw [b4.cell (by first | omega | (simp; done) | (simp; omega))]; go_cell)
      have a3_4 : w4.cell? ⟨w.heap.size, 3, none⟩ = some (.slice o0 R.length q0) := (by rw [b4.cell (by first | omega | (simp; done) | (simp; omega))]; go_cell)
      have a4_4 : w4.cell? ⟨w.heap.size, 4, none⟩ = some (.slice o1 D.length q1) := (by rw [b4.cell (by first | omega | (simp; done) | (simp; omega))]; go_cell)
      have a5_4 : w4.cell? ⟨w.heap.size, 5, none⟩ = some (.slice o2 T.length q2) := (by rw [b4.cell (by first | omega | (simp; done) | (simp; omega))]; go_cell)
      have a6_4 : w4.cell? ⟨w.heap.size, 6, none⟩ = some (.slice o3 S.length q3) := (by rw [b4.cell (by first | omega | (simp; done) | (simp; omega))]; go_cell)
      have a7_4 : w4.cell? ⟨w.heap.size, 7, none⟩ = some (.slice o4 Lg.length q4) := (by rw [b4.cell (by first | omega | (simp; done) | (simp; omega))]; go_cell)
      have al_4 : w.heap.size < w4.heap.size := (by have := b4.size; first | omega | (revert this; simp; done) | (revert this; simp; omega))
      clear a0_3 a1_3 a2_3 a3_3 a4_3 a5_3 a6_3 a7_3 al_3
      clear b4 d4
      cases hb2 : intsB p st T with
      | false =>
        have hno : okS p f st R D T S Lg = false := by rw [HOK.out, HB0.out, HB1.out, hb2]; simp
        go_wp2
        go_ret
        exact ⟨by simp [hno], c4⟩
      | true =>
        have HB2 := hid hb2
        clear hb2
        go_wp2_with fail
        refine (specSeen_any p f st _ _ _ _ _ S _ (H.out.h3.later c4) HP.out.1).mono ?_
        rintro e w5 ⟨rfl, b5⟩
        have d5 : Below w4.heap.size w4 w5 := (Below.trans (by go_grown) (b5.mono (by first | omega | (simp; done) | (simp; omega))))
        have c5 : Below w.heap.size w w5 := c4.trans (d5.mono c4.size)
        have a0_5 : w5.cell? ⟨w.heap.size, 0, none⟩ = some (.int .i64 p) := (by rw [b5.cell (by first | omega | (simp; done) | (simp; omega))]; go_cell)
        have a1_5 : w5.cell? ⟨w.heap.size, 1, none⟩ = some (.int .i64 f) := (by rw [b5.cell (by first | omega | (simp; done) | (simp; omega))]; go_cell)
        have a2_5 : w5.cell? ⟨w.heap.size, 2, none⟩ = some (.int .i64 st) := (by rw [b5.cell (by first | omega | (simp; done) | (simp; omega))]; go_cell)
        have a3_5 : w5.cell? ⟨w.heap.size, 3, none⟩ = some (.slice o0 R.length q0) := (by rw [b5.cell (by first | omega | (simp; done) | (simp; omega))]; go_cell)
        have a4_5 : w5.cell? ⟨w.heap.size, 4, none⟩ = some (.slice o1 D.length q1) := (by rw [b5.cell (by first | omega | (simp; done) | (simp; omega))]; go_cell)
        have a5_5 : w5.cell? ⟨w.heap.size, 5, none⟩ = some (.slice o2 T.length q2) := (by rw [b5.cell (by first | omega | (simp; done) | (simp; omega))]; go_cell)
        have a6_5 : w5.cell? ⟨w.heap.size, 6, none⟩ = some (.slice o3 S.length q3) := (by rw [b5.cell (by first | omega | (simp; done) | (simp; omega))]; go_cell)
        have a7_5 : w5.cell? ⟨w.heap.size, 7, none⟩ = some (.slice o4 Lg.length q4) := (by rw [b5.cell (by first | omega | (simp; done) | (simp; omega))]; go_cell)
        have al_5 : w.heap.size < w5.heap.size := (by have := b5.size; first | omega | (revert this; simp; done) | (revert this; simp; omega))
        clear a0_4 a1_4 a2_4 a3_4 a4_4 a5_4 a6_4 a7_4 al_4
        clear b5 d5
        have hyes : okS p f st R D T S Lg = seenB p S := by rw [HOK.out, HB0.out, HB1.out, HB2.out]; simp
        go_wp2
        go_ret
        exact ⟨by simp [hyes], c5⟩
end Go.Proofs.YtfibdnhihnccaaaGreat

/- Part: Both LeadOk: contracts. Written by a program (gsx.py). -/
namespace Go.Proofs.YtfibdnhihnccaaaGreat
open Go.RowKit
attribute [local go_sem ↓] Go.wp_at_zero Go.wp_at_succ

theorem okS_parts {p f st : Int} {R D T S Lg : List KD} (h : okS p f st R D T S Lg = true) : (0 ≤ p ∧ p < 2) ∧ R.length = 24 := by
  unfold okS at h
  simp only [Bool.and_eq_true, decide_eq_true_eq] at h
  exact ⟨h.1, (of_decide_eq_true h.2.2.2.1).1⟩
set_option maxRecDepth 100000 in
set_option maxHeartbeats 4000000 in
theorem indexAhead_any (B br or' q0 : Nat) (p : Int) (v : Value) (R I : List KD) (w : World) (hI : RdM 4 3 true w v I) (h0 : w.cell? ⟨B, 0, none⟩ = some (.int .i64 p)) (h3 : w.cell? ⟨B, 3, none⟩ = some (.slice (some ⟨br, or', none⟩) 24 q0)) (hR : RowsRd w br or' R) (hp : 0 ≤ p) (hB : B < w.heap.size) :
    Calls Tryz.prog 63 #[v, .func (.func 27) #[] #[.pointer (some ⟨B, 0, none⟩)]] w fun e w' => ((ldB p R I = true ∧ e = .returned (.int .i64 (-1))) ∨ (ldB p R I = false ∧ ∃ n : Nat, e = .returned (.int .i64 n))) ∧ Below w.heap.size w w' := by
  have HI := hid hI
  obtain ⟨io, ic, rfl, hml, hci⟩ := hI
  have HC := hid hci
  have HR := hid hR
  clear hci hR
  unfold maxLen at hml
  go_enter Tryz.func63, Tryz.ntmps63
  go_wp2
  go_loopw [8] (fun i wr => ∃ k : Nat, k ≤ I.length ∧ i = .int .i64 k ∧ Hid (LdTo p R I k) ∧ Hid (Below w.heap.size w wr)) (fun i _ => I.length - (intOf i).toNat)
  case atStart => exact ⟨0, Nat.zero_le _, rfl, hid (fun j hj => absurd hj (Nat.not_lt_zero j)), hid (Below.refl _ _)⟩
  case round =>
    obtain ⟨k, hk, rfl, hpre, hbel⟩ := hrel
    obtain ⟨w50, hw50⟩ : ∃ y, y = wr := ⟨_, rfl⟩
    subst hw50
    have c50 := hbel.out
    by_cases hlt : k < I.length
    · obtain ⟨b, o, rfl, hb, hcc⟩ := HC.out (by omega)
      obtain ⟨key, p1, nm, l, u, hx, e0, e1, e2, e3, hu⟩ := atK_3k ((hcc k hlt).later hb c50)
      have hki : (k : Int) < (I.length : Int) := by omega
      obtain ⟨uo, uc, rfl, _⟩ := hu
      have HNO : Hid (¬ (partOf key = p ∧ p1 ≤ verAt R key) → ldB p R I = false) := hid (fun z => ldB_no hlt (by rw [hx]; exact z))
      have HM : Hid (partOf key = p → p1 ≤ verAt R key → LdTo p R I (k + 1)) := hid (fun z1 z2 => hpre.out.more (by rw [hx]; exact z1) (by rw [hx]; exact z2))
      have HLT := hid hlt
      have HH0 := hid ((c50.cell (p := ⟨B, 0, none⟩) hB).trans h0)
      have HH3 := hid ((c50.cell (p := ⟨B, 3, none⟩) hB).trans h3)
      have hBw : B < w50.heap.size := Nat.lt_of_lt_of_le hB c50.size
      clear hx hcc hlt hpre hbel
      go_wp2_with fail
      refine (ahead_any B br or' q0 p key p1 nm _ R _ (by first | exact HH0.out | exact (Below.cell (by go_grown) hBw).trans HH0.out) (by first | exact HH3.out | exact (Below.cell (by go_grown) hBw).trans HH3.out) (HR.out.later (by first | exact c50 | exact c50.trans (by go_grown))) hp (by first | exact hBw | (simp; omega))).mono ?_
      rintro e w60 ⟨rfl, b60⟩
      have cq : Below w.heap.size w w60 := by first | exact c50.trans (b60.mono c50.size) | exact c50.trans (Below.mono (by exact (Below.trans (by go_grown) (b60.mono (by first | omega | (simp; done) | (simp; omega))))) c50.size)
      clear b60
      by_cases hz : partOf key = p ∧ p1 ≤ verAt R key
      · have hr : (!(decide (partOf key = p) && decide (p1 ≤ verAt R key))) = false := by simp [hz.1, hz.2]
        have HN := hid (HM.out hz.1 hz.2)
        rw [hr]
        clear hr hz
        go_wp2_with fail
        go_roundw
        case rel => exact ⟨k + 1, by have := HLT.out; omega, by go_num, HN, hid cq⟩
        case measure =>
          have := HLT.out
          simp [intOf]
          omega
      · have hr : (!(decide (partOf key = p) && decide (p1 ≤ verAt R key))) = true := by
          rw [Bool.not_eq_true', Bool.and_eq_false_iff]
          by_cases z : partOf key = p
          · exact Or.inr (decide_eq_false (fun q => hz ⟨z, q⟩))
          · exact Or.inl (decide_eq_false z)
        have HN := hid (HNO.out hz)
        rw [hr]
        clear hr hz
        go_wp2_with fail
        go_ret
        exact ⟨Or.inr ⟨HN.out, k, by simp⟩, cq⟩
    · obtain rfl : k = I.length := by omega
      have HA := hid (show ldB p R I = true from decide_eq_true hpre.out)
      have hki : ¬ ((I.length : Int) < (I.length : Int)) := by omega
      go_wp2
      go_ret
      exact ⟨Or.inl ⟨HA.out, by simp⟩, c50⟩
set_option maxRecDepth 100000 in
set_option maxHeartbeats 2000000 in
theorem containsAhead_any (B br or' q0 : Nat) (p : Int) (v : Value) (R I : List KD) (w : World) (hI : RdM 4 3 true w v I) (h0 : w.cell? ⟨B, 0, none⟩ = some (.int .i64 p)) (h3 : w.cell? ⟨B, 3, none⟩ = some (.slice (some ⟨br, or', none⟩) 24 q0)) (hR : RowsRd w br or' R) (hp : 0 ≤ p) (hB : B < w.heap.size) :
    Calls Tryz.prog 31 #[v, .func (.func 27) #[] #[.pointer (some ⟨B, 0, none⟩)]] w fun e w' => e = .returned (.bool (!ldB p R I)) ∧ Below w.heap.size w w' := by
  have HI := hid hI
  have HR := hid hR
  obtain ⟨io, ic, rfl, _⟩ := hI
  clear hR
  go_enter Tryz.func31, Tryz.ntmps31
  go_wp2_with fail
  refine (indexAhead_any B br or' q0 p _ R I _ HI.out h0 h3 HR.out hp hB).mono ?_
  rintro e w2 ⟨hF, b2⟩
  rcases hF with ⟨hf, rfl⟩ | ⟨hf, n, rfl⟩
  · have HF := hid hf
    clear hf
    go_wp2
    go_ret
    exact ⟨by simp [HF.out], b2⟩
  · have HF := hid hf
    have hn : decide ((n : Int) ≥ 0) = true := by simp
    clear hf
    go_wp2
    go_ret
    exact ⟨by simp [HF.out], b2⟩
set_option maxRecDepth 100000 in
set_option maxHeartbeats 4000000 in
theorem implLOk_any (ti : Int) (tu : Bool) (va0 va1 : Value) (I F : List KD) (p f st : Int) (v0 v1 v2 v3 v4 : Value) (R D T S Lg : List KD) (w : World) (ha : RSCache w va0 va1 I F) (hb : RSShard w v0 v1 v2 v3 v4 R D T S Lg) :
    Calls Tryz.prog 9 #[.agg #[.int .i64 ti, .bool tu, va0, va1], .agg #[.int .i64 p, .int .i64 f, .int .i64 st, v0, v1, v2, v3, v4]] w fun e w' => e = .returned (.bool (okLd ti I F p f st R D T S Lg)) ∧ Below w.heap.size w w' := by
  have HA := hid ha
  have HB := hid hb
  obtain ⟨io, fo, ic, fc, rfl, rfl⟩ := ha.open
  obtain ⟨o0, o1, o2, o3, o4, q0, q1, q2, q3, q4, rfl, rfl, rfl, rfl, rfl⟩ := hb.open
  clear ha hb
  go_enter Tryz.func9, Tryz.ntmps9
  go_wp2_with fail
  generalize hW1 : ((w.alloc (.cells #[.int .i64 ti, .bool tu, .slice io I.length ic, .slice fo F.length fc] 42)).alloc (.cells #[.int .i64 p, .int .i64 f, .int .i64 st, .slice o0 R.length q0, .slice o1 D.length q1, .slice o2 T.length q2, .slice o3 S.length q3, .slice o4 Lg.length q4] 50)) = w1
  have a0_1 : w1.cell? ⟨w.heap.size, 0, none⟩ = some (.int .i64 ti) := by subst hW1; go_cell
  have a1_1 : w1.cell? ⟨w.heap.size, 1, none⟩ = some (.bool tu) := by subst hW1; go_cell
  have a2_1 : w1.cell? ⟨w.heap.size, 2, none⟩ = some (.slice io I.length ic) := by subst hW1; go_cell
  have a3_1 : w1.cell? ⟨w.heap.size, 3, none⟩ = some (.slice fo F.length fc) := by subst hW1; go_cell
  have al_1 : w.heap.size < w1.heap.size := by subst hW1; first | (simp; done) | (simp; omega)
  have b0_1 : w1.cell? ⟨w.heap.size + 1, 0, none⟩ = some (.int .i64 p) := by subst hW1; go_cell
  have b1_1 : w1.cell? ⟨w.heap.size + 1, 1, none⟩ = some (.int .i64 f) := by subst hW1; go_cell
  have b2_1 : w1.cell? ⟨w.heap.size + 1, 2, none⟩ = some (.int .i64 st) := by subst hW1; go_cell
  have b3_1 : w1.cell? ⟨w.heap.size + 1, 3, none⟩ = some (.slice o0 R.length q0) := by subst hW1; go_cell
  have b4_1 : w1.cell? ⟨w.heap.size + 1, 4, none⟩ = some (.slice o1 D.length q1) := by subst hW1; go_cell
  have b5_1 : w1.cell? ⟨w.heap.size + 1, 5, none⟩ = some (.slice o2 T.length q2) := by subst hW1; go_cell
  have b6_1 : w1.cell? ⟨w.heap.size + 1, 6, none⟩ = some (.slice o3 S.length q3) := by subst hW1; go_cell
  have b7_1 : w1.cell? ⟨w.heap.size + 1, 7, none⟩ = some (.slice o4 Lg.length q4) := by subst hW1; go_cell
  have bl_1 : w.heap.size + 1 < w1.heap.size := by subst hW1; first | (simp; done) | (simp; omega)
  have c1 : Below w.heap.size w w1 := by subst hW1; go_grown
  have s1 : w1.heap.size = w.heap.size + 2 := by subst hW1; simp
  clear hW1
  have qa0_1 := cell_regrown a0_1
  have qa1_1 := cell_regrown a1_1
  have qa2_1 := cell_regrown a2_1
  have qa3_1 := cell_regrown a3_1
  have qb0_1 := cell_regrown b0_1
  have qb1_1 := cell_regrown b1_1
  have qb2_1 := cell_regrown b2_1
  have qb3_1 := cell_regrown b3_1
  have qb4_1 := cell_regrown b4_1
  have qb5_1 := cell_regrown b5_1
  have qb6_1 := cell_regrown b6_1
  have qb7_1 := cell_regrown b7_1
  clear qa0_1 qa1_1 qa2_1 qa3_1 qb0_1 qb1_1 qb2_1 qb3_1 qb4_1 qb5_1 qb6_1 qb7_1 s1
  refine (implSOk_any p f st _ _ _ _ _ R D T S Lg _ (HB.out.later c1)).mono ?_
  rintro e w2 ⟨rfl, b2⟩
  have d2 : Below w1.heap.size w1 w2 := (Below.trans (by go_grown) (b2.mono (by first | omega | (simp; done) | (simp; omega))))
  have c2 : Below w.heap.size w w2 := c1.trans (d2.mono c1.size)
  have a0_2 : w2.cell? ⟨w.heap.size, 0, none⟩ = some (.int .i64 ti) := (by rw [b2.cell (by first | omega | (simp; done) | (simp; omega))]; go_cell)
  have a1_2 : w2.cell? ⟨w.heap.size, 1, none⟩ = some (.bool tu) := (by rw [b2.cell (by first | omega | (simp; done) | (simp; omega))]; go_cell)
  have a2_2 : w2.cell? ⟨w.heap.size, 2, none⟩ = some (.slice io I.length ic) := (by rw [b2.cell (by first | omega | (simp; done) | (simp; omega))]; go_cell)
  have a3_2 : w2.cell? ⟨w.heap.size, 3, none⟩ = some (.slice fo F.length fc) := (by rw [b2.cell (by first | omega | (simp; done) | (simp; omega))]; go_cell)
  have al_2 : w.heap.size < w2.heap.size := (by have := b2.size; first | omega | (revert this; simp; done) | (revert this; simp; omega))
  have b0_2 : w2.cell? ⟨w.heap.size + 1, 0, none⟩ = some (.int .i64 p) := (by rw [b2.cell (by first | omega | (simp; done) | (simp; omega))]; go_cell)
  have b1_2 : w2.cell? ⟨w.heap.size + 1, 1, none⟩ = some (.int .i64 f) := (by rw [b2.cell (by first | omega | (simp; done) | (simp; omega))]; go_cell)
  have b2_2 : w2.cell? ⟨w.heap.size + 1, 2, none⟩ = some (.int .i64 st) := (by rw [b2.cell (by first | omega | (simp; done) | (simp; omega))]; go_cell)
  have b3_2 : w2.cell? ⟨w.heap.size + 1, 3, none⟩ = some (.slice o0 R.length q0) := (by rw [b2.cell (by first | omega | (simp; done) | (simp; omega))]; go_cell)
  have b4_2 : w2.cell? ⟨w.heap.size + 1, 4, none⟩ = some (.slice o1 D.length q1) := (by rw [b2.cell (by first | omega | (simp; done) | (simp; omega))]; go_cell)
  have b5_2 : w2.cell? ⟨w.heap.size + 1, 5, none⟩ = some (.slice o2 T.length q2) := (by rw [b2.cell (by first | omega | (simp; done) | (simp; omega))]; go_cell)
  have b6_2 : w2.cell? ⟨w.heap.size + 1, 6, none⟩ = some (.slice o3 S.length q3) := (by rw [b2.cell (by first | omega | (simp; done) | (simp; omega))]; go_cell)
  have b7_2 : w2.cell? ⟨w.heap.size + 1, 7, none⟩ = some (.slice o4 Lg.length q4) := (by rw [b2.cell (by first | omega | (simp; done) | (simp; omega))]; go_cell)
  have bl_2 : w.heap.size + 1 < w2.heap.size := (by have := b2.size; first | omega | (revert this; simp; done) | (revert this; simp; omega))
  clear a0_1 a1_1 a2_1 a3_1 al_1 b0_1 b1_1 b2_1 b3_1 b4_1 b5_1 b6_1 b7_1 bl_1
  clear b2 d2
  cases hs : okS p f st R D T S Lg with
  | false =>
    have hno : okLd ti I F p f st R D T S Lg = false := by rw [okLd, hs, Bool.false_and]
    go_wp2
    go_ret
    exact ⟨by first | (simp; done) | simp [hno], c2⟩
  | true =>
    have HPS := hid (okS_parts hs)
    have HS := hid hs
    clear hs
    by_cases ht0 : 0 ≤ ti
    case neg =>
      have hno : okLd ti I F p f st R D T S Lg = false := by rw [okLd, HS.out, decide_eq_false ht0]; simp
      have g0 : decide (0 ≤ ti) = false := by simp; omega
      go_wp2
      go_ret
      exact ⟨by first | (simp; done) | simp [hno], c2⟩
    have g0 : decide (0 ≤ ti) = true := by simp; omega
    by_cases ht1 : ti ≤ f
    case neg =>
      have hno : okLd ti I F p f st R D T S Lg = false := by rw [okLd, HS.out, decide_eq_false ht1]; simp
      have g1 : decide (ti ≤ f) = false := by simp; omega
      go_wp2
      go_ret
      exact ⟨by first | (simp; done) | simp [hno], c2⟩
    have g1 : decide (ti ≤ f) = true := by simp; omega
    have HOK : Hid (okLd ti I F p f st R D T S Lg = (okC I F && ldB p R I)) := hid (by rw [okLd, HS.out, decide_eq_true ht0, decide_eq_true ht1]; simp)
    go_wp2_with fail
    refine (implCOk_any _ _ I F _ (HA.out.later c2).h0 (HA.out.later c2).h1).mono ?_
    rintro e w3 ⟨rfl, b3⟩
    have d3 : Below w2.heap.size w2 w3 := (Below.trans (by go_grown) (b3.mono (by first | omega | (simp; done) | (simp; omega))))
    have c3 : Below w.heap.size w w3 := c2.trans (d3.mono c2.size)
    have a0_3 : w3.cell? ⟨w.heap.size, 0, none⟩ = some (.int .i64 ti) := (by rw [b3.cell (by first | omega | (simp; done) | (simp; omega))]; go_cell)
    have a1_3 : w3.cell? ⟨w.heap.size, 1, none⟩ = some (.bool tu) := (by rw [b3.cell (by first | omega | (simp; done) | (simp; omega))]; go_cell)
    have a2_3 : w3.cell? ⟨w.heap.size, 2, none⟩ = some (.slice io I.length ic) := (by rw [b3.cell (by first | omega | (simp; done) | (simp; omega))]; go_cell)
    have a3_3 : w3.cell? ⟨w.heap.size, 3, none⟩ = some (.slice fo F.length fc) := (by rw [b3.cell (by first | omega | (simp; done) | (simp; omega))]; go_cell)
    have al_3 : w.heap.size < w3.heap.size := (by have := b3.size; first | omega | (revert this; simp; done) | (revert this; simp; omega))
    have b0_3 : w3.cell? ⟨w.heap.size + 1, 0, none⟩ = some (.int .i64 p) := (by rw [b3.cell (by first | omega | (simp; done) | (simp; omega))]; go_cell)
    have b1_3 : w3.cell? ⟨w.heap.size + 1, 1, none⟩ = some (.int .i64 f) := (by rw [b3.cell (by first | omega | (simp; done) | (simp; omega))]; go_cell)
    have b2_3 : w3.cell? ⟨w.heap.size + 1, 2, none⟩ = some (.int .i64 st) := (by rw [b3.cell (by first | omega | (simp; done) | (simp; omega))]; go_cell)
    have b3_3 : w3.cell? ⟨w.heap.size + 1, 3, none⟩ = some (.slice o0 R.length q0) := (by rw [b3.cell (by first | omega | (simp; done) | (simp; omega))]; go_cell)
    have b4_3 : w3.cell? ⟨w.heap.size + 1, 4, none⟩ = some (.slice o1 D.length q1) := (by rw [b3.cell (by first | omega | (simp; done) | (simp; omega))]; go_cell)
    have b5_3 : w3.cell? ⟨w.heap.size + 1, 5, none⟩ = some (.slice o2 T.length q2) := (by rw [b3.cell (by first | omega | (simp; done) | (simp; omega))]; go_cell)
    have b6_3 : w3.cell? ⟨w.heap.size + 1, 6, none⟩ = some (.slice o3 S.length q3) := (by rw [b3.cell (by first | omega | (simp; done) | (simp; omega))]; go_cell)
    have b7_3 : w3.cell? ⟨w.heap.size + 1, 7, none⟩ = some (.slice o4 Lg.length q4) := (by rw [b3.cell (by first | omega | (simp; done) | (simp; omega))]; go_cell)
    have bl_3 : w.heap.size + 1 < w3.heap.size := (by have := b3.size; first | omega | (revert this; simp; done) | (revert this; simp; omega))
    clear a0_2 a1_2 a2_2 a3_2 al_2 b0_2 b1_2 b2_2 b3_2 b4_2 b5_2 b6_2 b7_2 bl_2
    clear b3 d3
    cases hc : okC I F with
    | false =>
      have hno : okLd ti I F p f st R D T S Lg = false := by rw [HOK.out, hc, Bool.false_and]
      go_wp2
      go_ret
      exact ⟨by first | (simp; done) | simp [hno], c3⟩
    | true =>
      have HIS : Hid (okLd ti I F p f st R D T S Lg = ldB p R I) := hid (by rw [HOK.out, hc, Bool.true_and])
      have HR3 := hid (HB.out.later c3)
      obtain ⟨br, or', qq, hv, hrr⟩ := rowsRd_of HR3.out.h0 HPS.out.2
      injection hv with hv1 hv2 hv3
      subst hv1 hv3
      rw [hv2] at b3_3
      have HRR := hid hrr
      have HI3 := hid (HA.out.later c3).h0
      clear hc hrr HOK HR3
      go_wp2_with fail
      refine (containsAhead_any (w.heap.size + 1) br or' q0 p _ R I _ HI3.out b0_3 b3_3 HRR.out HPS.out.1.1 bl_3).mono ?_
      rintro e w4 ⟨rfl, b4⟩
      have cq := c3.trans (b4.mono c3.size)
      obtain ⟨r, hr⟩ : ∃ z, ldB p R I = z := ⟨_, rfl⟩
      have hyes : okLd ti I F p f st R D T S Lg = r := by rw [HIS.out, hr]
      rw [hr]
      have HYES := hid hyes
      clear hr hyes
      go_wp2
      go_ret
      exact ⟨by rw [HYES.out]; simp, cq⟩
set_option maxRecDepth 100000 in
set_option maxHeartbeats 4000000 in
theorem specLOk_any (ti : Int) (tu : Bool) (va0 va1 : Value) (I F : List KD) (p f st : Int) (v0 v1 v2 v3 v4 : Value) (R D T S Lg : List KD) (w : World) (ha : RSCache w va0 va1 I F) (hb : RSShard w v0 v1 v2 v3 v4 R D T S Lg) :
    Calls Tryz.prog 6 #[.agg #[.int .i64 ti, .bool tu, va0, va1], .agg #[.int .i64 p, .int .i64 f, .int .i64 st, v0, v1, v2, v3, v4]] w fun e w' => e = .returned (.bool (okLd ti I F p f st R D T S Lg)) ∧ Below w.heap.size w w' := by
  have HA := hid ha
  have HB := hid hb
  obtain ⟨io, fo, ic, fc, rfl, rfl⟩ := ha.open
  obtain ⟨o0, o1, o2, o3, o4, q0, q1, q2, q3, q4, rfl, rfl, rfl, rfl, rfl⟩ := hb.open
  clear ha hb
  go_enter Tryz.func6, Tryz.ntmps6
  go_wp2_with fail
  generalize hW1 : ((w.alloc (.cells #[.int .i64 ti, .bool tu, .slice io I.length ic, .slice fo F.length fc] 42)).alloc (.cells #[.int .i64 p, .int .i64 f, .int .i64 st, .slice o0 R.length q0, .slice o1 D.length q1, .slice o2 T.length q2, .slice o3 S.length q3, .slice o4 Lg.length q4] 50)) = w1
  have a0_1 : w1.cell? ⟨w.heap.size, 0, none⟩ = some (.int .i64 ti) := by subst hW1; go_cell
  have a1_1 : w1.cell? ⟨w.heap.size, 1, none⟩ = some (.bool tu) := by subst hW1; go_cell
  have a2_1 : w1.cell? ⟨w.heap.size, 2, none⟩ = some (.slice io I.length ic) := by subst hW1; go_cell
  have a3_1 : w1.cell? ⟨w.heap.size, 3, none⟩ = some (.slice fo F.length fc) := by subst hW1; go_cell
  have al_1 : w.heap.size < w1.heap.size := by subst hW1; first | (simp; done) | (simp; omega)
  have b0_1 : w1.cell? ⟨w.heap.size + 1, 0, none⟩ = some (.int .i64 p) := by subst hW1; go_cell
  have b1_1 : w1.cell? ⟨w.heap.size + 1, 1, none⟩ = some (.int .i64 f) := by subst hW1; go_cell
  have b2_1 : w1.cell? ⟨w.heap.size + 1, 2, none⟩ = some (.int .i64 st) := by subst hW1; go_cell
  have b3_1 : w1.cell? ⟨w.heap.size + 1, 3, none⟩ = some (.slice o0 R.length q0) := by subst hW1; go_cell
  have b4_1 : w1.cell? ⟨w.heap.size + 1, 4, none⟩ = some (.slice o1 D.length q1) := by subst hW1; go_cell
  have b5_1 : w1.cell? ⟨w.heap.size + 1, 5, none⟩ = some (.slice o2 T.length q2) := by subst hW1; go_cell
  have b6_1 : w1.cell? ⟨w.heap.size + 1, 6, none⟩ = some (.slice o3 S.length q3) := by subst hW1; go_cell
  have b7_1 : w1.cell? ⟨w.heap.size + 1, 7, none⟩ = some (.slice o4 Lg.length q4) := by subst hW1; go_cell
  have bl_1 : w.heap.size + 1 < w1.heap.size := by subst hW1; first | (simp; done) | (simp; omega)
  have c1 : Below w.heap.size w w1 := by subst hW1; go_grown
  have s1 : w1.heap.size = w.heap.size + 2 := by subst hW1; simp
  clear hW1
  have qa0_1 := cell_regrown a0_1
  have qa1_1 := cell_regrown a1_1
  have qa2_1 := cell_regrown a2_1
  have qa3_1 := cell_regrown a3_1
  have qb0_1 := cell_regrown b0_1
  have qb1_1 := cell_regrown b1_1
  have qb2_1 := cell_regrown b2_1
  have qb3_1 := cell_regrown b3_1
  have qb4_1 := cell_regrown b4_1
  have qb5_1 := cell_regrown b5_1
  have qb6_1 := cell_regrown b6_1
  have qb7_1 := cell_regrown b7_1
  clear qa0_1 qa1_1 qa2_1 qa3_1 qb0_1 qb1_1 qb2_1 qb3_1 qb4_1 qb5_1 qb6_1 qb7_1 s1
  refine (specSOk_any p f st _ _ _ _ _ R D T S Lg _ (HB.out.later c1)).mono ?_
  rintro e w2 ⟨rfl, b2⟩
  have d2 : Below w1.heap.size w1 w2 := (Below.trans (by go_grown) (b2.mono (by first | omega | (simp; done) | (simp; omega))))
  have c2 : Below w.heap.size w w2 := c1.trans (d2.mono c1.size)
  have a0_2 : w2.cell? ⟨w.heap.size, 0, none⟩ = some (.int .i64 ti) := (by rw [b2.cell (by first | omega | (simp; done) | (simp; omega))]; go_cell)
  have a1_2 : w2.cell? ⟨w.heap.size, 1, none⟩ = some (.bool tu) := (by rw [b2.cell (by first | omega | (simp; done) | (simp; omega))]; go_cell)
  have a2_2 : w2.cell? ⟨w.heap.size, 2, none⟩ = some (.slice io I.length ic) := (by rw [b2.cell (by first | omega | (simp; done) | (simp; omega))]; go_cell)
  have a3_2 : w2.cell? ⟨w.heap.size, 3, none⟩ = some (.slice fo F.length fc) := (by rw [b2.cell (by first | omega | (simp; done) | (simp; omega))]; go_cell)
  have al_2 : w.heap.size < w2.heap.size := (by have := b2.size; first | omega | (revert this; simp; done) | (revert this; simp; omega))
  have b0_2 : w2.cell? ⟨w.heap.size + 1, 0, none⟩ = some (.int .i64 p) := (by rw [b2.cell (by first | omega | (simp; done) | (simp; omega))]; go_cell)
  have b1_2 : w2.cell? ⟨w.heap.size + 1, 1, none⟩ = some (.int .i64 f) := (by rw [b2.cell (by first | omega | (simp; done) | (simp; omega))]; go_cell)
  have b2_2 : w2.cell? ⟨w.heap.size + 1, 2, none⟩ = some (.int .i64 st) := (by rw [b2.cell (by first | omega | (simp; done) | (simp; omega))]; go_cell)
  have b3_2 : w2.cell? ⟨w.heap.size + 1, 3, none⟩ = some (.slice o0 R.length q0) := (by rw [b2.cell (by first | omega | (simp; done) | (simp; omega))]; go_cell)
  have b4_2 : w2.cell? ⟨w.heap.size + 1, 4, none⟩ = some (.slice o1 D.length q1) := (by rw [b2.cell (by first | omega | (simp; done) | (simp; omega))]; go_cell)
  have b5_2 : w2.cell? ⟨w.heap.size + 1, 5, none⟩ = some (.slice o2 T.length q2) := (by rw [b2.cell (by first | omega | (simp; done) | (simp; omega))]; go_cell)
  have b6_2 : w2.cell? ⟨w.heap.size + 1, 6, none⟩ = some (.slice o3 S.length q3) := (by rw [b2.cell (by first | omega | (simp; done) | (simp; omega))]; go_cell)
  have b7_2 : w2.cell? ⟨w.heap.size + 1, 7, none⟩ = some (.slice o4 Lg.length q4) := (by rw [b2.cell (by first | omega | (simp; done) | (simp; omega))]; go_cell)
  have bl_2 : w.heap.size + 1 < w2.heap.size := (by have := b2.size; first | omega | (revert this; simp; done) | (revert this; simp; omega))
  clear a0_1 a1_1 a2_1 a3_1 al_1 b0_1 b1_1 b2_1 b3_1 b4_1 b5_1 b6_1 b7_1 bl_1
  clear b2 d2
  cases hs : okS p f st R D T S Lg with
  | false =>
    have hno : okLd ti I F p f st R D T S Lg = false := by rw [okLd, hs, Bool.false_and]
    go_wp2
    go_ret
    exact ⟨by first | (simp; done) | simp [hno], c2⟩
  | true =>
    have HPS := hid (okS_parts hs)
    have HS := hid hs
    clear hs
    by_cases ht0 : 0 ≤ ti
    case neg =>
      have hno : okLd ti I F p f st R D T S Lg = false := by rw [okLd, HS.out, decide_eq_false ht0]; simp
      have g0 : decide (ti < 0) = true := by simp; omega
      go_wp2
      go_ret
      exact ⟨by first | (simp; done) | simp [hno], c2⟩
    have g0 : decide (ti < 0) = false := by simp; omega
    by_cases ht1 : ti ≤ f
    case neg =>
      have hno : okLd ti I F p f st R D T S Lg = false := by rw [okLd, HS.out, decide_eq_false ht1]; simp
      have g1 : decide (ti > f) = true := by simp; omega
      go_wp2
      go_ret
      exact ⟨by first | (simp; done) | simp [hno], c2⟩
    have g1 : decide (ti > f) = false := by simp; omega
    have HOK : Hid (okLd ti I F p f st R D T S Lg = (okC I F && ldB p R I)) := hid (by rw [okLd, HS.out, decide_eq_true ht0, decide_eq_true ht1]; simp)
    go_wp2_with fail
    refine (specCOk_any _ _ I F _ (HA.out.later c2).h0 (HA.out.later c2).h1).mono ?_
    rintro e w3 ⟨rfl, b3⟩
    have d3 : Below w2.heap.size w2 w3 := (Below.trans (by go_grown) (b3.mono (by first | omega | (simp; done) | (simp; omega))))
    have c3 : Below w.heap.size w w3 := c2.trans (d3.mono c2.size)
    have a0_3 : w3.cell? ⟨w.heap.size, 0, none⟩ = some (.int .i64 ti) := (by rw [b3.cell (by first | omega | (simp; done) | (simp; omega))]; go_cell)
    have a1_3 : w3.cell? ⟨w.heap.size, 1, none⟩ = some (.bool tu) := (by rw [b3.cell (by first | omega | (simp; done) | (simp; omega))]; go_cell)
    have a2_3 : w3.cell? ⟨w.heap.size, 2, none⟩ = some (.slice io I.length ic) := (by rw [b3.cell (by first | omega | (simp; done) | (simp; omega))]; go_cell)
    have a3_3 : w3.cell? ⟨w.heap.size, 3, none⟩ = some (.slice fo F.length fc) := (by rw [b3.cell (by first | omega | (simp; done) | (simp; omega))]; go_cell)
    have al_3 : w.heap.size < w3.heap.size := (by have := b3.size; first | omega | (revert this; simp; done) | (revert this; simp; omega))
    have b0_3 : w3.cell? ⟨w.heap.size + 1, 0, none⟩ = some (.int .i64 p) := (by rw [b3.cell (by first | omega | (simp; done) | (simp; omega))]; go_cell)
    have b1_3 : w3.cell? ⟨w.heap.size + 1, 1, none⟩ = some (.int .i64 f) := (by rw [b3.cell (by first | omega | (simp; done) | (simp; omega))]; go_cell)
    have b2_3 : w3.cell? ⟨w.heap.size + 1, 2, none⟩ = some (.int .i64 st) := (by rw [b3.cell (by first | omega | (simp; done) | (simp; omega))]; go_cell)
    have b3_3 : w3.cell? ⟨w.heap.size + 1, 3, none⟩ = some (.slice o0 R.length q0) := (by rw [b3.cell (by first | omega | (simp; done) | (simp; omega))]; go_cell)
    have b4_3 : w3.cell? ⟨w.heap.size + 1, 4, none⟩ = some (.slice o1 D.length q1) := (by rw [b3.cell (by first | omega | (simp; done) | (simp; omega))]; go_cell)
    have b5_3 : w3.cell? ⟨w.heap.size + 1, 5, none⟩ = some (.slice o2 T.length q2) := (by rw [b3.cell (by first | omega | (simp; done) | (simp; omega))]; go_cell)
    have b6_3 : w3.cell? ⟨w.heap.size + 1, 6, none⟩ = some (.slice o3 S.length q3) := (by rw [b3.cell (by first | omega | (simp; done) | (simp; omega))]; go_cell)
    have b7_3 : w3.cell? ⟨w.heap.size + 1, 7, none⟩ = some (.slice o4 Lg.length q4) := (by rw [b3.cell (by first | omega | (simp; done) | (simp; omega))]; go_cell)
    have bl_3 : w.heap.size + 1 < w3.heap.size := (by have := b3.size; first | omega | (revert this; simp; done) | (revert this; simp; omega))
    clear a0_2 a1_2 a2_2 a3_2 al_2 b0_2 b1_2 b2_2 b3_2 b4_2 b5_2 b6_2 b7_2 bl_2
    clear b3 d3
    cases hc : okC I F with
    | false =>
      have hno : okLd ti I F p f st R D T S Lg = false := by rw [HOK.out, hc, Bool.false_and]
      go_wp2
      go_ret
      exact ⟨by first | (simp; done) | simp [hno], c3⟩
    | true =>
      have HIS : Hid (okLd ti I F p f st R D T S Lg = ldB p R I) := hid (by rw [HOK.out, hc, Bool.true_and])
      have HR3 := hid (HB.out.later c3)
      obtain ⟨br, or', qq, hv, hrr⟩ := rowsRd_of HR3.out.h0 HPS.out.2
      injection hv with hv1 hv2 hv3
      subst hv1 hv3
      rw [hv2] at b3_3
      have HRR := hid hrr
      have HI3 := hid (HA.out.later c3).h0
      clear hc hrr HOK HR3
      obtain ⟨_, _, hio, hml, hci⟩ := HI3.out
      have HC := hid hci
      unfold maxLen at hml
      injection hio with hio1 hio2 hio3
      subst hio1 hio3
      clear hci hio2 g0 g1 ht0 ht1
      go_wp2_with fail
      go_loopw [5] (fun i wr => ∃ k : Nat, k ≤ I.length ∧ i = .int .i64 k ∧ Hid (LdTo p R I k) ∧ Hid (Below w3.heap.size w3 wr)) (fun i _ => I.length - (intOf i).toNat)
      case atStart => exact ⟨0, Nat.zero_le _, rfl, hid (fun j hj => absurd hj (Nat.not_lt_zero j)), hid (Below.refl _ _)⟩
      case round =>
        obtain ⟨k, hk, rfl, hpre, hbel⟩ := hrel
        obtain ⟨w50, hw50⟩ : ∃ y, y = wr := ⟨_, rfl⟩
        subst hw50
        have b50 := hbel.out
        have d50 : Below w3.heap.size w3 w50 := (Below.trans (by go_grown) (b50.mono (by first | omega | (simp; done) | (simp; omega))))
        have c50 : Below w.heap.size w w50 := c3.trans (d50.mono c3.size)
        have a0_50 : w50.cell? ⟨w.heap.size, 0, none⟩ = some (.int .i64 ti) := (by rw [b50.cell (by first | omega | (simp; done) | (simp; omega))]; go_cell)
        have a1_50 : w50.cell? ⟨w.heap.size, 1, none⟩ = some (.bool tu) := (by rw [b50.cell (by first | omega | (simp; done) | (simp; omega))]; go_cell)
        have a2_50 : w50.cell? ⟨w.heap.size, 2, none⟩ = some (.slice io I.length ic) := (by rw [b50.cell (by first | omega | (simp; done) | (simp; omega))]; go_cell)
        have a3_50 : w50.cell? ⟨w.heap.size, 3, none⟩ = some (.slice fo F.length fc) := (by rw [b50.cell (by first | omega | (simp; done) | (simp; omega))]; go_cell)
        have al_50 : w.heap.size < w50.heap.size := (by have := b50.size; first | omega | (revert this; simp; done) | (revert this; simp; omega))
        have b0_50 : w50.cell? ⟨w.heap.size + 1, 0, none⟩ = some (.int .i64 p) := (by rw [b50.cell (by first | omega | (simp; done) | (simp; omega))]; go_cell)
        have b1_50 : w50.cell? ⟨w.heap.size + 1, 1, none⟩ = some (.int .i64 f) := (by rw [b50.cell (by first | omega | (simp; done) | (simp; omega))]; go_cell)
        have b2_50 : w50.cell? ⟨w.heap.size + 1, 2, none⟩ = some (.int .i64 st) := (by rw [b50.cell (by first | omega | (simp; done) | (simp; omega))]; go_cell)
        have b3_50 : w50.cell? ⟨w.heap.size + 1, 3, none⟩ = some (.slice (some ⟨br, or', none⟩) 24 q0) := (by rw [b50.cell (by first | omega | (simp; done) | (simp; omega))]; go_cell)
        have b4_50 : w50.cell? ⟨w.heap.size + 1, 4, none⟩ = some (.slice o1 D.length q1) := (by rw [b50.cell (by first | omega | (simp; done) | (simp; omega))]; go_cell)
        have b5_50 : w50.cell? ⟨w.heap.size + 1, 5, none⟩ = some (.slice o2 T.length q2) := (by rw [b50.cell (by first | omega | (simp; done) | (simp; omega))]; go_cell)
        have b6_50 : w50.cell? ⟨w.heap.size + 1, 6, none⟩ = some (.slice o3 S.length q3) := (by rw [b50.cell (by first | omega | (simp; done) | (simp; omega))]; go_cell)
        have b7_50 : w50.cell? ⟨w.heap.size + 1, 7, none⟩ = some (.slice o4 Lg.length q4) := (by rw [b50.cell (by first | omega | (simp; done) | (simp; omega))]; go_cell)
        have bl_50 : w.heap.size + 1 < w50.heap.size := (by have := b50.size; first | omega | (revert this; simp; done) | (revert this; simp; omega))
        clear a0_3 a1_3 a2_3 a3_3 al_3 b0_3 b1_3 b2_3 b3_3 b4_3 b5_3 b6_3 b7_3 bl_3
        clear b50
        have HD50 := hid d50
        clear d50
        by_cases hlt : k < I.length
        · obtain ⟨b, o, hio, hb, hcc⟩ := HC.out (by omega)
          subst hio
          obtain ⟨key, p1, nm, l, u, hx, e0, e1, e2, e3, hu⟩ := atK_3k ((hcc k hlt).later hb HD50.out)
          have hki : (k : Int) < (I.length : Int) := by omega
          have HNO : Hid (¬ (partOf key = p ∧ p1 ≤ verAt R key) → ldB p R I = false) := hid (fun z => ldB_no hlt (by rw [hx]; exact z))
          have HM : Hid (partOf key = p → p1 ≤ verAt R key → LdTo p R I (k + 1)) := hid (fun z1 z2 => hpre.out.more (by rw [hx]; exact z1) (by rw [hx]; exact z2))
          have HLT := hid hlt
          have HB1 := hid hbel.out
          have HRR5 := hid (HRR.out.later HD50.out)
          have re0 := cell_regrown e0
          have re1 := cell_regrown e1
          have ra2 := cell_regrown a2_50
          have rb0 := cell_regrown b0_50
          have rb3 := cell_regrown b3_50
          clear hx hcc hlt hpre hbel hu e2 e3
          go_wp2_with fail
          by_cases h1 : partOf key = p
          case neg =>
            have g1 : (partOf key != p) = true := by simpa using h1
            have hno := HNO.out (fun z => h1 z.1)
            have hno2 : okLd ti I F p f st R D T S Lg = false := by rw [HIS.out, hno]
            refine wp_region_quiet_below (by kernel_rfl) (by kernel_rfl) ?_
            repeat (first | go_big_quiet_skip | (go_big_quiet_want; go_big_quiet_op; first | go_big_quiet_on | go_big_quiet_call (first | (go_at_call 20; exact Calls.regrown_of (specShard_b _ _)))))
            refine wpQuiet_nil ?_
            rintro wq ⟨pq, hwq⟩
            have hq : Below w50.heap.size w50 wq := by rw [hwq]; exact below_regrown _ _ _
            clear hwq pq
            have cq := c50.trans (hq.mono c50.size)
            go_wp2
            go_ret
            exact ⟨by first | (simp; done) | simp [hno2], cq⟩
          have g1 : (partOf key != p) = false := by simpa using h1
          have hpk := partOf_key h1 HPS.out.1.1
          obtain ⟨j, rfl⟩ := Int.eq_ofNat_of_zero_le hpk.1
          have hj24 : j < 24 := by omega
          obtain ⟨ver, hver, hvc⟩ := HRR5.out.2 j hj24
          have HVA : Hid (verAt R (j : Int) = ver) := hid (by unfold verAt; simpa using hver)
          have rv := cell_regrown hvc
          have hji : (j : Int) < 24 := by omega
          have H1 := hid h1
          clear h1 hver hvc hpk
          by_cases h2 : p1 ≤ ver
          case neg =>
            have g2 : decide (p1 > ver) = true := by simp; omega
            have hno := HNO.out (fun z => h2 (by have := z.2; rwa [HVA.out] at this))
            have hno2 : okLd ti I F p f st R D T S Lg = false := by rw [HIS.out, hno]
            refine wp_region_quiet_below (by kernel_rfl) (by kernel_rfl) ?_
            repeat (first | go_big_quiet_skip | (go_big_quiet_want; go_big_quiet_op; first | go_big_quiet_on | go_big_quiet_call (first | (go_at_call 20; exact Calls.regrown_of (specShard_b _ _)))))
            refine wpQuiet_nil ?_
            rintro wq ⟨pq, hwq⟩
            have hq : Below w50.heap.size w50 wq := by rw [hwq]; exact below_regrown _ _ _
            clear hwq pq
            have cq := c50.trans (hq.mono c50.size)
            go_wp2
            go_ret
            exact ⟨by first | (simp; done) | simp [hno2], cq⟩
          have g2 : decide (p1 > ver) = false := by simp; omega
          have HN := hid (HM.out H1.out (by rw [HVA.out]; exact h2))
          refine wp_region_quiet_below (by kernel_rfl) (by kernel_rfl) ?_
          repeat (first | go_big_quiet_skip | (go_big_quiet_want; go_big_quiet_op; first | go_big_quiet_on | go_big_quiet_call (first | (go_at_call 20; exact Calls.regrown_of (specShard_b _ _)))))
          refine wpQuiet_nil ?_
          rintro wq ⟨pq, hwq⟩
          have hq : Below w50.heap.size w50 wq := by rw [hwq]; exact below_regrown _ _ _
          clear hwq pq
          have HQ := hid (HB1.out.trans (hq.mono HB1.out.size))
          go_wp2_with fail
          go_roundw
          case rel => exact ⟨k + 1, by have := HLT.out; omega, by go_num, HN, HQ⟩
          case measure =>
            have := HLT.out
            simp [intOf]
            omega
        · obtain rfl : k = I.length := by omega
          have hyes : okLd ti I F p f st R D T S Lg = true := by rw [HIS.out]; exact decide_eq_true hpre.out
          have hki : ¬ ((I.length : Int) < (I.length : Int)) := by omega
          go_wp2
          go_ret
          exact ⟨by first | (simp; done) | simp [hyes], c50⟩
end Go.Proofs.YtfibdnhihnccaaaGreat

/- Part: The law FnExactLeadOk: its walk. Written by a program (glaw2.py). -/
namespace Go.Proofs.YtfibdnhihnccaaaGreat
open Go.RowKit
attribute [local go_sem ↓] Go.wp_at_zero Go.wp_at_succ

set_option maxRecDepth 100000 in
set_option maxHeartbeats 8000000 in
theorem lawLOk_any (ti : Int) (tu : Bool) (va0 va1 : Value) (A0 A1 : List KD) (p : Int) (f : Int) (st : Int) (vb0 vb1 vb2 vb3 vb4 : Value) (B0 B1 B2 B3 B4 : List KD) (w : World) (ha : RSCache w va0 va1 A0 A1) (hb : RSShard w vb0 vb1 vb2 vb3 vb4 B0 B1 B2 B3 B4) :
    Calls Tryz.prog 3 #[.agg #[.int .i64 ti, .bool tu, va0, va1], .agg #[.int .i64 p, .int .i64 f, .int .i64 st, vb0, vb1, vb2, vb3, vb4]] w fun e w' => e = .returned (.bool true) ∧ Below w.heap.size w w' := by
  have HA := hid ha
  obtain ⟨ao0, ao1, ac0, ac1, rfl, rfl⟩ := ha.open
  have HB := hid hb
  obtain ⟨bo0, bo1, bo2, bo3, bo4, bc0, bc1, bc2, bc3, bc4, rfl, rfl, rfl, rfl, rfl⟩ := hb.open
  clear ha hb
  go_enter Tryz.func3, Tryz.ntmps3
  go_wp2_with fail
  generalize hW1 : ((w.alloc (.cells #[.int .i64 ti, .bool tu, .slice ao0 A0.length ac0, .slice ao1 A1.length ac1] 27)).alloc (.cells #[.int .i64 p, .int .i64 f, .int .i64 st, .slice bo0 B0.length bc0, .slice bo1 B1.length bc1, .slice bo2 B2.length bc2, .slice bo3 B3.length bc3, .slice bo4 B4.length bc4] 34)) = w1
  have a0_1 : w1.cell? ⟨w.heap.size, 0, none⟩ = some (.int .i64 ti) := by subst hW1; go_cell
  have a1_1 : w1.cell? ⟨w.heap.size, 1, none⟩ = some (.bool tu) := by subst hW1; go_cell
  have a2_1 : w1.cell? ⟨w.heap.size, 2, none⟩ = some (.slice ao0 A0.length ac0) := by subst hW1; go_cell
  have a3_1 : w1.cell? ⟨w.heap.size, 3, none⟩ = some (.slice ao1 A1.length ac1) := by subst hW1; go_cell
  have al_1 : w.heap.size < w1.heap.size := by subst hW1; first | (simp; done) | (simp; omega)
  have b0_1 : w1.cell? ⟨w.heap.size + 1, 0, none⟩ = some (.int .i64 p) := by subst hW1; go_cell
  have b1_1 : w1.cell? ⟨w.heap.size + 1, 1, none⟩ = some (.int .i64 f) := by subst hW1; go_cell
  have b2_1 : w1.cell? ⟨w.heap.size + 1, 2, none⟩ = some (.int .i64 st) := by subst hW1; go_cell
  have b3_1 : w1.cell? ⟨w.heap.size + 1, 3, none⟩ = some (.slice bo0 B0.length bc0) := by subst hW1; go_cell
  have b4_1 : w1.cell? ⟨w.heap.size + 1, 4, none⟩ = some (.slice bo1 B1.length bc1) := by subst hW1; go_cell
  have b5_1 : w1.cell? ⟨w.heap.size + 1, 5, none⟩ = some (.slice bo2 B2.length bc2) := by subst hW1; go_cell
  have b6_1 : w1.cell? ⟨w.heap.size + 1, 6, none⟩ = some (.slice bo3 B3.length bc3) := by subst hW1; go_cell
  have b7_1 : w1.cell? ⟨w.heap.size + 1, 7, none⟩ = some (.slice bo4 B4.length bc4) := by subst hW1; go_cell
  have bl_1 : w.heap.size + 1 < w1.heap.size := by subst hW1; first | (simp; done) | (simp; omega)
  have c1 : Below w.heap.size w w1 := by subst hW1; go_grown
  have s1 : w1.heap.size = w.heap.size + 2 := by subst hW1; simp
  clear hW1
  have qa0_1 := cell_regrown a0_1
  have qa1_1 := cell_regrown a1_1
  have qa2_1 := cell_regrown a2_1
  have qa3_1 := cell_regrown a3_1
  have qb0_1 := cell_regrown b0_1
  have qb1_1 := cell_regrown b1_1
  have qb2_1 := cell_regrown b2_1
  have qb3_1 := cell_regrown b3_1
  have qb4_1 := cell_regrown b4_1
  have qb5_1 := cell_regrown b5_1
  have qb6_1 := cell_regrown b6_1
  have qb7_1 := cell_regrown b7_1
  refine (szLead_rd ti tu _ _ A0 A1 _ _ (HA.out.later c1) (by omega) (by omega)).mono ?_
  rintro e w2 ⟨hs, b2⟩
  have d2 : Below w1.heap.size w1 w2 := (Below.trans (by go_grown) (b2.mono (by first | omega | (simp; done) | (simp; omega))))
  have c2 : Below w.heap.size w w2 := c1.trans (d2.mono c1.size)
  have a0_2 : w2.cell? ⟨w.heap.size, 0, none⟩ = some (.int .i64 ti) := (by rw [b2.cell (by first | omega | (simp; done) | (simp; omega))]; go_cell)
  have a1_2 : w2.cell? ⟨w.heap.size, 1, none⟩ = some (.bool tu) := (by rw [b2.cell (by first | omega | (simp; done) | (simp; omega))]; go_cell)
  have a2_2 : w2.cell? ⟨w.heap.size, 2, none⟩ = some (.slice ao0 A0.length ac0) := (by rw [b2.cell (by first | omega | (simp; done) | (simp; omega))]; go_cell)
  have a3_2 : w2.cell? ⟨w.heap.size, 3, none⟩ = some (.slice ao1 A1.length ac1) := (by rw [b2.cell (by first | omega | (simp; done) | (simp; omega))]; go_cell)
  have al_2 : w.heap.size < w2.heap.size := (by have := b2.size; first | omega | (revert this; simp; done) | (revert this; simp; omega))
  have b0_2 : w2.cell? ⟨w.heap.size + 1, 0, none⟩ = some (.int .i64 p) := (by rw [b2.cell (by first | omega | (simp; done) | (simp; omega))]; go_cell)
  have b1_2 : w2.cell? ⟨w.heap.size + 1, 1, none⟩ = some (.int .i64 f) := (by rw [b2.cell (by first | omega | (simp; done) | (simp; omega))]; go_cell)
  have b2_2 : w2.cell? ⟨w.heap.size + 1, 2, none⟩ = some (.int .i64 st) := (by rw [b2.cell (by first | omega | (simp; done) | (simp; omega))]; go_cell)
  have b3_2 : w2.cell? ⟨w.heap.size + 1, 3, none⟩ = some (.slice bo0 B0.length bc0) := (by rw [b2.cell (by first | omega | (simp; done) | (simp; omega))]; go_cell)
  have b4_2 : w2.cell? ⟨w.heap.size + 1, 4, none⟩ = some (.slice bo1 B1.length bc1) := (by rw [b2.cell (by first | omega | (simp; done) | (simp; omega))]; go_cell)
  have b5_2 : w2.cell? ⟨w.heap.size + 1, 5, none⟩ = some (.slice bo2 B2.length bc2) := (by rw [b2.cell (by first | omega | (simp; done) | (simp; omega))]; go_cell)
  have b6_2 : w2.cell? ⟨w.heap.size + 1, 6, none⟩ = some (.slice bo3 B3.length bc3) := (by rw [b2.cell (by first | omega | (simp; done) | (simp; omega))]; go_cell)
  have b7_2 : w2.cell? ⟨w.heap.size + 1, 7, none⟩ = some (.slice bo4 B4.length bc4) := (by rw [b2.cell (by first | omega | (simp; done) | (simp; omega))]; go_cell)
  have bl_2 : w.heap.size + 1 < w2.heap.size := (by have := b2.size; first | omega | (revert this; simp; done) | (revert this; simp; omega))
  clear a0_1 a1_1 a2_1 a3_1 al_1 b0_1 b1_1 b2_1 b3_1 b4_1 b5_1 b6_1 b7_1 bl_1
  clear b2 d2
  rcases hs with ⟨r, rfl, hr0, hr1, hA⟩ | rfl
  · have HLA := hid hA
    have hr2 : ¬ (r < 0) := by omega
    clear hA
    go_wp2_with fail
    refine (szShard_rd p f st _ _ _ _ _ B0 B1 B2 B3 B4 _ _ (HB.out.later c2) (by omega) (by omega)).mono ?_
    rintro e w3 ⟨hs, b3⟩
    have d3 : Below w2.heap.size w2 w3 := (Below.trans (by go_grown) (b3.mono (by first | omega | (simp; done) | (simp; omega))))
    have c3 : Below w.heap.size w w3 := c2.trans (d3.mono c2.size)
    have a0_3 : w3.cell? ⟨w.heap.size, 0, none⟩ = some (.int .i64 ti) := (by rw [b3.cell (by first | omega | (simp; done) | (simp; omega))]; go_cell)
    have a1_3 : w3.cell? ⟨w.heap.size, 1, none⟩ = some (.bool tu) := (by rw [b3.cell (by first | omega | (simp; done) | (simp; omega))]; go_cell)
    have a2_3 : w3.cell? ⟨w.heap.size, 2, none⟩ = some (.slice ao0 A0.length ac0) := (by rw [b3.cell (by first | omega | (simp; done) | (simp; omega))]; go_cell)
    have a3_3 : w3.cell? ⟨w.heap.size, 3, none⟩ = some (.slice ao1 A1.length ac1) := (by rw [b3.cell (by first | omega | (simp; done) | (simp; omega))]; go_cell)
    have al_3 : w.heap.size < w3.heap.size := (by have := b3.size; first | omega | (revert this; simp; done) | (revert this; simp; omega))
    have b0_3 : w3.cell? ⟨w.heap.size + 1, 0, none⟩ = some (.int .i64 p) := (by rw [b3.cell (by first | omega | (simp; done) | (simp; omega))]; go_cell)
    have b1_3 : w3.cell? ⟨w.heap.size + 1, 1, none⟩ = some (.int .i64 f) := (by rw [b3.cell (by first | omega | (simp; done) | (simp; omega))]; go_cell)
    have b2_3 : w3.cell? ⟨w.heap.size + 1, 2, none⟩ = some (.int .i64 st) := (by rw [b3.cell (by first | omega | (simp; done) | (simp; omega))]; go_cell)
    have b3_3 : w3.cell? ⟨w.heap.size + 1, 3, none⟩ = some (.slice bo0 B0.length bc0) := (by rw [b3.cell (by first | omega | (simp; done) | (simp; omega))]; go_cell)
    have b4_3 : w3.cell? ⟨w.heap.size + 1, 4, none⟩ = some (.slice bo1 B1.length bc1) := (by rw [b3.cell (by first | omega | (simp; done) | (simp; omega))]; go_cell)
    have b5_3 : w3.cell? ⟨w.heap.size + 1, 5, none⟩ = some (.slice bo2 B2.length bc2) := (by rw [b3.cell (by first | omega | (simp; done) | (simp; omega))]; go_cell)
    have b6_3 : w3.cell? ⟨w.heap.size + 1, 6, none⟩ = some (.slice bo3 B3.length bc3) := (by rw [b3.cell (by first | omega | (simp; done) | (simp; omega))]; go_cell)
    have b7_3 : w3.cell? ⟨w.heap.size + 1, 7, none⟩ = some (.slice bo4 B4.length bc4) := (by rw [b3.cell (by first | omega | (simp; done) | (simp; omega))]; go_cell)
    have bl_3 : w.heap.size + 1 < w3.heap.size := (by have := b3.size; first | omega | (revert this; simp; done) | (revert this; simp; omega))
    clear a0_2 a1_2 a2_2 a3_2 al_2 b0_2 b1_2 b2_2 b3_2 b4_2 b5_2 b6_2 b7_2 bl_2
    clear b3 d3
    rcases hs with ⟨q, rfl, hq0, hq1, hB⟩ | rfl
    · have HLB := hid hB
      have hq2 : ¬ (q < 0) := by omega
      clear hB hr0 hr1 hq0 hq1
      go_wp2_with fail
      obtain ⟨rv, hrv⟩ : ∃ z, okLd ti A0 A1 p f st B0 B1 B2 B3 B4 = z := ⟨_, rfl⟩
      have HRV := hid hrv
      clear hrv
      go_upto_region 8 with fail
      go_cut [6] from 10 (fun s wx => s = .bool rv ∧ Below w3.heap.size w3 wx)
      case first => as_aux_lemma =>
        go_region_with (first
          | (go_at_call 7; refine (toLead_rd ti tu (.slice ao0 A0.length ac0) (.slice ao1 A1.length ac1) A0 A1 _ (HA.out.later (c3.drew)) HLA.out).mono ?_; rintro e w4 ⟨⟨xo0, xo1, xc0, xc1, rfl, oa⟩, b4⟩; have OA4 := hid oa; clear oa; have d4 : Below w3.heap.size w3 w4 := (Below.trans (by go_grown) (b4.mono (by first | omega | (simp; done) | (simp; omega)))); have c4 : Below w.heap.size w w4 := c3.trans (d4.mono c3.size); have a0_4 : w4.cell? ⟨w.heap.size, 0, none⟩ = some (.int .i64 ti) := (by rw [b4.cell (by first | omega | (simp; done) | (simp; omega))]; go_cell); have a1_4 : w4.cell? ⟨w.heap.size, 1, none⟩ = some (.bool tu) := (by rw [b4.cell (by first | omega | (simp; done) | (simp; omega))]; go_cell); have a2_4 : w4.cell? ⟨w.heap.size, 2, none⟩ = some (.slice ao0 A0.length ac0) := (by rw [b4.cell (by first | omega | (simp; done) | (simp; omega))]; go_cell); have a3_4 : w4.cell? ⟨w.heap.size, 3, none⟩ = some (.slice ao1 A1.length ac1) := (by rw [b4.cell (by first | omega | (simp; done) | (simp; omega))]; go_cell); have al_4 : w.heap.size < w4.heap.size := (by have := b4.size; first | omega | (revert this; simp; done) | (revert this; simp; omega)); have b0_4 : w4.cell? ⟨w.heap.size + 1, 0, none⟩ = some (.int .i64 p) := (by rw [b4.cell (by first | omega | (simp; done) | (simp; omega))]; go_cell); have b1_4 : w4.cell? ⟨w.heap.size + 1, 1, none⟩ = some (.int .i64 f) := (by rw [b4.cell (by first | omega | (simp; done) | (simp; omega))]; go_cell); have b2_4 : w4.cell? ⟨w.heap.size + 1, 2, none⟩ = some (.int .i64 st) := (by rw [b4.cell (by first | omega | (simp; done) | (simp; omega))]; go_cell); have b3_4 : w4.cell? ⟨w.heap.size + 1, 3, none⟩ = some (.slice bo0 B0.length bc0) := (by rw [b4.cell (by first | omega | (simp; done) | (simp; omega))]; go_cell); have b4_4 : w4.cell? ⟨w.heap.size + 1, 4, none⟩ = some (.slice bo1 B1.length bc1) := (by rw [b4.cell (by first | omega | (simp; done) | (simp; omega))]; go_cell); have b5_4 : w4.cell? ⟨w.heap.size + 1, 5, none⟩ = some (.slice bo2 B2.length bc2) := (by rw [b4.cell (by first | omega | (simp; done) | (simp; omega))]; go_cell); have b6_4 : w4.cell? ⟨w.heap.size + 1, 6, none⟩ = some (.slice bo3 B3.length bc3) := (by rw [b4.cell (by first | omega | (simp; done) | (simp; omega))]; go_cell); have b7_4 : w4.cell? ⟨w.heap.size + 1, 7, none⟩ = some (.slice bo4 B4.length bc4) := (by rw [b4.cell (by first | omega | (simp; done) | (simp; omega))]; go_cell); have bl_4 : w.heap.size + 1 < w4.heap.size := (by have := b4.size; first | omega | (revert this; simp; done) | (revert this; simp; omega)); clear a0_3 a1_3 a2_3 a3_3 al_3 b0_3 b1_3 b2_3 b3_3 b4_3 b5_3 b6_3 b7_3 bl_3)
          | (go_at_call 8; refine (toShard_rd p f st (.slice bo0 B0.length bc0) (.slice bo1 B1.length bc1) (.slice bo2 B2.length bc2) (.slice bo3 B3.length bc3) (.slice bo4 B4.length bc4) B0 B1 B2 B3 B4 _ (HB.out.later c4) HLB.out).mono ?_; rintro e w5 ⟨⟨yo0, yo1, yo2, yo3, yo4, yc0, yc1, yc2, yc3, yc4, rfl, oa⟩, b5⟩; have OB5 := hid oa; clear oa; have d5 : Below w4.heap.size w4 w5 := (Below.trans (by go_grown) (b5.mono (by first | omega | (simp; done) | (simp; omega)))); have c5 : Below w.heap.size w w5 := c4.trans (d5.mono c4.size))
          | (go_at_call 6; refine (specLOk_any ti tu _ _ A0 A1 p f st _ _ _ _ _ B0 B1 B2 B3 B4 _ (OA4.out.later d5) OB5.out).mono ?_; rintro e w6 ⟨rfl, b6⟩; rw [HRV.out]; have d6 : Below w5.heap.size w5 w6 := (Below.trans (by go_grown) (b6.mono (by first | omega | (simp; done) | (simp; omega)))); have c6 : Below w.heap.size w w6 := c5.trans (d6.mono c5.size)))
        all_goals
          go_wp2_with fail
          go_meet
          exact ⟨rfl, (d4.trans (d5.mono d4.size)).trans (d6.mono (Nat.le_trans d4.size d5.size))⟩
      case rest => as_aux_lemma =>
        obtain ⟨rfl, b4⟩ := hcut
        obtain ⟨w4, hw4⟩ : ∃ x, x = wc := ⟨_, rfl⟩
        subst hw4
        have d4 : Below w3.heap.size w3 w4 := (Below.trans (by go_grown) (b4.mono (by first | omega | (simp; done) | (simp; omega))))
        have c4 : Below w.heap.size w w4 := c3.trans (d4.mono c3.size)
        have a0_4 : w4.cell? ⟨w.heap.size, 0, none⟩ = some (.int .i64 ti) := (by rw [b4.cell (by first | omega | (simp; done) | (simp; omega))]; go_cell)
        have a1_4 : w4.cell? ⟨w.heap.size, 1, none⟩ = some (.bool tu) := (by rw [b4.cell (by first | omega | (simp; done) | (simp; omega))]; go_cell)
        have a2_4 : w4.cell? ⟨w.heap.size, 2, none⟩ = some (.slice ao0 A0.length ac0) := (by rw [b4.cell (by first | omega | (simp; done) | (simp; omega))]; go_cell)
        have a3_4 : w4.cell? ⟨w.heap.size, 3, none⟩ = some (.slice ao1 A1.length ac1) := (by rw [b4.cell (by first | omega | (simp; done) | (simp; omega))]; go_cell)
        have al_4 : w.heap.size < w4.heap.size := (by have := b4.size; first | omega | (revert this; simp; done) | (revert this; simp; omega))
        have b0_4 : w4.cell? ⟨w.heap.size + 1, 0, none⟩ = some (.int .i64 p) := (by rw [b4.cell (by first | omega | (simp; done) | (simp; omega))]; go_cell)
        have b1_4 : w4.cell? ⟨w.heap.size + 1, 1, none⟩ = some (.int .i64 f) := (by rw [b4.cell (by first | omega | (simp; done) | (simp; omega))]; go_cell)
        have b2_4 : w4.cell? ⟨w.heap.size + 1, 2, none⟩ = some (.int .i64 st) := (by rw [b4.cell (by first | omega | (simp; done) | (simp; omega))]; go_cell)
        have b3_4 : w4.cell? ⟨w.heap.size + 1, 3, none⟩ = some (.slice bo0 B0.length bc0) := (by rw [b4.cell (by first | omega | (simp; done) | (simp; omega))]; go_cell)
        have b4_4 : w4.cell? ⟨w.heap.size + 1, 4, none⟩ = some (.slice bo1 B1.length bc1) := (by rw [b4.cell (by first | omega | (simp; done) | (simp; omega))]; go_cell)
        have b5_4 : w4.cell? ⟨w.heap.size + 1, 5, none⟩ = some (.slice bo2 B2.length bc2) := (by rw [b4.cell (by first | omega | (simp; done) | (simp; omega))]; go_cell)
        have b6_4 : w4.cell? ⟨w.heap.size + 1, 6, none⟩ = some (.slice bo3 B3.length bc3) := (by rw [b4.cell (by first | omega | (simp; done) | (simp; omega))]; go_cell)
        have b7_4 : w4.cell? ⟨w.heap.size + 1, 7, none⟩ = some (.slice bo4 B4.length bc4) := (by rw [b4.cell (by first | omega | (simp; done) | (simp; omega))]; go_cell)
        have bl_4 : w.heap.size + 1 < w4.heap.size := (by have := b4.size; first | omega | (revert this; simp; done) | (revert this; simp; omega))
        clear a0_3 a1_3 a2_3 a3_3 al_3 b0_3 b1_3 b2_3 b3_3 b4_3 b5_3 b6_3 b7_3 bl_3
        clear b4 d4
        go_wp2_with fail
        refine (toLead_rd ti tu _ _ A0 A1 _ (HA.out.later c4) HLA.out).mono ?_
        rintro e w5 ⟨⟨po0, po1, pc0, pc1, rfl, oa⟩, b5⟩
        have OC5 := hid oa
        clear oa
        have d5 : Below w4.heap.size w4 w5 := (Below.trans (by go_grown) (b5.mono (by first | omega | (simp; done) | (simp; omega))))
        have c5 : Below w.heap.size w w5 := c4.trans (d5.mono c4.size)
        have a0_5 : w5.cell? ⟨w.heap.size, 0, none⟩ = some (.int .i64 ti) := (by rw [b5.cell (by first | omega | (simp; done) | (simp; omega))]; go_cell)
        have a1_5 : w5.cell? ⟨w.heap.size, 1, none⟩ = some (.bool tu) := (by rw [b5.cell (by first | omega | (simp; done) | (simp; omega))]; go_cell)
        have a2_5 : w5.cell? ⟨w.heap.size, 2, none⟩ = some (.slice ao0 A0.length ac0) := (by rw [b5.cell (by first | omega | (simp; done) | (simp; omega))]; go_cell)
        have a3_5 : w5.cell? ⟨w.heap.size, 3, none⟩ = some (.slice ao1 A1.length ac1) := (by rw [b5.cell (by first | omega | (simp; done) | (simp; omega))]; go_cell)
        have al_5 : w.heap.size < w5.heap.size := (by have := b5.size; first | omega | (revert this; simp; done) | (revert this; simp; omega))
        have b0_5 : w5.cell? ⟨w.heap.size + 1, 0, none⟩ = some (.int .i64 p) := (by rw [b5.cell (by first | omega | (simp; done) | (simp; omega))]; go_cell)
        have b1_5 : w5.cell? ⟨w.heap.size + 1, 1, none⟩ = some (.int .i64 f) := (by rw [b5.cell (by first | omega | (simp; done) | (simp; omega))]; go_cell)
        have b2_5 : w5.cell? ⟨w.heap.size + 1, 2, none⟩ = some (.int .i64 st) := (by rw [b5.cell (by first | omega | (simp; done) | (simp; omega))]; go_cell)
        have b3_5 : w5.cell? ⟨w.heap.size + 1, 3, none⟩ = some (.slice bo0 B0.length bc0) := (by rw [b5.cell (by first | omega | (simp; done) | (simp; omega))]; go_cell)
        have b4_5 : w5.cell? ⟨w.heap.size + 1, 4, none⟩ = some (.slice bo1 B1.length bc1) := (by rw [b5.cell (by first | omega | (simp; done) | (simp; omega))]; go_cell)
        have b5_5 : w5.cell? ⟨w.heap.size + 1, 5, none⟩ = some (.slice bo2 B2.length bc2) := (by rw [b5.cell (by first | omega | (simp; done) | (simp; omega))]; go_cell)
        have b6_5 : w5.cell? ⟨w.heap.size + 1, 6, none⟩ = some (.slice bo3 B3.length bc3) := (by rw [b5.cell (by first | omega | (simp; done) | (simp; omega))]; go_cell)
        have b7_5 : w5.cell? ⟨w.heap.size + 1, 7, none⟩ = some (.slice bo4 B4.length bc4) := (by rw [b5.cell (by first | omega | (simp; done) | (simp; omega))]; go_cell)
        have bl_5 : w.heap.size + 1 < w5.heap.size := (by have := b5.size; first | omega | (revert this; simp; done) | (revert this; simp; omega))
        clear a0_4 a1_4 a2_4 a3_4 al_4 b0_4 b1_4 b2_4 b3_4 b4_4 b5_4 b6_4 b7_4 bl_4
        clear b5 d5
        go_wp2_with fail
        generalize hW6 : (w5.alloc (.cells #[.int .i64 ti, .bool tu, .slice po0 A0.length pc0, .slice po1 A1.length pc1] 42)) = w6
        have x0_6 : w6.cell? ⟨w5.heap.size, 0, none⟩ = some (.int .i64 ti) := by subst hW6; go_cell
        have x1_6 : w6.cell? ⟨w5.heap.size, 1, none⟩ = some (.bool tu) := by subst hW6; go_cell
        have x2_6 : w6.cell? ⟨w5.heap.size, 2, none⟩ = some (.slice po0 A0.length pc0) := by subst hW6; go_cell
        have x3_6 : w6.cell? ⟨w5.heap.size, 3, none⟩ = some (.slice po1 A1.length pc1) := by subst hW6; go_cell
        have xl_6 : w5.heap.size < w6.heap.size := by subst hW6; simp
        have d6 : Below w5.heap.size w5 w6 := by subst hW6; go_grown
        clear hW6
        have c6 : Below w.heap.size w w6 := c5.trans (d6.mono c5.size)
        have a0_6 : w6.cell? ⟨w.heap.size, 0, none⟩ = some (.int .i64 ti) := (by rw [d6.cell (by first | omega | (simp; done) | (simp; omega))]; go_cell)
        have a1_6 : w6.cell? ⟨w.heap.size, 1, none⟩ = some (.bool tu) := (by rw [d6.cell (by first | omega | (simp; done) | (simp; omega))]; go_cell)
        have a2_6 : w6.cell? ⟨w.heap.size, 2, none⟩ = some (.slice ao0 A0.length ac0) := (by rw [d6.cell (by first | omega | (simp; done) | (simp; omega))]; go_cell)
        have a3_6 : w6.cell? ⟨w.heap.size, 3, none⟩ = some (.slice ao1 A1.length ac1) := (by rw [d6.cell (by first | omega | (simp; done) | (simp; omega))]; go_cell)
        have al_6 : w.heap.size < w6.heap.size := (by have := d6.size; omega)
        have b0_6 : w6.cell? ⟨w.heap.size + 1, 0, none⟩ = some (.int .i64 p) := (by rw [d6.cell (by first | omega | (simp; done) | (simp; omega))]; go_cell)
        have b1_6 : w6.cell? ⟨w.heap.size + 1, 1, none⟩ = some (.int .i64 f) := (by rw [d6.cell (by first | omega | (simp; done) | (simp; omega))]; go_cell)
        have b2_6 : w6.cell? ⟨w.heap.size + 1, 2, none⟩ = some (.int .i64 st) := (by rw [d6.cell (by first | omega | (simp; done) | (simp; omega))]; go_cell)
        have b3_6 : w6.cell? ⟨w.heap.size + 1, 3, none⟩ = some (.slice bo0 B0.length bc0) := (by rw [d6.cell (by first | omega | (simp; done) | (simp; omega))]; go_cell)
        have b4_6 : w6.cell? ⟨w.heap.size + 1, 4, none⟩ = some (.slice bo1 B1.length bc1) := (by rw [d6.cell (by first | omega | (simp; done) | (simp; omega))]; go_cell)
        have b5_6 : w6.cell? ⟨w.heap.size + 1, 5, none⟩ = some (.slice bo2 B2.length bc2) := (by rw [d6.cell (by first | omega | (simp; done) | (simp; omega))]; go_cell)
        have b6_6 : w6.cell? ⟨w.heap.size + 1, 6, none⟩ = some (.slice bo3 B3.length bc3) := (by rw [d6.cell (by first | omega | (simp; done) | (simp; omega))]; go_cell)
        have b7_6 : w6.cell? ⟨w.heap.size + 1, 7, none⟩ = some (.slice bo4 B4.length bc4) := (by rw [d6.cell (by first | omega | (simp; done) | (simp; omega))]; go_cell)
        have bl_6 : w.heap.size + 1 < w6.heap.size := (by have := d6.size; omega)
        clear a0_5 a1_5 a2_5 a3_5 al_5 b0_5 b1_5 b2_5 b3_5 b4_5 b5_5 b6_5 b7_5 bl_5
        have OC6 := hid (OC5.out.later d6)
        clear d6
        refine (toShard_rd p f st _ _ _ _ _ B0 B1 B2 B3 B4 _ (HB.out.later c6) HLB.out).mono ?_
        rintro e w7 ⟨⟨qo0, qo1, qo2, qo3, qo4, qc0, qc1, qc2, qc3, qc4, rfl, oa⟩, b7⟩
        have OD7 := hid oa
        clear oa
        have d7 : Below w6.heap.size w6 w7 := (Below.trans (by go_grown) (b7.mono (by first | omega | (simp; done) | (simp; omega))))
        have c7 : Below w.heap.size w w7 := c6.trans (d7.mono c6.size)
        have a0_7 : w7.cell? ⟨w.heap.size, 0, none⟩ = some (.int .i64 ti) := (by rw [b7.cell (by first | omega | (simp; done) | (simp; omega))]; go_cell)
        have a1_7 : w7.cell? ⟨w.heap.size, 1, none⟩ = some (.bool tu) := (by rw [b7.cell (by first | omega | (simp; done) | (simp; omega))]; go_cell)
        have a2_7 : w7.cell? ⟨w.heap.size, 2, none⟩ = some (.slice ao0 A0.length ac0) := (by rw [b7.cell (by first | omega | (simp; done) | (simp; omega))]; go_cell)
        have a3_7 : w7.cell? ⟨w.heap.size, 3, none⟩ = some (.slice ao1 A1.length ac1) := (by rw [b7.cell (by first | omega | (simp; done) | (simp; omega))]; go_cell)
        have al_7 : w.heap.size < w7.heap.size := (by have := b7.size; first | omega | (revert this; simp; done) | (revert this; simp; omega))
        have b0_7 : w7.cell? ⟨w.heap.size + 1, 0, none⟩ = some (.int .i64 p) := (by rw [b7.cell (by first | omega | (simp; done) | (simp; omega))]; go_cell)
        have b1_7 : w7.cell? ⟨w.heap.size + 1, 1, none⟩ = some (.int .i64 f) := (by rw [b7.cell (by first | omega | (simp; done) | (simp; omega))]; go_cell)
        have b2_7 : w7.cell? ⟨w.heap.size + 1, 2, none⟩ = some (.int .i64 st) := (by rw [b7.cell (by first | omega | (simp; done) | (simp; omega))]; go_cell)
        have b3_7 : w7.cell? ⟨w.heap.size + 1, 3, none⟩ = some (.slice bo0 B0.length bc0) := (by rw [b7.cell (by first | omega | (simp; done) | (simp; omega))]; go_cell)
        have b4_7 : w7.cell? ⟨w.heap.size + 1, 4, none⟩ = some (.slice bo1 B1.length bc1) := (by rw [b7.cell (by first | omega | (simp; done) | (simp; omega))]; go_cell)
        have b5_7 : w7.cell? ⟨w.heap.size + 1, 5, none⟩ = some (.slice bo2 B2.length bc2) := (by rw [b7.cell (by first | omega | (simp; done) | (simp; omega))]; go_cell)
        have b6_7 : w7.cell? ⟨w.heap.size + 1, 6, none⟩ = some (.slice bo3 B3.length bc3) := (by rw [b7.cell (by first | omega | (simp; done) | (simp; omega))]; go_cell)
        have b7_7 : w7.cell? ⟨w.heap.size + 1, 7, none⟩ = some (.slice bo4 B4.length bc4) := (by rw [b7.cell (by first | omega | (simp; done) | (simp; omega))]; go_cell)
        have bl_7 : w.heap.size + 1 < w7.heap.size := (by have := b7.size; first | omega | (revert this; simp; done) | (revert this; simp; omega))
        have x0_7 : w7.cell? ⟨w5.heap.size, 0, none⟩ = some (.int .i64 ti) := (by rw [b7.cell (by first | omega | (simp; done) | (simp; omega))]; go_cell)
        have x1_7 : w7.cell? ⟨w5.heap.size, 1, none⟩ = some (.bool tu) := (by rw [b7.cell (by first | omega | (simp; done) | (simp; omega))]; go_cell)
        have x2_7 : w7.cell? ⟨w5.heap.size, 2, none⟩ = some (.slice po0 A0.length pc0) := (by rw [b7.cell (by first | omega | (simp; done) | (simp; omega))]; go_cell)
        have x3_7 : w7.cell? ⟨w5.heap.size, 3, none⟩ = some (.slice po1 A1.length pc1) := (by rw [b7.cell (by first | omega | (simp; done) | (simp; omega))]; go_cell)
        have xl_7 : w5.heap.size < w7.heap.size := (by have := b7.size; first | omega | (revert this; simp; done) | (revert this; simp; omega))
        clear a0_6 a1_6 a2_6 a3_6 al_6 b0_6 b1_6 b2_6 b3_6 b4_6 b5_6 b6_6 b7_6 bl_6 x0_6 x1_6 x2_6 x3_6 xl_6
        have OC7 := hid (OC6.out.later d7)
        clear b7 d7
        go_wp2_with fail
        generalize hW8 : (w7.alloc (.cells #[.int .i64 p, .int .i64 f, .int .i64 st, .slice qo0 B0.length qc0, .slice qo1 B1.length qc1, .slice qo2 B2.length qc2, .slice qo3 B3.length qc3, .slice qo4 B4.length qc4] 50)) = w8
        have y0_8 : w8.cell? ⟨w7.heap.size, 0, none⟩ = some (.int .i64 p) := by subst hW8; go_cell
        have y1_8 : w8.cell? ⟨w7.heap.size, 1, none⟩ = some (.int .i64 f) := by subst hW8; go_cell
        have y2_8 : w8.cell? ⟨w7.heap.size, 2, none⟩ = some (.int .i64 st) := by subst hW8; go_cell
        have y3_8 : w8.cell? ⟨w7.heap.size, 3, none⟩ = some (.slice qo0 B0.length qc0) := by subst hW8; go_cell
        have y4_8 : w8.cell? ⟨w7.heap.size, 4, none⟩ = some (.slice qo1 B1.length qc1) := by subst hW8; go_cell
        have y5_8 : w8.cell? ⟨w7.heap.size, 5, none⟩ = some (.slice qo2 B2.length qc2) := by subst hW8; go_cell
        have y6_8 : w8.cell? ⟨w7.heap.size, 6, none⟩ = some (.slice qo3 B3.length qc3) := by subst hW8; go_cell
        have y7_8 : w8.cell? ⟨w7.heap.size, 7, none⟩ = some (.slice qo4 B4.length qc4) := by subst hW8; go_cell
        have yl_8 : w7.heap.size < w8.heap.size := by subst hW8; simp
        have d8 : Below w7.heap.size w7 w8 := by subst hW8; go_grown
        clear hW8
        have c8 : Below w.heap.size w w8 := c7.trans (d8.mono c7.size)
        have a0_8 : w8.cell? ⟨w.heap.size, 0, none⟩ = some (.int .i64 ti) := (by rw [d8.cell (by first | omega | (simp; done) | (simp; omega))]; go_cell)
        have a1_8 : w8.cell? ⟨w.heap.size, 1, none⟩ = some (.bool tu) := (by rw [d8.cell (by first | omega | (simp; done) | (simp; omega))]; go_cell)
        have a2_8 : w8.cell? ⟨w.heap.size, 2, none⟩ = some (.slice ao0 A0.length ac0) := (by rw [d8.cell (by first | omega | (simp; done) | (simp; omega))]; go_cell)
        have a3_8 : w8.cell? ⟨w.heap.size, 3, none⟩ = some (.slice ao1 A1.length ac1) := (by rw [d8.cell (by first | omega | (simp; done) | (simp; omega))]; go_cell)
        have al_8 : w.heap.size < w8.heap.size := (by have := d8.size; omega)
        have b0_8 : w8.cell? ⟨w.heap.size + 1, 0, none⟩ = some (.int .i64 p) := (by rw [d8.cell (by first | omega | (simp; done) | (simp; omega))]; go_cell)
        have b1_8 : w8.cell? ⟨w.heap.size + 1, 1, none⟩ = some (.int .i64 f) := (by rw [d8.cell (by first | omega | (simp; done) | (simp; omega))]; go_cell)
        have b2_8 : w8.cell? ⟨w.heap.size + 1, 2, none⟩ = some (.int .i64 st) := (by rw [d8.cell (by first | omega | (simp; done) | (simp; omega))]; go_cell)
        have b3_8 : w8.cell? ⟨w.heap.size + 1, 3, none⟩ = some (.slice bo0 B0.length bc0) := (by rw [d8.cell (by first | omega | (simp; done) | (simp; omega))]; go_cell)
        have b4_8 : w8.cell? ⟨w.heap.size + 1, 4, none⟩ = some (.slice bo1 B1.length bc1) := (by rw [d8.cell (by first | omega | (simp; done) | (simp; omega))]; go_cell)
        have b5_8 : w8.cell? ⟨w.heap.size + 1, 5, none⟩ = some (.slice bo2 B2.length bc2) := (by rw [d8.cell (by first | omega | (simp; done) | (simp; omega))]; go_cell)
        have b6_8 : w8.cell? ⟨w.heap.size + 1, 6, none⟩ = some (.slice bo3 B3.length bc3) := (by rw [d8.cell (by first | omega | (simp; done) | (simp; omega))]; go_cell)
        have b7_8 : w8.cell? ⟨w.heap.size + 1, 7, none⟩ = some (.slice bo4 B4.length bc4) := (by rw [d8.cell (by first | omega | (simp; done) | (simp; omega))]; go_cell)
        have bl_8 : w.heap.size + 1 < w8.heap.size := (by have := d8.size; omega)
        have x0_8 : w8.cell? ⟨w5.heap.size, 0, none⟩ = some (.int .i64 ti) := (by rw [d8.cell (by first | omega | (simp; done) | (simp; omega))]; go_cell)
        have x1_8 : w8.cell? ⟨w5.heap.size, 1, none⟩ = some (.bool tu) := (by rw [d8.cell (by first | omega | (simp; done) | (simp; omega))]; go_cell)
        have x2_8 : w8.cell? ⟨w5.heap.size, 2, none⟩ = some (.slice po0 A0.length pc0) := (by rw [d8.cell (by first | omega | (simp; done) | (simp; omega))]; go_cell)
        have x3_8 : w8.cell? ⟨w5.heap.size, 3, none⟩ = some (.slice po1 A1.length pc1) := (by rw [d8.cell (by first | omega | (simp; done) | (simp; omega))]; go_cell)
        have xl_8 : w5.heap.size < w8.heap.size := (by have := d8.size; omega)
        clear a0_7 a1_7 a2_7 a3_7 al_7 b0_7 b1_7 b2_7 b3_7 b4_7 b5_7 b6_7 b7_7 bl_7 x0_7 x1_7 x2_7 x3_7 xl_7
        have OC8 := hid (OC7.out.later d8)
        have OD8 := hid (OD7.out.later d8)
        clear d8
        refine (implLOk_any ti tu _ _ A0 A1 p f st _ _ _ _ _ B0 B1 B2 B3 B4 _ OC8.out OD8.out).mono ?_
        rintro e w9 ⟨rfl, b9⟩
        rw [HRV.out]
        have d9 : Below w8.heap.size w8 w9 := (Below.trans (by go_grown) (b9.mono (by first | omega | (simp; done) | (simp; omega))))
        have c9 : Below w.heap.size w w9 := c8.trans (d9.mono c8.size)
        have a0_9 : w9.cell? ⟨w.heap.size, 0, none⟩ = some (.int .i64 ti) := (by rw [b9.cell (by first | omega | (simp; done) | (simp; omega))]; go_cell)
        have a1_9 : w9.cell? ⟨w.heap.size, 1, none⟩ = some (.bool tu) := (by rw [b9.cell (by first | omega | (simp; done) | (simp; omega))]; go_cell)
        have a2_9 : w9.cell? ⟨w.heap.size, 2, none⟩ = some (.slice ao0 A0.length ac0) := (by rw [b9.cell (by first | omega | (simp; done) | (simp; omega))]; go_cell)
        have a3_9 : w9.cell? ⟨w.heap.size, 3, none⟩ = some (.slice ao1 A1.length ac1) := (by rw [b9.cell (by first | omega | (simp; done) | (simp; omega))]; go_cell)
        have al_9 : w.heap.size < w9.heap.size := (by have := b9.size; first | omega | (revert this; simp; done) | (revert this; simp; omega))
        have b0_9 : w9.cell? ⟨w.heap.size + 1, 0, none⟩ = some (.int .i64 p) := (by rw [b9.cell (by first | omega | (simp; done) | (simp; omega))]; go_cell)
        have b1_9 : w9.cell? ⟨w.heap.size + 1, 1, none⟩ = some (.int .i64 f) := (by rw [b9.cell (by first | omega | (simp; done) | (simp; omega))]; go_cell)
        have b2_9 : w9.cell? ⟨w.heap.size + 1, 2, none⟩ = some (.int .i64 st) := (by rw [b9.cell (by first | omega | (simp; done) | (simp; omega))]; go_cell)
        have b3_9 : w9.cell? ⟨w.heap.size + 1, 3, none⟩ = some (.slice bo0 B0.length bc0) := (by rw [b9.cell (by first | omega | (simp; done) | (simp; omega))]; go_cell)
        have b4_9 : w9.cell? ⟨w.heap.size + 1, 4, none⟩ = some (.slice bo1 B1.length bc1) := (by rw [b9.cell (by first | omega | (simp; done) | (simp; omega))]; go_cell)
        have b5_9 : w9.cell? ⟨w.heap.size + 1, 5, none⟩ = some (.slice bo2 B2.length bc2) := (by rw [b9.cell (by first | omega | (simp; done) | (simp; omega))]; go_cell)
        have b6_9 : w9.cell? ⟨w.heap.size + 1, 6, none⟩ = some (.slice bo3 B3.length bc3) := (by rw [b9.cell (by first | omega | (simp; done) | (simp; omega))]; go_cell)
        have b7_9 : w9.cell? ⟨w.heap.size + 1, 7, none⟩ = some (.slice bo4 B4.length bc4) := (by rw [b9.cell (by first | omega | (simp; done) | (simp; omega))]; go_cell)
        have bl_9 : w.heap.size + 1 < w9.heap.size := (by have := b9.size; first | omega | (revert this; simp; done) | (revert this; simp; omega))
        have x0_9 : w9.cell? ⟨w5.heap.size, 0, none⟩ = some (.int .i64 ti) := (by rw [b9.cell (by first | omega | (simp; done) | (simp; omega))]; go_cell)
        have x1_9 : w9.cell? ⟨w5.heap.size, 1, none⟩ = some (.bool tu) := (by rw [b9.cell (by first | omega | (simp; done) | (simp; omega))]; go_cell)
        have x2_9 : w9.cell? ⟨w5.heap.size, 2, none⟩ = some (.slice po0 A0.length pc0) := (by rw [b9.cell (by first | omega | (simp; done) | (simp; omega))]; go_cell)
        have x3_9 : w9.cell? ⟨w5.heap.size, 3, none⟩ = some (.slice po1 A1.length pc1) := (by rw [b9.cell (by first | omega | (simp; done) | (simp; omega))]; go_cell)
        have xl_9 : w5.heap.size < w9.heap.size := (by have := b9.size; first | omega | (revert this; simp; done) | (revert this; simp; omega))
        have y0_9 : w9.cell? ⟨w7.heap.size, 0, none⟩ = some (.int .i64 p) := (by rw [b9.cell (by first | omega | (simp; done) | (simp; omega))]; go_cell)
        have y1_9 : w9.cell? ⟨w7.heap.size, 1, none⟩ = some (.int .i64 f) := (by rw [b9.cell (by first | omega | (simp; done) | (simp; omega))]; go_cell)
        have y2_9 : w9.cell? ⟨w7.heap.size, 2, none⟩ = some (.int .i64 st) := (by rw [b9.cell (by first | omega | (simp; done) | (simp; omega))]; go_cell)
        have y3_9 : w9.cell? ⟨w7.heap.size, 3, none⟩ = some (.slice qo0 B0.length qc0) := (by rw [b9.cell (by first | omega | (simp; done) | (simp; omega))]; go_cell)
        have y4_9 : w9.cell? ⟨w7.heap.size, 4, none⟩ = some (.slice qo1 B1.length qc1) := (by rw [b9.cell (by first | omega | (simp; done) | (simp; omega))]; go_cell)
        have y5_9 : w9.cell? ⟨w7.heap.size, 5, none⟩ = some (.slice qo2 B2.length qc2) := (by rw [b9.cell (by first | omega | (simp; done) | (simp; omega))]; go_cell)
        have y6_9 : w9.cell? ⟨w7.heap.size, 6, none⟩ = some (.slice qo3 B3.length qc3) := (by rw [b9.cell (by first | omega | (simp; done) | (simp; omega))]; go_cell)
        have y7_9 : w9.cell? ⟨w7.heap.size, 7, none⟩ = some (.slice qo4 B4.length qc4) := (by rw [b9.cell (by first | omega | (simp; done) | (simp; omega))]; go_cell)
        have yl_9 : w7.heap.size < w9.heap.size := (by have := b9.size; first | omega | (revert this; simp; done) | (revert this; simp; omega))
        clear a0_8 a1_8 a2_8 a3_8 al_8 b0_8 b1_8 b2_8 b3_8 b4_8 b5_8 b6_8 b7_8 bl_8 x0_8 x1_8 x2_8 x3_8 xl_8 y0_8 y1_8 y2_8 y3_8 y4_8 y5_8 y6_8 y7_8 yl_8
        have OC9 := hid (OC8.out.later d9)
        have OD9 := hid (OD8.out.later d9)
        clear b9 d9
        have hne : (rv != rv) = false := by simp
        go_upto_region 14 with fail
        go_cut [39] from 10 (fun s wx => s = .bool false ∧ Below w9.heap.size w9 wx)
        case first =>
          go_region_with (first
            | (go_at_call 7; refine (toLead_rd ti tu (.slice ao0 A0.length ac0) (.slice ao1 A1.length ac1) A0 A1 _ (HA.out.later (c9.drew)) HLA.out).mono ?_; rintro e w10 ⟨⟨zo0, zo1, zc0, zc1, rfl, oa⟩, b10⟩; have OE10 := hid oa; clear oa; have d10 : Below w9.heap.size w9 w10 := (Below.trans (by go_grown) (b10.mono (by first | omega | (simp; done) | (simp; omega)))); have c10 : Below w.heap.size w w10 := c9.trans (d10.mono c9.size); have x0_10 : w10.cell? ⟨w5.heap.size, 0, none⟩ = some (.int .i64 ti) := (by rw [b10.cell (by first | omega | (simp; done) | (simp; omega))]; go_cell); have x1_10 : w10.cell? ⟨w5.heap.size, 1, none⟩ = some (.bool tu) := (by rw [b10.cell (by first | omega | (simp; done) | (simp; omega))]; go_cell); have x2_10 : w10.cell? ⟨w5.heap.size, 2, none⟩ = some (.slice po0 A0.length pc0) := (by rw [b10.cell (by first | omega | (simp; done) | (simp; omega))]; go_cell); have x3_10 : w10.cell? ⟨w5.heap.size, 3, none⟩ = some (.slice po1 A1.length pc1) := (by rw [b10.cell (by first | omega | (simp; done) | (simp; omega))]; go_cell); have xl_10 : w5.heap.size < w10.heap.size := (by have := b10.size; first | omega | (revert this; simp; done) | (revert this; simp; omega)); clear x0_9 x1_9 x2_9 x3_9 xl_9)
            | (go_at_call 10; refine (eqLead_rd ti tu _ _ _ _ A0 A1 _ (OC9.out.later d10) OE10.out).mono ?_; rintro e w11 ⟨rfl, b11⟩; have d11 : Below w10.heap.size w10 w11 := (Below.trans (by go_grown) (b11.mono (by first | omega | (simp; done) | (simp; omega)))); have c11 : Below w.heap.size w w11 := c10.trans (d11.mono c10.size)))
          all_goals
            go_wp2_with fail
            go_meet
            exact ⟨rfl, d10.trans (d11.mono d10.size)⟩
        case rest =>
          obtain ⟨rfl, b10⟩ := hcut
          obtain ⟨w10, hw10⟩ : ∃ x, x = wc := ⟨_, rfl⟩
          subst hw10
          have d10 : Below w9.heap.size w9 w10 := (Below.trans (by go_grown) (b10.mono (by first | omega | (simp; done) | (simp; omega))))
          have c10 : Below w.heap.size w w10 := c9.trans (d10.mono c9.size)
          have b0_10 : w10.cell? ⟨w.heap.size + 1, 0, none⟩ = some (.int .i64 p) := (by rw [b10.cell (by first | omega | (simp; done) | (simp; omega))]; go_cell)
          have b1_10 : w10.cell? ⟨w.heap.size + 1, 1, none⟩ = some (.int .i64 f) := (by rw [b10.cell (by first | omega | (simp; done) | (simp; omega))]; go_cell)
          have b2_10 : w10.cell? ⟨w.heap.size + 1, 2, none⟩ = some (.int .i64 st) := (by rw [b10.cell (by first | omega | (simp; done) | (simp; omega))]; go_cell)
          have b3_10 : w10.cell? ⟨w.heap.size + 1, 3, none⟩ = some (.slice bo0 B0.length bc0) := (by rw [b10.cell (by first | omega | (simp; done) | (simp; omega))]; go_cell)
          have b4_10 : w10.cell? ⟨w.heap.size + 1, 4, none⟩ = some (.slice bo1 B1.length bc1) := (by rw [b10.cell (by first | omega | (simp; done) | (simp; omega))]; go_cell)
          have b5_10 : w10.cell? ⟨w.heap.size + 1, 5, none⟩ = some (.slice bo2 B2.length bc2) := (by rw [b10.cell (by first | omega | (simp; done) | (simp; omega))]; go_cell)
          have b6_10 : w10.cell? ⟨w.heap.size + 1, 6, none⟩ = some (.slice bo3 B3.length bc3) := (by rw [b10.cell (by first | omega | (simp; done) | (simp; omega))]; go_cell)
          have b7_10 : w10.cell? ⟨w.heap.size + 1, 7, none⟩ = some (.slice bo4 B4.length bc4) := (by rw [b10.cell (by first | omega | (simp; done) | (simp; omega))]; go_cell)
          have bl_10 : w.heap.size + 1 < w10.heap.size := (by have := b10.size; first | omega | (revert this; simp; done) | (revert this; simp; omega))
          have y0_10 : w10.cell? ⟨w7.heap.size, 0, none⟩ = some (.int .i64 p) := (by rw [b10.cell (by first | omega | (simp; done) | (simp; omega))]; go_cell)
          have y1_10 : w10.cell? ⟨w7.heap.size, 1, none⟩ = some (.int .i64 f) := (by rw [b10.cell (by first | omega | (simp; done) | (simp; omega))]; go_cell)
          have y2_10 : w10.cell? ⟨w7.heap.size, 2, none⟩ = some (.int .i64 st) := (by rw [b10.cell (by first | omega | (simp; done) | (simp; omega))]; go_cell)
          have y3_10 : w10.cell? ⟨w7.heap.size, 3, none⟩ = some (.slice qo0 B0.length qc0) := (by rw [b10.cell (by first | omega | (simp; done) | (simp; omega))]; go_cell)
          have y4_10 : w10.cell? ⟨w7.heap.size, 4, none⟩ = some (.slice qo1 B1.length qc1) := (by rw [b10.cell (by first | omega | (simp; done) | (simp; omega))]; go_cell)
          have y5_10 : w10.cell? ⟨w7.heap.size, 5, none⟩ = some (.slice qo2 B2.length qc2) := (by rw [b10.cell (by first | omega | (simp; done) | (simp; omega))]; go_cell)
          have y6_10 : w10.cell? ⟨w7.heap.size, 6, none⟩ = some (.slice qo3 B3.length qc3) := (by rw [b10.cell (by first | omega | (simp; done) | (simp; omega))]; go_cell)
          have y7_10 : w10.cell? ⟨w7.heap.size, 7, none⟩ = some (.slice qo4 B4.length qc4) := (by rw [b10.cell (by first | omega | (simp; done) | (simp; omega))]; go_cell)
          have yl_10 : w7.heap.size < w10.heap.size := (by have := b10.size; first | omega | (revert this; simp; done) | (revert this; simp; omega))
          clear b0_9 b1_9 b2_9 b3_9 b4_9 b5_9 b6_9 b7_9 bl_9 y0_9 y1_9 y2_9 y3_9 y4_9 y5_9 y6_9 y7_9 yl_9
          have OD10 := hid (OD9.out.later d10)
          clear b10 d10
          go_upto_region 16 with fail
          go_cut [44] from 10 (fun s wx => s = .bool false ∧ Below w10.heap.size w10 wx)
          case first =>
            go_region_with (first
              | (go_at_call 8; refine (toShard_rd p f st (.slice bo0 B0.length bc0) (.slice bo1 B1.length bc1) (.slice bo2 B2.length bc2) (.slice bo3 B3.length bc3) (.slice bo4 B4.length bc4) B0 B1 B2 B3 B4 _ (HB.out.later (c10.drew)) HLB.out).mono ?_; rintro e w11 ⟨⟨zo0, zo1, zo2, zo3, zo4, zc0, zc1, zc2, zc3, zc4, rfl, oa⟩, b11⟩; have OE11 := hid oa; clear oa; have d11 : Below w10.heap.size w10 w11 := (Below.trans (by go_grown) (b11.mono (by first | omega | (simp; done) | (simp; omega)))); have c11 : Below w.heap.size w w11 := c10.trans (d11.mono c10.size); have y0_11 : w11.cell? ⟨w7.heap.size, 0, none⟩ = some (.int .i64 p) := (by rw [b11.cell (by first | omega | (simp; done) | (simp; omega))]; go_cell); have y1_11 : w11.cell? ⟨w7.heap.size, 1, none⟩ = some (.int .i64 f) := (by rw [b11.cell (by first | omega | (simp; done) | (simp; omega))]; go_cell); have y2_11 : w11.cell? ⟨w7.heap.size, 2, none⟩ = some (.int .i64 st) := (by rw [b11.cell (by first | omega | (simp; done) | (simp; omega))]; go_cell); have y3_11 : w11.cell? ⟨w7.heap.size, 3, none⟩ = some (.slice qo0 B0.length qc0) := (by rw [b11.cell (by first | omega | (simp; done) | (simp; omega))]; go_cell); have y4_11 : w11.cell? ⟨w7.heap.size, 4, none⟩ = some (.slice qo1 B1.length qc1) := (by rw [b11.cell (by first | omega | (simp; done) | (simp; omega))]; go_cell); have y5_11 : w11.cell? ⟨w7.heap.size, 5, none⟩ = some (.slice qo2 B2.length qc2) := (by rw [b11.cell (by first | omega | (simp; done) | (simp; omega))]; go_cell); have y6_11 : w11.cell? ⟨w7.heap.size, 6, none⟩ = some (.slice qo3 B3.length qc3) := (by rw [b11.cell (by first | omega | (simp; done) | (simp; omega))]; go_cell); have y7_11 : w11.cell? ⟨w7.heap.size, 7, none⟩ = some (.slice qo4 B4.length qc4) := (by rw [b11.cell (by first | omega | (simp; done) | (simp; omega))]; go_cell); have yl_11 : w7.heap.size < w11.heap.size := (by have := b11.size; first | omega | (revert this; simp; done) | (revert this; simp; omega)); clear y0_10 y1_10 y2_10 y3_10 y4_10 y5_10 y6_10 y7_10 yl_10)
              | (go_at_call 11; refine (eqShard_rd p f st _ _ _ _ _ _ _ _ _ _ B0 B1 B2 B3 B4 _ (OD10.out.later d11) OE11.out).mono ?_; rintro e w12 ⟨rfl, b12⟩; have d12 : Below w11.heap.size w11 w12 := (Below.trans (by go_grown) (b12.mono (by first | omega | (simp; done) | (simp; omega)))); have c12 : Below w.heap.size w w12 := c11.trans (d12.mono c11.size)))
            all_goals
              go_wp2_with fail
              go_meet
              exact ⟨rfl, d11.trans (d12.mono d11.size)⟩
          case rest =>
            obtain ⟨rfl, b12⟩ := hcut
            have c12 := c10.trans (b12.mono c10.size)
            clear b12
            go_wp2
            go_ret
            exact ⟨by simp, c12⟩
    · go_wp2
      go_ret
      exact ⟨by simp, c3⟩
  · go_wp2
    go_ret
    exact ⟨by simp, c2⟩
end Go.Proofs.YtfibdnhihnccaaaGreat

/- Part: An argument that is a slice of edges reads as a list of pairs. -/
namespace Go.Proofs.YtfibdnhihnccaaaGreat
open Go.ChangeShapes Go.WideShapes Go.ChangeAt Go.RowKit Go.Deep

theorem Tryz.own : ownKnob Tryz.prog.godebug = none := by kernel_rfl
theorem Tryz.laidOut : laidOutB Tryz.prog = true := by kernel_rfl
theorem Tryz.cells203 : Tryz.prog.cellsOf 203 = 2 := by kernel_rfl
theorem Tryz.cells3 : Tryz.prog.cellsOf 3 = 1 := by kernel_rfl

set_option maxRecDepth 100000 in
theorem rd_of {H : Type} {enc : TypeId × Value → H} {W : World} {base : Nat} {v : Value} {d : DataW H} {p : List MemPlace} (hv : Value.okWide Tryz.prog W .any base 88 v)
    (h : DataW.Trod enc Tryz.prog W 0 (fun _ => true) true 88 v d p) (hlt : ∀ x ∈ p, x.block < W.heap.size) : ∃ l, Rd W v l := by
  obtain ⟨a0, len, cap, rfl⟩ := okWide_slice Tryz.underlying88 hv
  obtain ⟨fuel, hf⟩ := h
  rcases open_slice_pairs Tryz.underlying88 Tryz.underlying203 Tryz.cells203 rfl rfl Tryz.cells3 Tryz.cells3 hf with ⟨hcs, _⟩ | ⟨a, len', cap', m, n, V0, V1, D0, D1, P0, P1, hcs, _, hlc, hcm, hm, hx, hcell⟩
  · simp [Value.cells] at hcs
    obtain ⟨rfl, rfl, rfl⟩ := hcs
    exact ⟨[], Rd.nil W none 0⟩
  · simp [Value.cells] at hcs
    obtain ⟨rfl, rfl, rfl⟩ := hcs
    simp only [if_true] at hm
    subst hm
    have num : ∀ (t : Value) (x : DataW H × List MemPlace), DataW.trod enc Tryz.prog W 0 (fun _ => true) true n 3 [t] = some x → ∃ z, t = .int .i64 z := by
      intro t x hx
      obtain ⟨z, hz, _⟩ := DataW.trod_int Tryz.underlying3 hx
      exact ⟨z, by simpa using hz⟩
    let N : Value → Int := fun t => match t with | .int _ z => z | _ => 0
    refine ⟨(List.range len).map fun i => (N (V0 i), N (V1 i)), some a, _, by simp; rfl, by simp only [List.length_map, List.length_range]; omega, fun h0 => ?_⟩
    simp only [List.length_map, List.length_range] at h0 ⊢
    obtain ⟨b, off, spot⟩ := a
    have hs : spot = none := by
      have := (hcell 0 (by omega)).1
      simpa [Addr.add] using World.cell?_spot this
    subst hs
    refine ⟨b, off, rfl, ?_, fun i hi => ?_⟩
    · simp only [Prod.mk.injEq] at hx
      have := hlt (.cell b off) (by rw [hx.2]; exact List.mem_append_left _ (MemPlace.mem_row.2 ⟨0, by omega, by simp⟩))
      exact this
    · obtain ⟨c0, c1, t0, t1⟩ := hcell i (by omega)
      obtain ⟨z0, e0⟩ := num _ _ t0
      obtain ⟨z1, e1⟩ := num _ _ t1
      rw [add_plain] at c0 c1
      have hg : ((List.range len).map fun i => (N (V0 i), N (V1 i))).getD i (0, 0) = (z0, z1) := by
        simp [List.getD_eq_getElem?_getD, hi, e0, e1, N]
      rw [hg]
      exact ⟨by rw [c0, e0], by rw [show off + i * 2 + 1 = off + (i * 2 + 1) from by omega, c1, e1]⟩
end Go.Proofs.YtfibdnhihnccaaaGreat

/- Part: An argument that is a value (a number and a slice of edges). -/
namespace Go.Proofs.YtfibdnhihnccaaaGreat
open Go.ChangeShapes Go.WideShapes Go.ChangeAt Go.RowKit Go.Deep Go.Joins

theorem Tryz.cells90 : Tryz.prog.cellsOf 90 = 2 := by kernel_rfl

set_option maxRecDepth 100000 in
theorem rd_of_trod {H : Type} {enc : TypeId × Value → H} {W : World} {v : Value} {d : DataW H} {p : List MemPlace} {fuel : Nat}
    (hf : DataW.trod enc Tryz.prog W 0 (fun _ => true) true fuel 88 [v] = some (d, p)) (hlt : ∀ x ∈ p, x.block < W.heap.size) : ∃ l, Rd W v l := by
  rcases open_slice_pairs Tryz.underlying88 Tryz.underlying203 Tryz.cells203 rfl rfl Tryz.cells3 Tryz.cells3 hf with ⟨hcs, _⟩ | ⟨a, len', cap', m, n, V0, V1, D0, D1, P0, P1, hcs, _, hlc, hcm, hm, hx, hcell⟩
  · simp at hcs
    subst hcs
    exact ⟨[], Rd.nil W none 0⟩
  · simp at hcs
    subst hcs
    simp only [if_true] at hm
    subst hm
    have num : ∀ (t : Value) (x : DataW H × List MemPlace), DataW.trod enc Tryz.prog W 0 (fun _ => true) true n 3 [t] = some x → ∃ z, t = .int .i64 z := by
      intro t x hx
      obtain ⟨z, hz, _⟩ := DataW.trod_int Tryz.underlying3 hx
      exact ⟨z, by simpa using hz⟩
    let N : Value → Int := fun t => match t with | .int _ z => z | _ => 0
    refine ⟨(List.range len').map fun i => (N (V0 i), N (V1 i)), some a, _, by simp; rfl, by simp only [List.length_map, List.length_range]; omega, fun h0 => ?_⟩
    simp only [List.length_map, List.length_range] at h0 ⊢
    obtain ⟨b, off, spot⟩ := a
    have hs : spot = none := by
      have := (hcell 0 (by omega)).1
      simpa [Addr.add] using World.cell?_spot this
    subst hs
    refine ⟨b, off, rfl, ?_, fun i hi => ?_⟩
    · simp only [Prod.mk.injEq] at hx
      have := hlt (.cell b off) (by rw [hx.2]; exact List.mem_append_left _ (MemPlace.mem_row.2 ⟨0, by omega, by simp⟩))
      exact this
    · obtain ⟨c0, c1, t0, t1⟩ := hcell i (by omega)
      obtain ⟨z0, e0⟩ := num _ _ t0
      obtain ⟨z1, e1⟩ := num _ _ t1
      rw [add_plain] at c0 c1
      have hg : ((List.range len').map fun i => (N (V0 i), N (V1 i))).getD i (0, 0) = (z0, z1) := by
        simp [List.getD_eq_getElem?_getD, hi, e0, e1, N]
      rw [hg]
      exact ⟨by rw [c0, e0], by rw [show off + i * 2 + 1 = off + (i * 2 + 1) from by omega, c1, e1]⟩

set_option maxRecDepth 100000 in
theorem val_of {H : Type} {enc : TypeId × Value → H} {W : World} {base : Nat} {v : Value} {d : DataW H} {p : List MemPlace} (hv : Value.okWide Tryz.prog W .any base 90 v)
    (h : DataW.Trod enc Tryz.prog W 0 (fun _ => true) true 90 v d p) (hlt : ∀ x ∈ p, x.block < W.heap.size) : ∃ n u l, v = .agg #[.int .i64 n, u] ∧ Rd W u l := by
  obtain ⟨v0, v1, y0, y1, n, rfl, rfl, rfl, h0, h1⟩ := open_agg2 Tryz.underlying90 (by kernel_rfl) Tryz.cells90 hv h
  obtain ⟨z, hz, _⟩ := DataW.trod_int Tryz.underlying3 h0
  have hz' : v0 = .int .i64 z := by simpa using hz
  obtain ⟨d1, p1⟩ := y1
  obtain ⟨l, hl⟩ := rd_of_trod h1 (fun x hx => hlt x (List.mem_append_right _ hx))
  exact ⟨z, v1, l, by rw [hz'], hl⟩
end Go.Proofs.YtfibdnhihnccaaaGreat

/- Part: An argument's cells: numbers, then kin; lists of such. -/
namespace Go.Proofs.YtfibdnhihnccaaaGreat
open Go.ChangeShapes Go.WideShapes Go.ChangeAt Go.RowKit Go.Deep Go.Joins

theorem Tryz.cells88' : Tryz.prog.cellsOf 88 = 1 := by kernel_rfl
/-- The cells of an element: its m numbers, then its kin. -/
def CellsK (W : World) (m : Nat) (kn : Bool) (cs : List Value) (x : KD) : Prop :=
  x.1.length = m ∧ ∃ us : List Value, cs = x.1.map (fun n => Value.int .i64 n) ++ us ∧ (kn = true → ∃ u, us = [u] ∧ Rd W u x.2) ∧ (kn = false → us = [] ∧ x.2 = [])
theorem CellsK.append {W : World} {m1 m2 : Nat} {kn : Bool} {cs1 cs2 : List Value} {x1 x2 : KD} (h1 : CellsK W m1 false cs1 x1) (h2 : CellsK W m2 kn cs2 x2) : CellsK W (m1 + m2) kn (cs1 ++ cs2) (x1.1 ++ x2.1, x2.2) := by
  obtain ⟨l1, us1, rfl, _, g1⟩ := h1
  obtain ⟨l2, us2, rfl, f2, g2⟩ := h2
  obtain ⟨rfl, _⟩ := g1 rfl
  exact ⟨by rw [List.length_append, l1, l2], us2, by simp, f2, g2⟩
theorem CellsK.at {W : World} {m : Nat} {kn : Bool} {cs : List Value} {x : KD} {b p : Nat} (h : CellsK W m kn cs x) (hc : ∀ j, j < cs.length → W.cell? ⟨b, p + j, none⟩ = cs[j]?) : AtK m kn W b p x := by
  obtain ⟨l, us, rfl, f, g⟩ := h
  refine ⟨l, fun j hj => ?_, fun hk => ?_, fun hk => (g hk).2⟩
  · rw [hc j (by simp; omega), List.getElem?_append_left (by simp; omega), List.getElem?_map, List.getElem?_eq_getElem (by omega)]
    simp [List.getD_eq_getElem?_getD, List.getElem?_eq_getElem (show j < x.1.length by omega)]
  · obtain ⟨u, rfl, hu⟩ := f hk
    exact ⟨u, by rw [hc m (by simp [l]), List.getElem?_append_right (by simp [l])]; simp [l], hu⟩
/-- Whatever is read by a type has such cells. -/
def ElemK {H : Type} (enc : TypeId × Value → H) (W : World) (t : TypeId) (m : Nat) (kn : Bool) : Prop :=
  ∀ (fuel : Nat) (cs : List Value) (d : DataW H) (p : List MemPlace), DataW.trod enc Tryz.prog W 0 (fun _ => true) true fuel t cs = some (d, p) → (∀ x ∈ p, x.block < W.heap.size) → ∃ x, CellsK W m kn cs x
theorem elem_int {H : Type} (enc : TypeId × Value → H) (W : World) : ElemK enc W 3 1 false := by
  intro fuel cs d p h _
  obtain ⟨z, hz, _⟩ := DataW.trod_int Tryz.underlying3 h
  exact ⟨([z], []), rfl, [], by simpa using hz, fun q => (by cases q), fun _ => ⟨rfl, rfl⟩⟩
theorem elem_kin {H : Type} (enc : TypeId × Value → H) (W : World) : ElemK enc W 88 0 true := by
  intro fuel cs d p h hlt
  have : ∃ v, cs = [v] := by
    rcases open_slice Tryz.underlying88 h with ⟨hc, _⟩ | ⟨a, len, cap, _, _, _, _, hc, _⟩
    · exact ⟨_, hc⟩
    · exact ⟨_, hc⟩
  obtain ⟨v, rfl⟩ := this
  obtain ⟨l, hl⟩ := rd_of_trod h hlt
  exact ⟨([], l), rfl, [v], rfl, fun _ => ⟨v, rfl, hl⟩, fun q => (by cases q)⟩

set_option maxRecDepth 100000 in
theorem rdM_of_trod {H : Type} {enc : TypeId × Value → H} {W : World} {v : Value} {d : DataW H} {p : List MemPlace} {fuel : Nat} {t e : TypeId} {sz m : Nat} {kn : Bool} (ht : Tryz.prog.underlying t = some (.slice e)) (hce : Tryz.prog.cellsOf e = sz) (hsz : 0 < sz) (he : ElemK enc W e m kn)
    (hf : DataW.trod enc Tryz.prog W 0 (fun _ => true) true fuel t [v] = some (d, p)) (hlt : ∀ x ∈ p, x.block < W.heap.size) : ∃ L, RdM sz m kn W v L := by
  rcases open_slice ht hf with ⟨hcs, _⟩ | ⟨a, len, cap, mm, n, D, Pl, hcs, _, hl, hm, hmm, hx, hcell⟩
  · simp at hcs
    subst hcs
    exact ⟨[], RdM.nil W none 0⟩
  · simp at hcs
    subst hcs
    simp only [if_true] at hmm
    subst hmm
    simp only [Prod.mk.injEq] at hx
    rw [hce] at hcell hx
    have each : ∀ i, i < mm → ∃ q : List Value × KD, W.cells? 0 (a.add (i * sz)) sz = some q.1 ∧ CellsK W m kn q.1 q.2 := by
      intro i hi
      obtain ⟨cs', h1, h2⟩ := hcell i hi
      obtain ⟨x, hxk⟩ := he n cs' (D i) (Pl i) h2 (fun x hx1 => hlt x (by
        rw [hx.2]
        exact List.mem_append_right _ (List.mem_flatMap.2 ⟨i, List.mem_range.2 hi, hx1⟩)))
      exact ⟨(cs', x), h1, hxk⟩
    let N : Nat → KD := fun i => if h : i < mm then (each i h).choose.2 else kd0
    refine ⟨(List.range len).map N, some a, mm, by simp, by simp only [List.length_map, List.length_range]; omega, fun h0 => ?_⟩
    simp only [List.length_map, List.length_range] at h0 ⊢
    have hfirst : ∃ u, W.cell? (a.add (0 * sz)) = some u := by
      obtain ⟨cs', h1, _⟩ := hcell 0 (by omega)
      obtain ⟨_, hlen, hcc⟩ := World.cells?_some h1
      have := hcc 0 hsz
      refine ⟨cs'[0]'(by omega), ?_⟩
      rw [add_add, Nat.add_zero] at this
      rw [this]
      simp [List.getElem?_eq_getElem (show 0 < cs'.length by omega)]
    obtain ⟨b, off, spot⟩ := a
    have hs : spot = none := by
      obtain ⟨u, hu⟩ := hfirst
      simpa [Addr.add] using World.cell?_spot hu
    subst hs
    refine ⟨b, off, rfl, ?_, fun i hi => ?_⟩
    · have := hlt (.cell b off) (by rw [hx.2]; exact List.mem_append_left _ (MemPlace.mem_row.2 ⟨0, Nat.mul_pos (by omega) hsz, by simp⟩))
      exact this
    · have hg : ((List.range len).map N).getD i kd0 = N i := by
        simp [List.getD_eq_getElem?_getD, hi]
      rw [hg]
      have hi' : i < mm := by omega
      obtain ⟨h1, h2⟩ := (each i hi').choose_spec
      have hN : N i = (each i hi').choose.2 := by simp only [N, dif_pos hi']
      rw [hN]
      obtain ⟨_, hlen, hcc⟩ := World.cells?_some h1
      refine h2.at fun j hj => ?_
      have e : (((⟨b, off, none⟩ : Addr).add (i * sz)).add j) = ⟨b, off + i * sz + j, none⟩ := by rw [add_plain, add_plain]
      exact (congrArg W.cell? e).symm.trans (hcc j (by omega))
end Go.Proofs.YtfibdnhihnccaaaGreat

/- Part: The elements of a value's list, as an argument. Taken out of OpenCache and OpenShard. -/
namespace Go.Proofs.YtfibdnhihnccaaaGreat
open Go.ChangeShapes Go.WideShapes Go.ChangeAt Go.RowKit Go.Deep Go.Joins

theorem Tryz.cells_Val : Tryz.prog.cellsOf 90 = 2 := by kernel_rfl
set_option maxRecDepth 100000 in
theorem elem_Val {H : Type} (enc : TypeId × Value → H) (W : World) : ElemK enc W 90 1 true := by
  intro fuel cs d p h hlt
  obtain ⟨xs, n, _, hx, hl, hxl, hff⟩ := DataW.trod_struct Tryz.underlying90 h
  rw [Tryz.cells_Val] at hl
  simp only [Prod.mk.injEq] at hx
  match xs, hxl, hx, hff with
  | [(d0, q0), (d1, q1)], _, hx, hff =>
    have h0 : DataW.trod enc Tryz.prog W 0 (fun _ => true) true n 3 ((cs.drop 0).take 1) = some (d0, q0) := by
      have h := hff 0 _ rfl
      first | exact h | (rw [Tryz.cells3] at h; exact h)
    obtain ⟨x0, k0⟩ := elem_int enc W _ _ _ _ h0 (fun x hx1 => hlt x (by rw [hx.2]; simp only [List.flatMap_cons, List.flatMap_nil, List.mem_append]; exact Or.inl hx1))
    have h1 : DataW.trod enc Tryz.prog W 0 (fun _ => true) true n 88 ((cs.drop 1).take 1) = some (d1, q1) := by
      have h := hff 1 _ rfl
      first | exact h | (rw [Tryz.cells88'] at h; exact h)
    obtain ⟨x1, k1⟩ := elem_kin enc W _ _ _ _ h1 (fun x hx1 => hlt x (by rw [hx.2]; simp only [List.flatMap_cons, List.flatMap_nil, List.mem_append]; exact Or.inr (Or.inl hx1)))
    have e : cs = (cs.drop 0).take 1 ++ ((cs.drop 1).take 1) := by
      match cs, hl with
      | [z0, z1], _ => rfl
    have k := (k0.append k1)
    rw [← e] at k
    exact ⟨_, k⟩
end Go.Proofs.YtfibdnhihnccaaaGreat

/- Part: An argument that is a Cache. Written by a program (gopen.py). -/
namespace Go.Proofs.YtfibdnhihnccaaaGreat
open Go.ChangeShapes Go.WideShapes Go.ChangeAt Go.RowKit Go.Deep Go.Joins

theorem Tryz.cells_Item : Tryz.prog.cellsOf 142 = 4 := by kernel_rfl
set_option maxRecDepth 100000 in
theorem elem_Item {H : Type} (enc : TypeId × Value → H) (W : World) : ElemK enc W 142 3 true := by
  intro fuel cs d p h hlt
  obtain ⟨xs, n, _, hx, hl, hxl, hff⟩ := DataW.trod_struct Tryz.underlying142 h
  rw [Tryz.cells_Item] at hl
  simp only [Prod.mk.injEq] at hx
  match xs, hxl, hx, hff with
  | [(d0, q0), (d1, q1), (d2, q2)], _, hx, hff =>
    have h0 : DataW.trod enc Tryz.prog W 0 (fun _ => true) true n 3 ((cs.drop 0).take 1) = some (d0, q0) := by
      have h := hff 0 _ rfl
      first | exact h | (rw [Tryz.cells3] at h; exact h)
    obtain ⟨x0, k0⟩ := elem_int enc W _ _ _ _ h0 (fun x hx1 => hlt x (by rw [hx.2]; simp only [List.flatMap_cons, List.flatMap_nil, List.mem_append]; exact Or.inl hx1))
    have h1 : DataW.trod enc Tryz.prog W 0 (fun _ => true) true n 3 ((cs.drop 1).take 1) = some (d1, q1) := by
      have h := hff 1 _ rfl
      first | exact h | (rw [Tryz.cells3] at h; exact h)
    obtain ⟨x1, k1⟩ := elem_int enc W _ _ _ _ h1 (fun x hx1 => hlt x (by rw [hx.2]; simp only [List.flatMap_cons, List.flatMap_nil, List.mem_append]; exact Or.inr (Or.inl hx1)))
    have h2 : DataW.trod enc Tryz.prog W 0 (fun _ => true) true n 90 ((cs.drop 2).take 2) = some (d2, q2) := by
      have h := hff 2 _ rfl
      first | exact h | (rw [Tryz.cells_Val] at h; exact h)
    obtain ⟨x2, k2⟩ := elem_Val enc W _ _ _ _ h2 (fun x hx1 => hlt x (by rw [hx.2]; simp only [List.flatMap_cons, List.flatMap_nil, List.mem_append]; exact Or.inr (Or.inr (Or.inl hx1))))
    have e : cs = (cs.drop 0).take 1 ++ ((cs.drop 1).take 1 ++ ((cs.drop 2).take 2)) := by
      match cs, hl with
      | [z0, z1, z2, z3], _ => rfl
    have k := (k0.append (k1.append k2))
    rw [← e] at k
    exact ⟨_, k⟩
theorem Tryz.cellsL_Item : Tryz.prog.cellsOf 22 = 1 := by kernel_rfl
theorem Tryz.cellsL_int : Tryz.prog.cellsOf 23 = 1 := by kernel_rfl
theorem Tryz.cells_Cache : Tryz.prog.cellsOf 25 = 2 := by kernel_rfl
set_option maxRecDepth 100000 in
theorem cache_of {H : Type} {enc : TypeId × Value → H} {W : World} {base : Nat} {v : Value} {d : DataW H} {p : List MemPlace} (hv : Value.okWide Tryz.prog W .any base 25 v)
    (h : DataW.Trod enc Tryz.prog W 0 (fun _ => true) true 25 v d p) (hlt : ∀ x ∈ p, x.block < W.heap.size) : ∃ (u0 u1 : Value) (L0 L1 : List KD), v = .agg #[u0, u1] ∧ RSCache W u0 u1 L0 L1 := by
  obtain ⟨cs, rfl, hsz⟩ := okWide_struct Tryz.underlying25 hv
  rw [Tryz.cells_Cache] at hsz
  obtain ⟨z0, z1, rfl⟩ : ∃ z0 z1, cs = #[z0, z1] := by
    obtain ⟨l⟩ := cs
    match l, hsz with
    | [z0, z1], _ => exact ⟨z0, z1, rfl⟩
  obtain ⟨fuel, hf⟩ := h
  obtain ⟨xs, n, _, hx, _, hxl, hff⟩ := DataW.trod_struct Tryz.underlying25 hf
  simp only [Prod.mk.injEq] at hx
  match xs, hxl, hx, hff with
  | [(d0, q0), (d1, q1)], _, hx, hff =>
    have h0 := hff 0 _ rfl
    simp [Value.cells, Tryz.cellsL_Item] at h0
    obtain ⟨L0, hL0⟩ := rdM_of_trod (sz := 4) (m := 3) (kn := true) Tryz.underlying22 Tryz.cells_Item (by decide) (elem_Item enc W) h0 (fun x hx1 => hlt x (by rw [hx.2]; simp only [List.flatMap_cons, List.flatMap_nil, List.mem_append]; exact Or.inl hx1))
    have h1 := hff 1 _ rfl
    simp [Value.cells, Tryz.cellsL_int] at h1
    obtain ⟨L1, hL1⟩ := rdM_of_trod (sz := 1) (m := 1) (kn := false) Tryz.underlying23 Tryz.cells3 (by decide) (elem_int enc W) h1 (fun x hx1 => hlt x (by rw [hx.2]; simp only [List.flatMap_cons, List.flatMap_nil, List.mem_append]; exact Or.inr (Or.inl hx1)))
    exact ⟨z0, z1, L0, L1, rfl, ⟨hL0, hL1⟩⟩
end Go.Proofs.YtfibdnhihnccaaaGreat

/- Part: An argument that is one who leads. Written by a program (gld.py). -/
namespace Go.Proofs.YtfibdnhihnccaaaGreat
open Go.ChangeShapes Go.WideShapes Go.ChangeAt Go.RowKit Go.Deep Go.Joins

theorem Tryz.cells_LB1 : Tryz.prog.cellsOf 4 = 1 := by kernel_rfl
theorem Tryz.shp_LBL : Tryz.prog.underlying 4 = some .bool := by kernel_rfl
theorem Tryz.cells_Lead : Tryz.prog.cellsOf 27 = 4 := by kernel_rfl
set_option maxRecDepth 100000 in
set_option maxHeartbeats 4000000 in
theorem lead_of {H : Type} {enc : TypeId × Value → H} {W : World} {base : Nat} {v : Value} {d : DataW H} {p : List MemPlace} (hv : Value.okWide Tryz.prog W .any base 27 v)
    (h : DataW.Trod enc Tryz.prog W 0 (fun _ => true) true 27 v d p) (hlt : ∀ x ∈ p, x.block < W.heap.size) :
    ∃ (i0 : Int) (q0 : Bool) (u0 u1 : Value) (L0 L1 : List KD), v = .agg #[.int .i64 i0, .bool q0, u0, u1] ∧ RSCache W u0 u1 L0 L1 := by
  obtain ⟨cs, rfl, hsz⟩ := okWide_struct Tryz.underlying27 hv
  rw [Tryz.cells_Lead] at hsz
  obtain ⟨z0, z1, z2, z3, rfl⟩ : ∃ z0 z1 z2 z3, cs = #[z0, z1, z2, z3] := by
    obtain ⟨l⟩ := cs
    match l, hsz with
    | [z0, z1, z2, z3], _ => exact ⟨z0, z1, z2, z3, rfl⟩
  obtain ⟨fuel, hf⟩ := h
  obtain ⟨xs, n, _, hx, _, hxl, hff⟩ := DataW.trod_struct Tryz.underlying27 hf
  simp only [Prod.mk.injEq] at hx
  match xs, hxl, hx, hff with
  | [(d0, g0), (d1, g1), (d2, g2)], _, hx, hff =>
    have h0 := hff 0 _ rfl
    simp [Value.cells, Tryz.cells3] at h0
    obtain ⟨j0, hz0, _⟩ := DataW.trod_int Tryz.underlying3 h0
    have hy0 : z0 = .int .i64 j0 := by simpa using hz0
    have h1 := hff 1 _ rfl
    simp [Value.cells, Tryz.cells_LB1] at h1
    obtain ⟨b1, hz1, _⟩ := DataW.trod_bool Tryz.shp_LBL h1
    have hy1 : z1 = .bool b1 := by simpa using hz1
    have h2 := hff 2 _ rfl
    simp [Value.cells, Tryz.cells_Cache] at h2
    obtain ⟨zs, m8, _, hx8, _, hzl, hkk⟩ := DataW.trod_struct Tryz.underlying25 h2
    simp only [Prod.mk.injEq] at hx8
    match zs, hzl, hx8, hkk with
    | [(y0, t0), (y1, t1)], _, hx8, hkk =>
    have r0 := hkk 0 _ rfl
    simp [Tryz.cellsL_Item] at r0
    obtain ⟨L0, hL0⟩ := rdM_of_trod (sz := 4) (m := 3) (kn := true) Tryz.underlying22 Tryz.cells_Item (by decide) (elem_Item enc W) r0 (fun x hx1 => hlt x (by rw [hx.2]; simp only [List.flatMap_cons, List.flatMap_nil, List.mem_append]; exact Or.inr (Or.inr (Or.inl (by rw [hx8.2]; simp only [List.flatMap_cons, List.flatMap_nil, List.mem_append]; exact Or.inl hx1)))))
    have r1 := hkk 1 _ rfl
    simp [Tryz.cellsL_int] at r1
    obtain ⟨L1, hL1⟩ := rdM_of_trod (sz := 1) (m := 1) (kn := false) Tryz.underlying23 Tryz.cells3 (by decide) (elem_int enc W) r1 (fun x hx1 => hlt x (by rw [hx.2]; simp only [List.flatMap_cons, List.flatMap_nil, List.mem_append]; exact Or.inr (Or.inr (Or.inl (by rw [hx8.2]; simp only [List.flatMap_cons, List.flatMap_nil, List.mem_append]; exact Or.inr (Or.inl hx1))))))
    subst hy0 hy1
    exact ⟨j0, b1, z2, z3, L0, L1, rfl, ⟨hL0, hL1⟩⟩
end Go.Proofs.YtfibdnhihnccaaaGreat

/- Part: An argument that is a Shard. Written by a program (gopen.py). -/
namespace Go.Proofs.YtfibdnhihnccaaaGreat
open Go.ChangeShapes Go.WideShapes Go.ChangeAt Go.RowKit Go.Deep Go.Joins

theorem Tryz.cells_Row : Tryz.prog.cellsOf 92 = 3 := by kernel_rfl
set_option maxRecDepth 100000 in
theorem elem_Row {H : Type} (enc : TypeId × Value → H) (W : World) : ElemK enc W 92 2 true := by
  intro fuel cs d p h hlt
  obtain ⟨xs, n, _, hx, hl, hxl, hff⟩ := DataW.trod_struct Tryz.underlying92 h
  rw [Tryz.cells_Row] at hl
  simp only [Prod.mk.injEq] at hx
  match xs, hxl, hx, hff with
  | [(d0, q0), (d1, q1)], _, hx, hff =>
    have h0 : DataW.trod enc Tryz.prog W 0 (fun _ => true) true n 3 ((cs.drop 0).take 1) = some (d0, q0) := by
      have h := hff 0 _ rfl
      first | exact h | (rw [Tryz.cells3] at h; exact h)
    obtain ⟨x0, k0⟩ := elem_int enc W _ _ _ _ h0 (fun x hx1 => hlt x (by rw [hx.2]; simp only [List.flatMap_cons, List.flatMap_nil, List.mem_append]; exact Or.inl hx1))
    have h1 : DataW.trod enc Tryz.prog W 0 (fun _ => true) true n 90 ((cs.drop 1).take 2) = some (d1, q1) := by
      have h := hff 1 _ rfl
      first | exact h | (rw [Tryz.cells_Val] at h; exact h)
    obtain ⟨x1, k1⟩ := elem_Val enc W _ _ _ _ h1 (fun x hx1 => hlt x (by rw [hx.2]; simp only [List.flatMap_cons, List.flatMap_nil, List.mem_append]; exact Or.inr (Or.inl hx1)))
    have e : cs = (cs.drop 0).take 1 ++ ((cs.drop 1).take 2) := by
      match cs, hl with
      | [z0, z1, z2], _ => rfl
    have k := (k0.append k1)
    rw [← e] at k
    exact ⟨_, k⟩
theorem Tryz.cells_Req : Tryz.prog.cellsOf 104 = 3 := by kernel_rfl
set_option maxRecDepth 100000 in
theorem elem_Req {H : Type} (enc : TypeId × Value → H) (W : World) : ElemK enc W 104 3 false := by
  intro fuel cs d p h hlt
  obtain ⟨xs, n, _, hx, hl, hxl, hff⟩ := DataW.trod_struct Tryz.underlying104 h
  rw [Tryz.cells_Req] at hl
  simp only [Prod.mk.injEq] at hx
  match xs, hxl, hx, hff with
  | [(d0, q0), (d1, q1), (d2, q2)], _, hx, hff =>
    have h0 : DataW.trod enc Tryz.prog W 0 (fun _ => true) true n 3 ((cs.drop 0).take 1) = some (d0, q0) := by
      have h := hff 0 _ rfl
      first | exact h | (rw [Tryz.cells3] at h; exact h)
    obtain ⟨x0, k0⟩ := elem_int enc W _ _ _ _ h0 (fun x hx1 => hlt x (by rw [hx.2]; simp only [List.flatMap_cons, List.flatMap_nil, List.mem_append]; exact Or.inl hx1))
    have h1 : DataW.trod enc Tryz.prog W 0 (fun _ => true) true n 3 ((cs.drop 1).take 1) = some (d1, q1) := by
      have h := hff 1 _ rfl
      first | exact h | (rw [Tryz.cells3] at h; exact h)
    obtain ⟨x1, k1⟩ := elem_int enc W _ _ _ _ h1 (fun x hx1 => hlt x (by rw [hx.2]; simp only [List.flatMap_cons, List.flatMap_nil, List.mem_append]; exact Or.inr (Or.inl hx1)))
    have h2 : DataW.trod enc Tryz.prog W 0 (fun _ => true) true n 3 ((cs.drop 2).take 1) = some (d2, q2) := by
      have h := hff 2 _ rfl
      first | exact h | (rw [Tryz.cells3] at h; exact h)
    obtain ⟨x2, k2⟩ := elem_int enc W _ _ _ _ h2 (fun x hx1 => hlt x (by rw [hx.2]; simp only [List.flatMap_cons, List.flatMap_nil, List.mem_append]; exact Or.inr (Or.inr (Or.inl hx1))))
    have e : cs = (cs.drop 0).take 1 ++ ((cs.drop 1).take 1 ++ ((cs.drop 2).take 1)) := by
      match cs, hl with
      | [z0, z1, z2], _ => rfl
    have k := (k0.append (k1.append k2))
    rw [← e] at k
    exact ⟨_, k⟩
theorem Tryz.cells_Done : Tryz.prog.cellsOf 106 = 6 := by kernel_rfl
set_option maxRecDepth 100000 in
theorem elem_Done {H : Type} (enc : TypeId × Value → H) (W : World) : ElemK enc W 106 6 false := by
  intro fuel cs d p h hlt
  obtain ⟨xs, n, _, hx, hl, hxl, hff⟩ := DataW.trod_struct Tryz.underlying106 h
  rw [Tryz.cells_Done] at hl
  simp only [Prod.mk.injEq] at hx
  match xs, hxl, hx, hff with
  | [(d0, q0), (d1, q1), (d2, q2), (d3, q3)], _, hx, hff =>
    have h0 : DataW.trod enc Tryz.prog W 0 (fun _ => true) true n 104 ((cs.drop 0).take 3) = some (d0, q0) := by
      have h := hff 0 _ rfl
      first | exact h | (rw [Tryz.cells_Req] at h; exact h)
    obtain ⟨x0, k0⟩ := elem_Req enc W _ _ _ _ h0 (fun x hx1 => hlt x (by rw [hx.2]; simp only [List.flatMap_cons, List.flatMap_nil, List.mem_append]; exact Or.inl hx1))
    have h1 : DataW.trod enc Tryz.prog W 0 (fun _ => true) true n 3 ((cs.drop 3).take 1) = some (d1, q1) := by
      have h := hff 1 _ rfl
      first | exact h | (rw [Tryz.cells3] at h; exact h)
    obtain ⟨x1, k1⟩ := elem_int enc W _ _ _ _ h1 (fun x hx1 => hlt x (by rw [hx.2]; simp only [List.flatMap_cons, List.flatMap_nil, List.mem_append]; exact Or.inr (Or.inl hx1)))
    have h2 : DataW.trod enc Tryz.prog W 0 (fun _ => true) true n 3 ((cs.drop 4).take 1) = some (d2, q2) := by
      have h := hff 2 _ rfl
      first | exact h | (rw [Tryz.cells3] at h; exact h)
    obtain ⟨x2, k2⟩ := elem_int enc W _ _ _ _ h2 (fun x hx1 => hlt x (by rw [hx.2]; simp only [List.flatMap_cons, List.flatMap_nil, List.mem_append]; exact Or.inr (Or.inr (Or.inl hx1))))
    have h3 : DataW.trod enc Tryz.prog W 0 (fun _ => true) true n 3 ((cs.drop 5).take 1) = some (d3, q3) := by
      have h := hff 3 _ rfl
      first | exact h | (rw [Tryz.cells3] at h; exact h)
    obtain ⟨x3, k3⟩ := elem_int enc W _ _ _ _ h3 (fun x hx1 => hlt x (by rw [hx.2]; simp only [List.flatMap_cons, List.flatMap_nil, List.mem_append]; exact Or.inr (Or.inr (Or.inr (Or.inl hx1)))))
    have e : cs = (cs.drop 0).take 3 ++ ((cs.drop 3).take 1 ++ ((cs.drop 4).take 1 ++ ((cs.drop 5).take 1))) := by
      match cs, hl with
      | [z0, z1, z2, z3, z4, z5], _ => rfl
    have k := (k0.append (k1.append (k2.append k3)))
    rw [← e] at k
    exact ⟨_, k⟩
theorem Tryz.cells_Op : Tryz.prog.cellsOf 112 = 4 := by kernel_rfl
set_option maxRecDepth 100000 in
theorem elem_Op {H : Type} (enc : TypeId × Value → H) (W : World) : ElemK enc W 112 4 false := by
  intro fuel cs d p h hlt
  obtain ⟨xs, n, _, hx, hl, hxl, hff⟩ := DataW.trod_struct Tryz.underlying112 h
  rw [Tryz.cells_Op] at hl
  simp only [Prod.mk.injEq] at hx
  match xs, hxl, hx, hff with
  | [(d0, q0), (d1, q1), (d2, q2), (d3, q3)], _, hx, hff =>
    have h0 : DataW.trod enc Tryz.prog W 0 (fun _ => true) true n 3 ((cs.drop 0).take 1) = some (d0, q0) := by
      have h := hff 0 _ rfl
      first | exact h | (rw [Tryz.cells3] at h; exact h)
    obtain ⟨x0, k0⟩ := elem_int enc W _ _ _ _ h0 (fun x hx1 => hlt x (by rw [hx.2]; simp only [List.flatMap_cons, List.flatMap_nil, List.mem_append]; exact Or.inl hx1))
    have h1 : DataW.trod enc Tryz.prog W 0 (fun _ => true) true n 3 ((cs.drop 1).take 1) = some (d1, q1) := by
      have h := hff 1 _ rfl
      first | exact h | (rw [Tryz.cells3] at h; exact h)
    obtain ⟨x1, k1⟩ := elem_int enc W _ _ _ _ h1 (fun x hx1 => hlt x (by rw [hx.2]; simp only [List.flatMap_cons, List.flatMap_nil, List.mem_append]; exact Or.inr (Or.inl hx1)))
    have h2 : DataW.trod enc Tryz.prog W 0 (fun _ => true) true n 3 ((cs.drop 2).take 1) = some (d2, q2) := by
      have h := hff 2 _ rfl
      first | exact h | (rw [Tryz.cells3] at h; exact h)
    obtain ⟨x2, k2⟩ := elem_int enc W _ _ _ _ h2 (fun x hx1 => hlt x (by rw [hx.2]; simp only [List.flatMap_cons, List.flatMap_nil, List.mem_append]; exact Or.inr (Or.inr (Or.inl hx1))))
    have h3 : DataW.trod enc Tryz.prog W 0 (fun _ => true) true n 3 ((cs.drop 3).take 1) = some (d3, q3) := by
      have h := hff 3 _ rfl
      first | exact h | (rw [Tryz.cells3] at h; exact h)
    obtain ⟨x3, k3⟩ := elem_int enc W _ _ _ _ h3 (fun x hx1 => hlt x (by rw [hx.2]; simp only [List.flatMap_cons, List.flatMap_nil, List.mem_append]; exact Or.inr (Or.inr (Or.inr (Or.inl hx1)))))
    have e : cs = (cs.drop 0).take 1 ++ ((cs.drop 1).take 1 ++ ((cs.drop 2).take 1 ++ ((cs.drop 3).take 1))) := by
      match cs, hl with
      | [z0, z1, z2, z3], _ => rfl
    have k := (k0.append (k1.append (k2.append k3)))
    rw [← e] at k
    exact ⟨_, k⟩
theorem Tryz.cells_Intent : Tryz.prog.cellsOf 114 = 5 := by kernel_rfl
set_option maxRecDepth 100000 in
theorem elem_Intent {H : Type} (enc : TypeId × Value → H) (W : World) : ElemK enc W 114 5 false := by
  intro fuel cs d p h hlt
  obtain ⟨xs, n, _, hx, hl, hxl, hff⟩ := DataW.trod_struct Tryz.underlying114 h
  rw [Tryz.cells_Intent] at hl
  simp only [Prod.mk.injEq] at hx
  match xs, hxl, hx, hff with
  | [(d0, q0), (d1, q1)], _, hx, hff =>
    have h0 : DataW.trod enc Tryz.prog W 0 (fun _ => true) true n 3 ((cs.drop 0).take 1) = some (d0, q0) := by
      have h := hff 0 _ rfl
      first | exact h | (rw [Tryz.cells3] at h; exact h)
    obtain ⟨x0, k0⟩ := elem_int enc W _ _ _ _ h0 (fun x hx1 => hlt x (by rw [hx.2]; simp only [List.flatMap_cons, List.flatMap_nil, List.mem_append]; exact Or.inl hx1))
    have h1 : DataW.trod enc Tryz.prog W 0 (fun _ => true) true n 112 ((cs.drop 1).take 4) = some (d1, q1) := by
      have h := hff 1 _ rfl
      first | exact h | (rw [Tryz.cells_Op] at h; exact h)
    obtain ⟨x1, k1⟩ := elem_Op enc W _ _ _ _ h1 (fun x hx1 => hlt x (by rw [hx.2]; simp only [List.flatMap_cons, List.flatMap_nil, List.mem_append]; exact Or.inr (Or.inl hx1)))
    have e : cs = (cs.drop 0).take 1 ++ ((cs.drop 1).take 4) := by
      match cs, hl with
      | [z0, z1, z2, z3, z4], _ => rfl
    have k := (k0.append k1)
    rw [← e] at k
    exact ⟨_, k⟩
theorem Tryz.cells_Seen : Tryz.prog.cellsOf 118 = 3 := by kernel_rfl
set_option maxRecDepth 100000 in
theorem elem_Seen {H : Type} (enc : TypeId × Value → H) (W : World) : ElemK enc W 118 3 false := by
  intro fuel cs d p h hlt
  obtain ⟨xs, n, _, hx, hl, hxl, hff⟩ := DataW.trod_struct Tryz.underlying118 h
  rw [Tryz.cells_Seen] at hl
  simp only [Prod.mk.injEq] at hx
  match xs, hxl, hx, hff with
  | [(d0, q0), (d1, q1), (d2, q2)], _, hx, hff =>
    have h0 : DataW.trod enc Tryz.prog W 0 (fun _ => true) true n 3 ((cs.drop 0).take 1) = some (d0, q0) := by
      have h := hff 0 _ rfl
      first | exact h | (rw [Tryz.cells3] at h; exact h)
    obtain ⟨x0, k0⟩ := elem_int enc W _ _ _ _ h0 (fun x hx1 => hlt x (by rw [hx.2]; simp only [List.flatMap_cons, List.flatMap_nil, List.mem_append]; exact Or.inl hx1))
    have h1 : DataW.trod enc Tryz.prog W 0 (fun _ => true) true n 3 ((cs.drop 1).take 1) = some (d1, q1) := by
      have h := hff 1 _ rfl
      first | exact h | (rw [Tryz.cells3] at h; exact h)
    obtain ⟨x1, k1⟩ := elem_int enc W _ _ _ _ h1 (fun x hx1 => hlt x (by rw [hx.2]; simp only [List.flatMap_cons, List.flatMap_nil, List.mem_append]; exact Or.inr (Or.inl hx1)))
    have h2 : DataW.trod enc Tryz.prog W 0 (fun _ => true) true n 3 ((cs.drop 2).take 1) = some (d2, q2) := by
      have h := hff 2 _ rfl
      first | exact h | (rw [Tryz.cells3] at h; exact h)
    obtain ⟨x2, k2⟩ := elem_int enc W _ _ _ _ h2 (fun x hx1 => hlt x (by rw [hx.2]; simp only [List.flatMap_cons, List.flatMap_nil, List.mem_append]; exact Or.inr (Or.inr (Or.inl hx1))))
    have e : cs = (cs.drop 0).take 1 ++ ((cs.drop 1).take 1 ++ ((cs.drop 2).take 1)) := by
      match cs, hl with
      | [z0, z1, z2], _ => rfl
    have k := (k0.append (k1.append k2))
    rw [← e] at k
    exact ⟨_, k⟩
theorem Tryz.cells_Commit : Tryz.prog.cellsOf 95 = 4 := by kernel_rfl
set_option maxRecDepth 100000 in
theorem elem_Commit {H : Type} (enc : TypeId × Value → H) (W : World) : ElemK enc W 95 3 true := by
  intro fuel cs d p h hlt
  obtain ⟨xs, n, _, hx, hl, hxl, hff⟩ := DataW.trod_struct Tryz.underlying95 h
  rw [Tryz.cells_Commit] at hl
  simp only [Prod.mk.injEq] at hx
  match xs, hxl, hx, hff with
  | [(d0, q0), (d1, q1), (d2, q2)], _, hx, hff =>
    have h0 : DataW.trod enc Tryz.prog W 0 (fun _ => true) true n 3 ((cs.drop 0).take 1) = some (d0, q0) := by
      have h := hff 0 _ rfl
      first | exact h | (rw [Tryz.cells3] at h; exact h)
    obtain ⟨x0, k0⟩ := elem_int enc W _ _ _ _ h0 (fun x hx1 => hlt x (by rw [hx.2]; simp only [List.flatMap_cons, List.flatMap_nil, List.mem_append]; exact Or.inl hx1))
    have h1 : DataW.trod enc Tryz.prog W 0 (fun _ => true) true n 3 ((cs.drop 1).take 1) = some (d1, q1) := by
      have h := hff 1 _ rfl
      first | exact h | (rw [Tryz.cells3] at h; exact h)
    obtain ⟨x1, k1⟩ := elem_int enc W _ _ _ _ h1 (fun x hx1 => hlt x (by rw [hx.2]; simp only [List.flatMap_cons, List.flatMap_nil, List.mem_append]; exact Or.inr (Or.inl hx1)))
    have h2 : DataW.trod enc Tryz.prog W 0 (fun _ => true) true n 90 ((cs.drop 2).take 2) = some (d2, q2) := by
      have h := hff 2 _ rfl
      first | exact h | (rw [Tryz.cells_Val] at h; exact h)
    obtain ⟨x2, k2⟩ := elem_Val enc W _ _ _ _ h2 (fun x hx1 => hlt x (by rw [hx.2]; simp only [List.flatMap_cons, List.flatMap_nil, List.mem_append]; exact Or.inr (Or.inr (Or.inl hx1))))
    have e : cs = (cs.drop 0).take 1 ++ ((cs.drop 1).take 1 ++ ((cs.drop 2).take 2)) := by
      match cs, hl with
      | [z0, z1, z2, z3], _ => rfl
    have k := (k0.append (k1.append k2))
    rw [← e] at k
    exact ⟨_, k⟩
theorem Tryz.cellsL_Row : Tryz.prog.cellsOf 28 = 1 := by kernel_rfl
theorem Tryz.cellsL_Done : Tryz.prog.cellsOf 29 = 1 := by kernel_rfl
theorem Tryz.cellsL_Intent : Tryz.prog.cellsOf 30 = 1 := by kernel_rfl
theorem Tryz.cellsL_Seen : Tryz.prog.cellsOf 31 = 1 := by kernel_rfl
theorem Tryz.cellsL_Commit : Tryz.prog.cellsOf 32 = 1 := by kernel_rfl
theorem Tryz.cells_Shard : Tryz.prog.cellsOf 34 = 8 := by kernel_rfl
set_option maxRecDepth 100000 in
theorem shard_of {H : Type} {enc : TypeId × Value → H} {W : World} {base : Nat} {v : Value} {d : DataW H} {p : List MemPlace} (hv : Value.okWide Tryz.prog W .any base 34 v)
    (h : DataW.Trod enc Tryz.prog W 0 (fun _ => true) true 34 v d p) (hlt : ∀ x ∈ p, x.block < W.heap.size) : ∃ (i0 i1 i2 : Int) (u0 u1 u2 u3 u4 : Value) (L0 L1 L2 L3 L4 : List KD), v = .agg #[.int .i64 i0, .int .i64 i1, .int .i64 i2, u0, u1, u2, u3, u4] ∧ RSShard W u0 u1 u2 u3 u4 L0 L1 L2 L3 L4 := by
  obtain ⟨cs, rfl, hsz⟩ := okWide_struct Tryz.underlying34 hv
  rw [Tryz.cells_Shard] at hsz
  obtain ⟨z0, z1, z2, z3, z4, z5, z6, z7, rfl⟩ : ∃ z0 z1 z2 z3 z4 z5 z6 z7, cs = #[z0, z1, z2, z3, z4, z5, z6, z7] := by
    obtain ⟨l⟩ := cs
    match l, hsz with
    | [z0, z1, z2, z3, z4, z5, z6, z7], _ => exact ⟨z0, z1, z2, z3, z4, z5, z6, z7, rfl⟩
  obtain ⟨fuel, hf⟩ := h
  obtain ⟨xs, n, _, hx, _, hxl, hff⟩ := DataW.trod_struct Tryz.underlying34 hf
  simp only [Prod.mk.injEq] at hx
  match xs, hxl, hx, hff with
  | [(d0, q0), (d1, q1), (d2, q2), (d3, q3), (d4, q4), (d5, q5), (d6, q6), (d7, q7)], _, hx, hff =>
    have h0 := hff 0 _ rfl
    simp [Value.cells, Tryz.cells3] at h0
    obtain ⟨i0, hz0, _⟩ := DataW.trod_int Tryz.underlying3 h0
    have hz0' : z0 = .int .i64 i0 := by simpa using hz0
    have h1 := hff 1 _ rfl
    simp [Value.cells, Tryz.cells3] at h1
    obtain ⟨i1, hz1, _⟩ := DataW.trod_int Tryz.underlying3 h1
    have hz1' : z1 = .int .i64 i1 := by simpa using hz1
    have h2 := hff 2 _ rfl
    simp [Value.cells, Tryz.cells3] at h2
    obtain ⟨i2, hz2, _⟩ := DataW.trod_int Tryz.underlying3 h2
    have hz2' : z2 = .int .i64 i2 := by simpa using hz2
    have h3 := hff 3 _ rfl
    simp [Value.cells, Tryz.cellsL_Row] at h3
    obtain ⟨L0, hL0⟩ := rdM_of_trod (sz := 3) (m := 2) (kn := true) Tryz.underlying28 Tryz.cells_Row (by decide) (elem_Row enc W) h3 (fun x hx1 => hlt x (by rw [hx.2]; simp only [List.flatMap_cons, List.flatMap_nil, List.mem_append]; exact Or.inr (Or.inr (Or.inr (Or.inl hx1)))))
    have h4 := hff 4 _ rfl
    simp [Value.cells, Tryz.cellsL_Done] at h4
    obtain ⟨L1, hL1⟩ := rdM_of_trod (sz := 6) (m := 6) (kn := false) Tryz.underlying29 Tryz.cells_Done (by decide) (elem_Done enc W) h4 (fun x hx1 => hlt x (by rw [hx.2]; simp only [List.flatMap_cons, List.flatMap_nil, List.mem_append]; exact Or.inr (Or.inr (Or.inr (Or.inr (Or.inl hx1))))))
    have h5 := hff 5 _ rfl
    simp [Value.cells, Tryz.cellsL_Intent] at h5
    obtain ⟨L2, hL2⟩ := rdM_of_trod (sz := 5) (m := 5) (kn := false) Tryz.underlying30 Tryz.cells_Intent (by decide) (elem_Intent enc W) h5 (fun x hx1 => hlt x (by rw [hx.2]; simp only [List.flatMap_cons, List.flatMap_nil, List.mem_append]; exact Or.inr (Or.inr (Or.inr (Or.inr (Or.inr (Or.inl hx1)))))))
    have h6 := hff 6 _ rfl
    simp [Value.cells, Tryz.cellsL_Seen] at h6
    obtain ⟨L3, hL3⟩ := rdM_of_trod (sz := 3) (m := 3) (kn := false) Tryz.underlying31 Tryz.cells_Seen (by decide) (elem_Seen enc W) h6 (fun x hx1 => hlt x (by rw [hx.2]; simp only [List.flatMap_cons, List.flatMap_nil, List.mem_append]; exact Or.inr (Or.inr (Or.inr (Or.inr (Or.inr (Or.inr (Or.inl hx1))))))))
    have h7 := hff 7 _ rfl
    simp [Value.cells, Tryz.cellsL_Commit] at h7
    obtain ⟨L4, hL4⟩ := rdM_of_trod (sz := 4) (m := 3) (kn := true) Tryz.underlying32 Tryz.cells_Commit (by decide) (elem_Commit enc W) h7 (fun x hx1 => hlt x (by rw [hx.2]; simp only [List.flatMap_cons, List.flatMap_nil, List.mem_append]; exact Or.inr (Or.inr (Or.inr (Or.inr (Or.inr (Or.inr (Or.inr (Or.inl hx1)))))))))
    exact ⟨i0, i1, i2, z3, z4, z5, z6, z7, L0, L1, L2, L3, L4, by rw [hz0', hz1', hz2'], ⟨hL0, hL1, hL2, hL3, hL4⟩⟩
end Go.Proofs.YtfibdnhihnccaaaGreat

/- Part: Proved here: FnExactLeadOk returns true for every lead and every part (no condition); what it was handed reads as before. -/
namespace Go.Proofs.YtfibdnhihnccaaaGreat
open Go.ChangeShapes Go.WideShapes Go.ChangeAt Go.RowKit

set_option maxRecDepth 100000 in
theorem lOk_lifted (os : Os) (started : os.Started) (H : Type) (enc : TypeId × Value → H) :
    ReturnsInHanded {} Tryz.checked os 3 .any (Rows.fnExactLeadOkSpec.pre6 enc Tryz.prog Tryz.f3 Rows.fnExactLeadOkRow.domain false) (Rows.fnExactLeadOkSpec.post enc Tryz.prog Tryz.f3 false true false false) := by
  refine returnsInHanded_of_change (C := Tryz.checked) Tryz.own started (by kernel_rfl) Tryz.func3
    (ChangeSpec.witness6 (enc := enc) (C := Tryz.checked) false ⟨#[], #[.agg #[.int .i64 0, .bool false, .slice none 0 0, .slice none 0 0], .agg #[.int .i64 0, .int .i64 0, .int .i64 0, .slice none 0 0, .slice none 0 0, .slice none 0 0, .slice none 0 0, .slice none 0 0]], []⟩ 8 (by kernel_rfl) (by kernel_rfl) (by kernel_rfl) (by kernel_rfl)) ?_
  intro W base args ds gs before hval0 hW _ _
  have hval : ∀ (j : Nat) t v, Tryz.f3.params[j]? = some t → args[j]? = some v → Value.okWide Tryz.prog W .any base t v := hval0
  have hW' := hW
  obtain ⟨p, q, hA0, hV, rfl, _, _⟩ := hW
  have hA : DataW.TrodAll enc Tryz.prog W 0 (fun _ => true) true Tryz.f3.params.toList args.toList ds p := hA0
  rw [Tryz.params3] at hA hval
  obtain ⟨v0, v1, d0, d1, p0, p1, rfl, rfl, rfl, h0, h1⟩ := trodAll_two hA
  obtain ⟨rfl, rfl⟩ := trodVars_none hV
  clear hA0 hval0
  simp only [List.append_nil] at hW'
  have hlt0 : ∀ x ∈ p0, x.block < W.heap.size := fun x hx => by have := hW'.lt x (by first | exact hx | (simp; first | exact hx | exact Or.inl hx | exact Or.inr hx | exact Or.inr (Or.inl hx))); exact this
  obtain ⟨i0_0, i0_1, u0_0, u0_1, l0_0, l0_1, ev0, hl0⟩ := lead_of (hval 0 27 v0 rfl rfl) h0 hlt0
  have hargs0 : ∀ (W' : World), Below W.heap.size W W' → DataW.Trod enc Tryz.prog W' 0 (fun b => decide (b < W.heap.size)) true 27 v0 d0 p0 :=
    fun W' hn => Below.trod Tryz.laidOut (by kernel_rfl) (of_decide_eq_true (by kernel_rfl)) h0 hn hlt0
  subst ev0
  have hlt1 : ∀ x ∈ p1, x.block < W.heap.size := fun x hx => by have := hW'.lt x (by first | exact hx | (simp; first | exact hx | exact Or.inl hx | exact Or.inr hx | exact Or.inr (Or.inl hx))); exact this
  obtain ⟨i1_0, i1_1, i1_2, u1_0, u1_1, u1_2, u1_3, u1_4, l1_0, l1_1, l1_2, l1_3, l1_4, ev1, hl1⟩ := shard_of (hval 1 34 v1 rfl rfl) h1 hlt1
  have hargs1 : ∀ (W' : World), Below W.heap.size W W' → DataW.Trod enc Tryz.prog W' 0 (fun b => decide (b < W.heap.size)) true 34 v1 d1 p1 :=
    fun W' hn => Below.trod Tryz.laidOut (by kernel_rfl) (of_decide_eq_true (by kernel_rfl)) h1 hn hlt1
  subst ev1
  refine (lawLOk_any i0_0 i0_1 u0_0 u0_1 l0_0 l0_1 i1_0 i1_1 i1_2 u1_0 u1_1 u1_2 u1_3 u1_4 l1_0 l1_1 l1_2 l1_3 l1_4 W hl0 hl1).mono fun e W' ⟨he, hnx⟩ => ?_
  subst he
  exact ⟨_, rfl, _, _, _, [], p0 ++ (p1), [], hW', trodAll_mk1 (shut_bool Tryz.underlying4 _), trodAll_mk2 (hargs0 _ hnx) (hargs1 _ hnx), rfl, hnx.frame _, fun h => by cases h⟩

theorem lOk_holds : Rows.FnExactLeadOkSaid :=
  OpenClaim.holds_of_wide 3 Tryz.f3 rfl rfl rfl rfl rfl rfl rfl ⟨rfl, rfl, rfl, rfl, rfl⟩ rfl rfl rfl rfl rfl (by kernel_rfl) Tryz.func3 (by kernel_rfl)
    (of_decide_eq_true (by kernel_rfl)) (by unfold Func.isWrapper; first | (rw [if_pos (by decide +kernel)]; kernel_rfl) | (rw [if_neg (by decide +kernel)]; exact ⟨rfl, rfl⟩))
    (fun os started H enc _ => lOk_lifted os started H enc)
#print axioms lOk_holds

end Go.Proofs.YtfibdnhihnccaaaGreat
