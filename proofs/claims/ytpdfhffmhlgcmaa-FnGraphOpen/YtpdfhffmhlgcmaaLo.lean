/- The draw of a write: contract. -/
import Derived.Test.YtpdfhffmhlgcmaaLd
import Derived.Deep.Cut
namespace Go.Proofs.Ytpdfhffmhlgcmaa
open Go.RowKit
attribute [local go_sem ↓] Go.wp_at_zero Go.wp_at_succ

/-- A write's variable in block b, the result's in block w0's end, the reader. -/
structure OpV (w0 wr : World) (B g p b : Nat) (k a c n : Int) : Prop where
  rdr : Rdr wr B g p
  grown : w0.grownBy wr (some g)
  lt : g < w0.heap.size
  hb : w0.heap.size < b
  r0 : wr.cell? ⟨w0.heap.size, 0, none⟩ = some (.int .i64 0)
  r1 : wr.cell? ⟨w0.heap.size, 1, none⟩ = some (.int .i64 0)
  r2 : wr.cell? ⟨w0.heap.size, 2, none⟩ = some (.int .i64 0)
  r3 : wr.cell? ⟨w0.heap.size, 3, none⟩ = some (.int .i64 0)
  v0 : wr.cell? ⟨b, 0, none⟩ = some (.int .i64 k)
  v1 : wr.cell? ⟨b, 1, none⟩ = some (.int .i64 a)
  v2 : wr.cell? ⟨b, 2, none⟩ = some (.int .i64 c)
  v3 : wr.cell? ⟨b, 3, none⟩ = some (.int .i64 n)
  fr : ∀ o, wr.frozen? ⟨w0.heap.size, o, none⟩ = false
  fv : ∀ o, wr.frozen? ⟨b, o, none⟩ = false
  size : b < wr.heap.size
theorem OpV.kept {w0 wr w' : World} {B g p q b : Nat} {k a c n : Int} (h : OpV w0 wr B g p b k a c n) (hR : Rdr w' B g q) (hg : wr.grownBy w' (some g)) : OpV w0 w' B g q b k a c n := by
  have hl := h.lt
  have hs := h.size
  have hb := h.hb
  have n0 : ∀ i, some (⟨w0.heap.size, i, none⟩ : Addr).block ≠ some g := fun i e => by have : w0.heap.size = g := Option.some.inj e; omega
  have n1 : ∀ i, some (⟨b, i, none⟩ : Addr).block ≠ some g := fun i e => by have : b = g := Option.some.inj e; omega
  exact ⟨hR, grown_trans h.grown hg, hl, hb, hg.cell h.r0 (n0 0), hg.cell h.r1 (n0 1), hg.cell h.r2 (n0 2), hg.cell h.r3 (n0 3), hg.cell h.v0 (n1 0), hg.cell h.v1 (n1 1), hg.cell h.v2 (n1 2), hg.cell h.v3 (n1 3),
    fun o => (hg.frozen_far ⟨w0.heap.size, o, none⟩ (by show w0.heap.size < _; omega) (n0 o)).trans (h.fr o), fun o => (hg.frozen_far ⟨b, o, none⟩ hs (n1 o)).trans (h.fv o), Nat.lt_of_lt_of_le hs hg.size⟩
theorem OpV.below {w0 wr w' : World} {B g p b : Nat} {k a c n : Int} (h : OpV w0 wr B g p b k a c n) (hb : Below wr.heap.size wr w') : OpV w0 w' B g p b k a c n :=
  h.kept (h.rdr.later hb) (grown_wide (grownBelowR hb))
theorem OpV.setG {w0 wr : World} {B g p b : Nat} {k a c n : Int} (h : OpV w0 wr B g p b k a c n) (o : Nat) (v : Value) :
    Rdr (wr.setCell ⟨b, o, none⟩ v) B g p ∧ w0.grownBy (wr.setCell ⟨b, o, none⟩ v) (some g) ∧ (∀ o', (wr.setCell ⟨b, o, none⟩ v).frozen? ⟨w0.heap.size, o', none⟩ = false) ∧ (∀ o', (wr.setCell ⟨b, o, none⟩ v).frozen? ⟨b, o', none⟩ = false) := by
  have hl := h.lt
  have hb := h.hb
  have hB := h.rdr.1
  exact ⟨h.rdr.setFar (a := ⟨b, o, none⟩) (by show B ≤ b; omega) (by show ¬ b = g; omega) v, grown_set_new h.grown (a := ⟨b, o, none⟩) (by show w0.heap.size ≤ b; omega) v, fun o' => by simpa using h.fr o', fun o' => by simpa using h.fv o'⟩
theorem OpV.set0 {w0 wr : World} {B g p b : Nat} {k a c n : Int} (h : OpV w0 wr B g p b k a c n) (z : Int) : OpV w0 (wr.setCell ⟨b, 0, none⟩ (.int .i64 z)) B g p b z a c n := by
  obtain ⟨s0, s1, s2, s3⟩ := h.setG 0 (.int .i64 z)
  obtain ⟨_, _, hl, hb, r0, r1, r2, r3, v0, v1, v2, v3, _, _, sz⟩ := h
  exact ⟨s0, s1, hl, hb, by go_cell, by go_cell, by go_cell, by go_cell, by go_cell, by go_cell, by go_cell, by go_cell, s2, s3, by simpa using sz⟩
theorem OpV.set1 {w0 wr : World} {B g p b : Nat} {k a c n : Int} (h : OpV w0 wr B g p b k a c n) (z : Int) : OpV w0 (wr.setCell ⟨b, 1, none⟩ (.int .i64 z)) B g p b k z c n := by
  obtain ⟨s0, s1, s2, s3⟩ := h.setG 1 (.int .i64 z)
  obtain ⟨_, _, hl, hb, r0, r1, r2, r3, v0, v1, v2, v3, _, _, sz⟩ := h
  exact ⟨s0, s1, hl, hb, by go_cell, by go_cell, by go_cell, by go_cell, by go_cell, by go_cell, by go_cell, by go_cell, s2, s3, by simpa using sz⟩
theorem OpV.set2 {w0 wr : World} {B g p b : Nat} {k a c n : Int} (h : OpV w0 wr B g p b k a c n) (z : Int) : OpV w0 (wr.setCell ⟨b, 2, none⟩ (.int .i64 z)) B g p b k a z n := by
  obtain ⟨s0, s1, s2, s3⟩ := h.setG 2 (.int .i64 z)
  obtain ⟨_, _, hl, hb, r0, r1, r2, r3, v0, v1, v2, v3, _, _, sz⟩ := h
  exact ⟨s0, s1, hl, hb, by go_cell, by go_cell, by go_cell, by go_cell, by go_cell, by go_cell, by go_cell, by go_cell, s2, s3, by simpa using sz⟩
theorem OpV.set3 {w0 wr : World} {B g p b : Nat} {k a c n : Int} (h : OpV w0 wr B g p b k a c n) (z : Int) : OpV w0 (wr.setCell ⟨b, 3, none⟩ (.int .i64 z)) B g p b k a c z := by
  obtain ⟨s0, s1, s2, s3⟩ := h.setG 3 (.int .i64 z)
  obtain ⟨_, _, hl, hb, r0, r1, r2, r3, v0, v1, v2, v3, _, _, sz⟩ := h
  exact ⟨s0, s1, hl, hb, by go_cell, by go_cell, by go_cell, by go_cell, by go_cell, by go_cell, by go_cell, by go_cell, s2, s3, by simpa using sz⟩
/-- Bounds of a drawn write. -/
def OpB (k a c n : Int) : Prop := (0 ≤ k ∧ k ≤ 4) ∧ (-1 ≤ a ∧ a ≤ 8) ∧ (-1 ≤ c ∧ c ≤ 8) ∧ (-1 ≤ n ∧ n ≤ 1000001)
/-- Some drawn write stands in block b. -/
def OpS (w0 wr : World) (B g p0 b : Nat) : Prop := ∃ q k a c n, OpV w0 wr B g q b k a c n ∧ q ≤ p0 ∧ OpB k a c n

theorem nums_five (w : World) (a b c d e : Int) (P : Int → Prop) (ha : P a) (hb : P b) (hc : P c) (hd : P d) (he : P e) : Nums (w.alloc (.cells #[.int .i64 a, .int .i64 b, .int .i64 c, .int .i64 d, .int .i64 e] 3)) w.heap.size 5 P := by
  refine ⟨by simp, fun i hi => ?_⟩
  rcases i with _ | _ | _ | _ | _ | i
  · exact ⟨a, by go_cell, ha⟩
  · exact ⟨b, by go_cell, hb⟩
  · exact ⟨c, by go_cell, hc⟩
  · exact ⟨d, by go_cell, hd⟩
  · exact ⟨e, by go_cell, he⟩
  · omega
theorem nums_two (w : World) (a b : Int) (P : Int → Prop) (ha : P a) (hb : P b) : Nums (w.alloc (.cells #[.int .i64 a, .int .i64 b] 3)) w.heap.size 2 P := by
  refine ⟨by simp, fun i hi => ?_⟩
  rcases i with _ | _ | i
  · exact ⟨a, by go_cell, ha⟩
  · exact ⟨b, by go_cell, hb⟩
  · omega
theorem nums_3 (w : World) (a b c : Int) (P : Int → Prop) (ha : P a) (hb : P b) (hc : P c) : Nums (w.alloc (.cells #[.int .i64 a, .int .i64 b, .int .i64 c] 3)) w.heap.size 3 P := by
  refine ⟨by simp, fun i hi => ?_⟩
  rcases i with _ | _ | _ | i
  · exact ⟨a, by go_cell, ha⟩
  · exact ⟨b, by go_cell, hb⟩
  · exact ⟨c, by go_cell, hc⟩
  · omega

theorem kinds_five (w : World) : Nums (w.alloc (.cells #[.int .i64 1, .int .i64 2, .int .i64 2, .int .i64 2, .int .i64 3] 3)) w.heap.size 5 (fun z => 1 ≤ z ∧ z ≤ 3) :=
  nums_five w 1 2 2 2 3 (fun z => 1 ≤ z ∧ z ≤ 3) ⟨by omega, by omega⟩ ⟨by omega, by omega⟩ ⟨by omega, by omega⟩ ⟨by omega, by omega⟩ ⟨by omega, by omega⟩
theorem times_five (w : World) : Nums (w.alloc (.cells #[.int .i64 0, .int .i64 1, .int .i64 2, .int .i64 5, .int .i64 7] 3)) w.heap.size 5 (fun z => 0 ≤ z ∧ z ≤ 7) :=
  nums_five w 0 1 2 5 7 (fun z => 0 ≤ z ∧ z ≤ 7) ⟨by omega, by omega⟩ ⟨by omega, by omega⟩ ⟨by omega, by omega⟩ ⟨by omega, by omega⟩ ⟨by omega, by omega⟩
theorem kinds_two (w : World) : Nums (w.alloc (.cells #[.int .i64 0, .int .i64 4] 3)) w.heap.size 2 (fun z => 0 ≤ z ∧ z ≤ 4) :=
  nums_two w 0 4 (fun z => 0 ≤ z ∧ z ≤ 4) ⟨by omega, by omega⟩ ⟨by omega, by omega⟩
theorem whos_two (w : World) : Nums (w.alloc (.cells #[.int .i64 (-1), .int .i64 8] 3)) w.heap.size 2 (fun z => -1 ≤ z ∧ z ≤ 8) :=
  nums_two w (-1) 8 (fun z => -1 ≤ z ∧ z ≤ 8) ⟨by omega, by omega⟩ ⟨by omega, by omega⟩
theorem times_three (w : World) : Nums (w.alloc (.cells #[.int .i64 (-1), .int .i64 1001, .int .i64 1000001] 3)) w.heap.size 3 (fun z => -1 ≤ z ∧ z ≤ 1000001) :=
  nums_3 w (-1) 1001 1000001 (fun z => -1 ≤ z ∧ z ≤ 1000001) ⟨by omega, by omega⟩ ⟨by omega, by omega⟩ ⟨by omega, by omega⟩

/-- The result's variable alone, and the reader. -/
structure OpR (w0 wr : World) (B g p : Nat) : Prop where
  rdr : Rdr wr B g p
  grown : w0.grownBy wr (some g)
  lt : g < w0.heap.size
  r0 : wr.cell? ⟨w0.heap.size, 0, none⟩ = some (.int .i64 0)
  r1 : wr.cell? ⟨w0.heap.size, 1, none⟩ = some (.int .i64 0)
  r2 : wr.cell? ⟨w0.heap.size, 2, none⟩ = some (.int .i64 0)
  r3 : wr.cell? ⟨w0.heap.size, 3, none⟩ = some (.int .i64 0)
  fr : ∀ o, wr.frozen? ⟨w0.heap.size, o, none⟩ = false
  size : w0.heap.size < wr.heap.size
theorem OpR.kept {w0 wr w' : World} {B g p q : Nat} (h : OpR w0 wr B g p) (hR : Rdr w' B g q) (hg : wr.grownBy w' (some g)) : OpR w0 w' B g q := by
  have hl := h.lt
  have n0 : ∀ i, some (⟨w0.heap.size, i, none⟩ : Addr).block ≠ some g := fun i e => by have : w0.heap.size = g := Option.some.inj e; omega
  exact ⟨hR, grown_trans h.grown hg, hl, hg.cell h.r0 (n0 0), hg.cell h.r1 (n0 1), hg.cell h.r2 (n0 2), hg.cell h.r3 (n0 3),
    fun o => (hg.frozen_far ⟨w0.heap.size, o, none⟩ h.size (n0 o)).trans (h.fr o), Nat.lt_of_lt_of_le h.size hg.size⟩
theorem OpR.below {w0 wr w' : World} {B g p : Nat} (h : OpR w0 wr B g p) (hb : Below wr.heap.size wr w') : OpR w0 w' B g p :=
  h.kept (h.rdr.later hb) (grown_wide (grownBelowR hb))
theorem OpR.new (w : World) {B g p : Nat} (h : Rdr w B g p) : OpR w (w.alloc (.cells #[.int .i64 0, .int .i64 0, .int .i64 0, .int .i64 0] 24)) B g p :=
  ⟨h.later (by go_grown), World.grownBy_alloc w _ _, h.2.1, by go_cell, by go_cell, by go_cell, by go_cell, fun o => by (first | go_cell | (simp [World.frozen?, World.alloc]; done) | rfl), by simp⟩
theorem OpR.put {w0 wr : World} {B g p : Nat} {k a c n : Int} (h : OpR w0 wr B g p) : OpV w0 (wr.alloc (.cells #[.int .i64 k, .int .i64 a, .int .i64 c, .int .i64 n] 24)) B g p wr.heap.size k a c n := by
  obtain ⟨s0, s1, hl, r0, r1, r2, r3, fr, sz⟩ := h.below (show Below wr.heap.size wr (wr.alloc (.cells #[.int .i64 k, .int .i64 a, .int .i64 c, .int .i64 n] 24)) from (Below.refl _ wr).alloc (Nat.le_refl _) _)
  exact ⟨s0, s1, hl, h.size, r0, r1, r2, r3, by go_cell, by go_cell, by go_cell, by go_cell, fr, fun o => by (first | go_cell | (simp [World.frozen?, World.alloc]; done) | rfl), by simp⟩

theorem OpV.fin {w0 wr : World} {B g p b : Nat} {k a c n : Int} (h : OpV w0 wr B g p b k a c n) {W : World} (hW : W = (((wr.setCell ⟨w0.heap.size, 0, none⟩ (.int .i64 k)).setCell ⟨w0.heap.size, 1, none⟩ (.int .i64 a)).setCell ⟨w0.heap.size, 2, none⟩ (.int .i64 c)).setCell ⟨w0.heap.size, 3, none⟩ (.int .i64 n)) :
    W.cell? ⟨w0.heap.size, 0, none⟩ = some (.int .i64 k) ∧ W.cell? ⟨w0.heap.size, 1, none⟩ = some (.int .i64 a) ∧ W.cell? ⟨w0.heap.size, 2, none⟩ = some (.int .i64 c) ∧ W.cell? ⟨w0.heap.size, 3, none⟩ = some (.int .i64 n) ∧ Rdr W B g p ∧ w0.grownBy W (some g) := by
  subst hW
  have hl := h.lt
  have hB := h.rdr.1
  have r0 := h.r0
  have r1 := h.r1
  have r2 := h.r2
  have r3 := h.r3
  refine ⟨by go_cell, by go_cell, by go_cell, by go_cell, ?_, ?_⟩
  · exact (((h.rdr.setFar (a := ⟨w0.heap.size, 0, none⟩) (by show B ≤ w0.heap.size; omega) (by show ¬ w0.heap.size = g; omega) _).setFar (a := ⟨w0.heap.size, 1, none⟩) (by show B ≤ w0.heap.size; omega) (by show ¬ w0.heap.size = g; omega) _).setFar (a := ⟨w0.heap.size, 2, none⟩) (by show B ≤ w0.heap.size; omega) (by show ¬ w0.heap.size = g; omega) _).setFar (a := ⟨w0.heap.size, 3, none⟩) (by show B ≤ w0.heap.size; omega) (by show ¬ w0.heap.size = g; omega) _
  · exact grown_set_new (grown_set_new (grown_set_new (grown_set_new h.grown (a := ⟨w0.heap.size, 0, none⟩) (Nat.le_refl _) _) (a := ⟨w0.heap.size, 1, none⟩) (Nat.le_refl _) _) (a := ⟨w0.heap.size, 2, none⟩) (Nat.le_refl _) _) (a := ⟨w0.heap.size, 3, none⟩) (Nat.le_refl _) _

set_option maxRecDepth 100000 in
set_option maxHeartbeats 4000000 in
theorem l3Op_any (g p B : Nat) (w : World) (h : Rdr w B g p) (hp : p ≤ 1000000000) :
    Calls Try.prog 11 #[.pointer (some ⟨g, 0, none⟩)] w fun e w' => ∃ k a c n q, e = .returned (.agg #[.int .i64 k, .int .i64 a, .int .i64 c, .int .i64 n]) ∧ OpB k a c n ∧ q ≤ p + 20 ∧ Rdr w' B g q ∧ w.grownBy w' (some g) := by
  have hT := hid (OpR.new w h)
  have hgw := h.2.1
  clear h
  go_enter Try.func11, Try.ntmps11
  go_wp2_with fail
  have hWs : (w.alloc (.cells #[.int .i64 0, .int .i64 0, .int .i64 0, .int .i64 0] 24)).heap.size = w.heap.size + 1 := by simp
  generalize w.alloc (.cells #[.int .i64 0, .int .i64 0, .int .i64 0, .int .i64 0] 24) = W at hT hWs ⊢
  rw [← hWs]
  have hA := hid (hT.out.below (w' := W.alloc (.cells #[.int .i64 1, .int .i64 2, .int .i64 2, .int .i64 2, .int .i64 3] 3)) (by go_grown))
  have hgW := Nat.lt_of_lt_of_le hgw hT.out.grown.size
  refine (num_any g p W.heap.size 5 5 B _ _ hA.out.rdr (by omega) (by omega) (by omega) (by omega) (kinds_five W)).mono ?_
  rintro e w1 ⟨k, rfl, hk, R1, g1⟩
  have h1 := hid (hA.out.kept R1 g1)
  clear hA R1 g1 hT hgW hWs
  go_wp2_with fail
  refine (pick_any g (p + 1) 4 B _ h1.out.rdr (by omega) (by omega)).mono ?_
  rintro e w2 ⟨a, rfl, a0, a1, R2, g2⟩
  have h2 := hid (h1.out.kept R2 g2)
  have a2 := a1 (by omega)
  clear h1 R2 g2 a1
  go_wp2_with fail
  refine (pick_any g (p + 2) 4 B _ h2.out.rdr (by omega) (by omega)).mono ?_
  rintro e w3 ⟨c, rfl, d0, d1, R3, g3⟩
  have h3 := hid (h2.out.kept R3 g3)
  have d2 := d1 (by omega)
  clear h2 R3 g3 d1
  go_wp2_with fail
  have hgW := Nat.lt_of_lt_of_le hgw h3.out.grown.size
  have hA := hid (h3.out.below (w' := w3.alloc (.cells #[.int .i64 0, .int .i64 1, .int .i64 2, .int .i64 5, .int .i64 7] 3)) (by go_grown))
  refine (num_any g (p + 3) w3.heap.size 5 5 B _ _ hA.out.rdr (by omega) (by omega) (by omega) (by omega) (times_five w3)).mono ?_
  rintro e w4 ⟨n, rfl, hn, R4, g4⟩
  have h4 := hid (hA.out.kept R4 g4)
  clear hA R4 g4 h3 hgW
  go_upto_region 2 with fail
  have h5 := hid (h4.out.put (k := k) (a := a) (c := c) (n := n))
  generalize w4.alloc (.cells #[.int .i64 k, .int .i64 a, .int .i64 c, .int .i64 n] 24) = W5 at h5 ⊢
  generalize w4.heap.size = b at h5 ⊢
  clear h4
  go_wp2_with fail
  refine (pick_any g (p + 4) 4 B _ h5.out.rdr (by omega) (by omega)).mono ?_
  rintro e w6 ⟨r, rfl, r0, r1, R6, g6⟩
  have h6 := hid (h5.out.kept R6 g6)
  clear h5 R6 g6 r1
  go_upto_if 17 with fail
  go_cut [] from 4 (fun wx => OpS w wx B g (p + 7) b)
  case first =>
    by_cases hr : r = 0
    · subst hr
      go_wp2_with fail
      refine (pick_any g (p + 5) 8 B _ h6.out.rdr (by omega) (by omega)).mono ?_
      rintro e w7 ⟨a', rfl, x0, x1, R7, g7⟩
      have h7 := hid (h6.out.kept R7 g7)
      have x2 := x1 (by omega)
      have v1 := h7.out.v1
      have f1 := h7.out.fv 1
      clear h6 R7 g7 x1
      go_wp2_with fail
      refine (pick_any g (p + 6) 8 B _ (h7.out.set1 a').rdr (by omega) (by omega)).mono ?_
      rintro e w8 ⟨c', rfl, y0, y1, R8, g8⟩
      have h8 := hid ((h7.out.set1 a').kept R8 g8)
      have y2 := y1 (by omega)
      have v2 := h8.out.v2
      have f2 := h8.out.fv 2
      clear h7 R8 g8 y1 v1 f1
      go_wp2_with fail
      go_meet
      exact ⟨_, _, _, _, _, h8.out.set2 c', by omega, by omega, by omega, by omega, by omega⟩
    · have hr' : (r == 0) = false := by simpa using hr
      go_wp2_with fail
      go_meet
      exact ⟨_, _, _, _, _, h6.out, by omega, by omega, by omega, by omega, by omega⟩
  case rest =>
    clear h6
    obtain ⟨q, k, a, c, n, hV, hq, hk, ha, hc, hn⟩ := hcut
    generalize wc = w6 at *
    have h6 := hid hV
    have v0 := hV.v0
    have v1 := hV.v1
    have v2 := hV.v2
    have v3 := hV.v3
    have f2 := hV.fv 2
    have f3 := hV.fv 3
    clear hV
    by_cases h1 : k = 1
    case' pos =>
      subst h1
      go_upto_if 41 with fail
      have h7 := hid (h6.out.set2 0)
      generalize w6.setCell ⟨b, 2, none⟩ (.int .i64 0) = w7 at h7 ⊢
      have hO : OpS w w7 B g (p + 7) b := ⟨_, _, _, _, _, h7.out, by omega, by omega, by omega, by omega, by omega⟩
    case' neg =>
      have h1' : (k == 1) = false := by simpa using h1
      have h1n : (k != 1) = true := by simpa using h1
      by_cases h3 : k = 3
      case' pos =>
        subst h3
        go_upto_if 41 with fail
        have h7 := hid (h6.out.set3 0)
        generalize w6.setCell ⟨b, 3, none⟩ (.int .i64 0) = w7 at h7 ⊢
        have hO : OpS w w7 B g (p + 7) b := ⟨_, _, _, _, _, h7.out, by omega, by omega, by omega, by omega, by omega⟩
      case' neg =>
        have h3' : (k == 3) = false := by simpa using h3
        go_upto_if 41 with fail
        have h7 := hid h6.out
        generalize w6 = w7 at h7 ⊢
        have hO : OpS w w7 B g (p + 7) b := ⟨_, _, _, _, _, h7.out, by omega, by omega, by omega, by omega, by omega⟩
    all_goals
      clear h6 v0 v1 v2 v3 f2 f3
      go_cut [] from 4 (fun wx => OpS w wx B g (p + 7) b)
      case first =>
        have v1 := h7.out.v1
        have v2 := h7.out.v2
        have f2 := h7.out.fv 2
        first
          | (go_wp2_with fail; go_meet; exact hO)
          | (by_cases hac : a = c
             · subst hac
               go_wp2_with fail
               go_meet
               exact ⟨_, _, _, _, _, h7.out.set2 _, by omega, by omega, by omega, by omega, by omega⟩
             · have hac' : (a == c) = false := by simpa using hac
               go_wp2_with fail
               go_meet
               exact hO)
      case rest =>
        clear h7 hO
        obtain ⟨q, k, a, c, n, hV, hq, hk, ha, hc, hn⟩ := hcut
        generalize wc = w8 at *
        have h8 := hid hV
        clear hV
        go_wp2_with fail
        refine (pick_any g q 48 B _ h8.out.rdr (by omega) (by omega)).mono ?_
        rintro e w9 ⟨r, rfl, r0, r1, R9, g9⟩
        have h9 := hid (h8.out.kept R9 g9)
        clear h8 R9 g9
        have r2 := r1 (by omega)
        clear r1
        by_cases e0 : r = 0
        case pos =>
          subst e0
          go_wp2_with fail
          have hgW := Nat.lt_of_lt_of_le hgw h9.out.grown.size
          have hA := hid (h9.out.below (w' := w9.alloc (.cells #[.int .i64 0, .int .i64 4] 3)) (by go_grown))
          refine (num_any g (q + 1) w9.heap.size 2 2 B _ _ hA.out.rdr (by omega) (by omega) (by omega) (by omega) (kinds_two w9)).mono ?_
          rintro e w10 ⟨z, rfl, hz, R10, g10⟩
          have h10 := hid (hA.out.kept R10 g10)
          clear hA R10 g10 hgW h9
          have hbs := h10.out.hb
          have v0 := h10.out.v0
          have v1 := h10.out.v1
          have v2 := h10.out.v2
          have v3 := h10.out.v3
          have f0 := h10.out.fv 0
          have s0 := h10.out.r0
          have t0 := h10.out.fr 0
          have s1 := h10.out.r1
          have t1 := h10.out.fr 1
          have s2 := h10.out.r2
          have t2 := h10.out.fr 2
          have s3 := h10.out.r3
          have t3 := h10.out.fr 3
          have HE := hid (OpV.fin (h10.out.set0 z) rfl)
          go_wp2
          obtain ⟨x0, x1, x2, x3, x4, x5⟩ := HE.out
          refine bodyPost_ret (v := .agg #[.int .i64 z, .int .i64 a, .int .i64 c, .int .i64 n]) (by simp [results, Try.results11, go_sem, x0, x1, x2, x3]) rfl ⟨_, _, _, _, _, rfl, ⟨by omega, by omega, by omega, by omega⟩, by omega, x4, x5⟩
        case neg =>
          by_cases e1 : r = 1
          case pos =>
            subst e1
            go_wp2_with fail
            have hgW := Nat.lt_of_lt_of_le hgw h9.out.grown.size
            have hA := hid (h9.out.below (w' := w9.alloc (.cells #[.int .i64 (-1), .int .i64 8] 3)) (by go_grown))
            refine (num_any g (q + 1) w9.heap.size 2 2 B _ _ hA.out.rdr (by omega) (by omega) (by omega) (by omega) (whos_two w9)).mono ?_
            rintro e w10 ⟨z, rfl, hz, R10, g10⟩
            have h10 := hid (hA.out.kept R10 g10)
            clear hA R10 g10 hgW h9
            have hbs := h10.out.hb
            have v0 := h10.out.v0
            have v1 := h10.out.v1
            have v2 := h10.out.v2
            have v3 := h10.out.v3
            have f1 := h10.out.fv 1
            have s0 := h10.out.r0
            have t0 := h10.out.fr 0
            have s1 := h10.out.r1
            have t1 := h10.out.fr 1
            have s2 := h10.out.r2
            have t2 := h10.out.fr 2
            have s3 := h10.out.r3
            have t3 := h10.out.fr 3
            have HE := hid (OpV.fin (h10.out.set1 z) rfl)
            go_wp2
            obtain ⟨x0, x1, x2, x3, x4, x5⟩ := HE.out
            refine bodyPost_ret (v := .agg #[.int .i64 k, .int .i64 z, .int .i64 c, .int .i64 n]) (by simp [results, Try.results11, go_sem, x0, x1, x2, x3]) rfl ⟨_, _, _, _, _, rfl, ⟨by omega, by omega, by omega, by omega⟩, by omega, x4, x5⟩
          case neg =>
            by_cases e2 : r = 2
            case pos =>
              subst e2
              go_wp2_with fail
              have hgW := Nat.lt_of_lt_of_le hgw h9.out.grown.size
              have hA := hid (h9.out.below (w' := w9.alloc (.cells #[.int .i64 (-1), .int .i64 1001, .int .i64 1000001] 3)) (by go_grown))
              refine (num_any g (q + 1) w9.heap.size 3 3 B _ _ hA.out.rdr (by omega) (by omega) (by omega) (by omega) (times_three w9)).mono ?_
              rintro e w10 ⟨z, rfl, hz, R10, g10⟩
              have h10 := hid (hA.out.kept R10 g10)
              clear hA R10 g10 hgW h9
              have hbs := h10.out.hb
              have v0 := h10.out.v0
              have v1 := h10.out.v1
              have v2 := h10.out.v2
              have v3 := h10.out.v3
              have f3 := h10.out.fv 3
              have s0 := h10.out.r0
              have t0 := h10.out.fr 0
              have s1 := h10.out.r1
              have t1 := h10.out.fr 1
              have s2 := h10.out.r2
              have t2 := h10.out.fr 2
              have s3 := h10.out.r3
              have t3 := h10.out.fr 3
              have HE := hid (OpV.fin (h10.out.set3 z) rfl)
              go_wp2
              obtain ⟨x0, x1, x2, x3, x4, x5⟩ := HE.out
              refine bodyPost_ret (v := .agg #[.int .i64 k, .int .i64 a, .int .i64 c, .int .i64 z]) (by simp [results, Try.results11, go_sem, x0, x1, x2, x3]) rfl ⟨_, _, _, _, _, rfl, ⟨by omega, by omega, by omega, by omega⟩, by omega, x4, x5⟩
            case neg =>
              by_cases e3 : r = 3
              case pos =>
                subst e3
                have hbs := h9.out.hb
                have v0 := h9.out.v0
                have v1 := h9.out.v1
                have v2 := h9.out.v2
                have v3 := h9.out.v3
                have f2 := h9.out.fv 2
                have s0 := h9.out.r0
                have t0 := h9.out.fr 0
                have s1 := h9.out.r1
                have t1 := h9.out.fr 1
                have s2 := h9.out.r2
                have t2 := h9.out.fr 2
                have s3 := h9.out.r3
                have t3 := h9.out.fr 3
                have HE := hid (OpV.fin (h9.out.set2 a) rfl)
                go_wp2
                obtain ⟨x0, x1, x2, x3, x4, x5⟩ := HE.out
                refine bodyPost_ret (v := .agg #[.int .i64 k, .int .i64 a, .int .i64 a, .int .i64 n]) (by simp [results, Try.results11, go_sem, x0, x1, x2, x3]) rfl ⟨_, _, _, _, _, rfl, ⟨by omega, by omega, by omega, by omega⟩, by omega, x4, x5⟩
              case neg =>
                have e0' : (r == 0) = false := by simpa using e0
                have e1' : (r == 1) = false := by simpa using e1
                have e2' : (r == 2) = false := by simpa using e2
                have e3' : (r == 3) = false := by simpa using e3
                have hbs := h9.out.hb
                have v0 := h9.out.v0
                have v1 := h9.out.v1
                have v2 := h9.out.v2
                have v3 := h9.out.v3
                have s0 := h9.out.r0
                have t0 := h9.out.fr 0
                have s1 := h9.out.r1
                have t1 := h9.out.fr 1
                have s2 := h9.out.r2
                have t2 := h9.out.fr 2
                have s3 := h9.out.r3
                have t3 := h9.out.fr 3
                have HE := hid (OpV.fin (h9.out) rfl)
                go_wp2
                obtain ⟨x0, x1, x2, x3, x4, x5⟩ := HE.out
                refine bodyPost_ret (v := .agg #[.int .i64 k, .int .i64 a, .int .i64 c, .int .i64 n]) (by simp [results, Try.results11, go_sem, x0, x1, x2, x3]) rfl ⟨_, _, _, _, _, rfl, ⟨by omega, by omega, by omega, by omega⟩, by omega, x4, x5⟩
end Go.Proofs.Ytpdfhffmhlgcmaa
