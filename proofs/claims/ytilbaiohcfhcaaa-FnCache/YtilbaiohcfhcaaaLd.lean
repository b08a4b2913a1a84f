/- The draw of a key and what it has: contracts. -/
import Derived.Test.YtilbaiohcfhcaaaLl
import Derived.Test.YtilbaiohcfhcaaaGrF
import Derived.Test.YtilbaiohcfhcaaaGrC
namespace Go.Proofs.Ytilbaiohcfhcaaa
open Go.RowKit
attribute [local go_sem ↓] Go.wp_at_zero Go.wp_at_succ

theorem nums_nine (w : World) : Nums (w.alloc (.cells #[.int .i64 0, .int .i64 1, .int .i64 7, .int .i64 1000000, .int .i64 1000001, .int .i64 5, .int .i64 9, .int .i64 12, .int .i64 (-1)] 3)) w.heap.size 9 (fun z => -1 ≤ z ∧ z ≤ 1000001) := by
  refine ⟨by simp, fun i hi => ?_⟩
  rcases i with _ | _ | _ | _ | _ | _ | _ | _ | _ | i
  · exact ⟨0, by go_cell, by omega⟩
  · exact ⟨1, by go_cell, by omega⟩
  · exact ⟨7, by go_cell, by omega⟩
  · exact ⟨1000000, by go_cell, by omega⟩
  · exact ⟨1000001, by go_cell, by omega⟩
  · exact ⟨5, by go_cell, by omega⟩
  · exact ⟨9, by go_cell, by omega⟩
  · exact ⟨12, by go_cell, by omega⟩
  · exact ⟨-1, by go_cell, by omega⟩
  · omega

/-- Two struct variables behind world w0's end, the reader, the rest as it was. -/
structure Two (w0 wr : World) (B g p : Nat) (n : Int) (u : Value) : Prop where
  rdr : Rdr wr B g p
  grown : w0.grownBy wr (some g)
  lt : g < w0.heap.size
  r0 : wr.cell? ⟨w0.heap.size, 0, none⟩ = some (.int .i64 0)
  r1 : wr.cell? ⟨w0.heap.size, 1, none⟩ = some (.slice none 0 0)
  v0 : wr.cell? ⟨w0.heap.size + 1, 0, none⟩ = some (.int .i64 n)
  v1 : wr.cell? ⟨w0.heap.size + 1, 1, none⟩ = some u
  f0 : wr.frozen? ⟨w0.heap.size, 0, none⟩ = false
  f1 : wr.frozen? ⟨w0.heap.size, 1, none⟩ = false
  f2 : wr.frozen? ⟨w0.heap.size + 1, 0, none⟩ = false
  f3 : wr.frozen? ⟨w0.heap.size + 1, 1, none⟩ = false
  size : w0.heap.size + 1 < wr.heap.size
theorem Two.kept {w0 wr w' : World} {B g p q : Nat} {n : Int} {u : Value} (h : Two w0 wr B g p n u) (hR : Rdr w' B g q) (hg : wr.grownBy w' (some g)) : Two w0 w' B g q n u := by
  have hl := h.lt
  have hs := h.size
  have n0 : ∀ i, some (⟨w0.heap.size, i, none⟩ : Addr).block ≠ some g := fun i e => by have : w0.heap.size = g := Option.some.inj e; omega
  have n1 : ∀ i, some (⟨w0.heap.size + 1, i, none⟩ : Addr).block ≠ some g := fun i e => by have : w0.heap.size + 1 = g := Option.some.inj e; omega
  exact ⟨hR, grown_trans h.grown hg, hl, hg.cell h.r0 (n0 0), hg.cell h.r1 (n0 1), hg.cell h.v0 (n1 0), hg.cell h.v1 (n1 1),
    (hg.frozen_far ⟨w0.heap.size, 0, none⟩ (by show w0.heap.size < _; omega) (n0 0)).trans h.f0, (hg.frozen_far ⟨w0.heap.size, 1, none⟩ (by show w0.heap.size < _; omega) (n0 1)).trans h.f1,
    (hg.frozen_far ⟨w0.heap.size + 1, 0, none⟩ hs (n1 0)).trans h.f2, (hg.frozen_far ⟨w0.heap.size + 1, 1, none⟩ hs (n1 1)).trans h.f3, Nat.lt_of_lt_of_le hs hg.size⟩
theorem Two.below {w0 wr w' : World} {B g p : Nat} {n : Int} {u : Value} (h : Two w0 wr B g p n u) (hb : Below wr.heap.size wr w') : Two w0 w' B g p n u :=
  h.kept (h.rdr.later hb) (grown_wide (grownBelowR hb))
theorem Two.new (w : World) {B g p : Nat} (h : Rdr w B g p) : Two w ((w.alloc (.cells #[.int .i64 0, .slice none 0 0] 29)).alloc (.cells #[.int .i64 0, .slice none 0 0] 29)) B g p 0 (.slice none 0 0) :=
  ⟨h.later (by go_grown), grown_trans (World.grownBy_alloc w _ _) (World.grownBy_alloc _ _ _), h.2.1, by go_cell, by go_cell, by go_cell, by go_cell, by (first | go_cell | (simp [World.frozen?, World.alloc]; done) | rfl), by (first | go_cell | (simp [World.frozen?, World.alloc]; done) | rfl), by (first | go_cell | (simp [World.frozen?, World.alloc]; done) | rfl), by (first | go_cell | (simp [World.frozen?, World.alloc]; done) | rfl), by simp⟩
theorem Two.set0 {w0 wr : World} {B g p : Nat} {n : Int} {u : Value} (h : Two w0 wr B g p n u) (z : Int) : Two w0 (wr.setCell ⟨w0.heap.size + 1, 0, none⟩ (.int .i64 z)) B g p z u := by
  have hl := h.lt
  obtain ⟨a1, a2, a3, a4, a5, a6, a7, a8, a9, a10, a11, a12⟩ := h
  exact ⟨a1.kept (grown_set wr ⟨w0.heap.size + 1, 0, none⟩ _) (fun j e => by have : w0.heap.size + 1 = j := Option.some.inj e; have := a1.1; omega) (fun e => by have : w0.heap.size + 1 = g := Option.some.inj e; omega),
    grown_set_new a2 (by show w0.heap.size ≤ w0.heap.size + 1; omega) _, hl, by go_cell, by go_cell, by go_cell, by go_cell, by simpa using a8, by simpa using a9, by simpa using a10, by simpa using a11, by simpa using a12⟩
theorem Two.set1 {w0 wr : World} {B g p : Nat} {n : Int} {u : Value} (h : Two w0 wr B g p n u) (ao : Option Addr) (m c : Nat) : Two w0 (wr.setCell ⟨w0.heap.size + 1, 1, none⟩ (.slice ao m c)) B g p n (.slice ao m c) := by
  have hl := h.lt
  obtain ⟨a1, a2, a3, a4, a5, a6, a7, a8, a9, a10, a11, a12⟩ := h
  exact ⟨a1.kept (grown_set wr ⟨w0.heap.size + 1, 1, none⟩ _) (fun j e => by have : w0.heap.size + 1 = j := Option.some.inj e; have := a1.1; omega) (fun e => by have : w0.heap.size + 1 = g := Option.some.inj e; omega),
    grown_set_new a2 (by show w0.heap.size ≤ w0.heap.size + 1; omega) _, hl, by go_cell, by go_cell, by go_cell, by go_cell, by simpa using a8, by simpa using a9, by simpa using a10, by simpa using a11, by simpa using a12⟩

theorem Own.apartSet2 {w : World} {B : Nat} {v : Value} {l : List (Int × Int)} {p : Addr} (h : Own w B v l) (hp : p.block < B) (u : Value) : Own (w.setCell p u) B v l := by
  refine ⟨h.1, ?_⟩
  rcases h.2 with hn | ⟨g, cap, cur, rfl, hbg, hgg, rest⟩
  · exact .inl hn
  · exact .inr ⟨g, cap, cur, rfl, hbg, (Below.heap_setCell w p u g (by omega)).trans hgg, rest⟩

theorem Rdr.setFar {w : World} {B g p : Nat} (h : Rdr w B g p) {a : Addr} (ha : B ≤ a.block) (hne : ¬ a.block = g) (v : Value) : Rdr (w.setCell a v) B g p :=
  h.kept (grown_set w a v) (fun k e => by cases e; exact ha) (fun e => hne (Option.some.inj e))

set_option maxRecDepth 100000 in
set_option maxHeartbeats 2000000 in
theorem l2ValR_any (g p B : Nat) (key : Int) (w : World) (h : Rdr w B g p) (hp : p ≤ 1000000) :
    Calls Try.prog 37 #[.pointer (some ⟨g, 0, none⟩), .int .i64 key] w fun e w' => ∃ (n : Int) (u : Value) (l : List (Int × Int)), e = .returned (.agg #[.int .i64 n, u]) ∧ Own w' (w.heap.size + 2) u l ∧ l.length ≤ 7 ∧ BdL l ∧ (-1 ≤ n ∧ n ≤ 1000001) ∧ w.grownBy w' (some g) ∧ ∃ q, q ≤ p + 30 ∧ Rdr w' B g q := by
  have hT := hid (Two.new w h)
  have hgw := h.2.1
  have hBw : B ≤ w.heap.size := Nat.le_trans h.1 (Nat.le_of_lt hgw)
  go_enter Try.func37, Try.ntmps37
  go_wp2_with fail
  refine (specKind_any key _).mono ?_
  rintro e w1 ⟨rfl, rfl⟩
  generalize (w.alloc (.cells #[.int .i64 0, .slice none 0 0] 29)).alloc (.cells #[.int .i64 0, .slice none 0 0] 29) = W at hT ⊢
  have q0 := hT.out.v0
  have q1 := hT.out.v1
  have y0 := hT.out.f2
  have y1 := hT.out.f3
  cases hk : (kindOf key == 0) with
  | true =>
    go_wp2_with fail
    have hA := hid (hT.out.below (w' := W.alloc (.cells #[.int .i64 0, .int .i64 1, .int .i64 7, .int .i64 1000000, .int .i64 1000001, .int .i64 5, .int .i64 9, .int .i64 12, .int .i64 (-1)] 3)) (by go_grown))
    have hgW := Nat.lt_of_lt_of_le hgw hT.out.grown.size
    refine (num_any g p W.heap.size 9 9 B _ _ hA.out.rdr (by omega) (by omega) (by omega) (by omega) (nums_nine W)).mono ?_
    rintro e w2 ⟨z, rfl, hz, R2, g2⟩
    have hB := hid (hA.out.kept R2 g2)
    clear q0 q1 y0 y1 hA R2 g2
    have q0 := hB.out.v0
    have y0 := hB.out.f2
    have hC := hid (hB.out.set0 z)
    go_wp2_with fail
    refine (pick_any g (p + 1) 20 B _ hC.out.rdr (by omega) (by omega)).mono ?_
    rintro e w3 ⟨r, rfl, d0, d1, R3, g3⟩
    have hD := hid (hC.out.kept R3 g3)
    clear q0 y0 hB hC R3 g3 d1
    have k0 := hD.out.r0
    have k1 := hD.out.r1
    have k2 := hD.out.v0
    have k3 := hD.out.v1
    have j0 := hD.out.f0
    have j1 := hD.out.f1
    have j2 := hD.out.f2
    by_cases hr : r = 0
    · subst hr
      have e0 : (((w3.setCell ⟨w.heap.size + 1, 0, none⟩ (.int .i64 1)).setCell ⟨w.heap.size, 0, none⟩ (.int .i64 1)).setCell ⟨w.heap.size, 1, none⟩ (.slice none 0 0)).cell? ⟨w.heap.size, 0, none⟩ = some (.int .i64 1) := by go_cell
      have e1 : (((w3.setCell ⟨w.heap.size + 1, 0, none⟩ (.int .i64 1)).setCell ⟨w.heap.size, 0, none⟩ (.int .i64 1)).setCell ⟨w.heap.size, 1, none⟩ (.slice none 0 0)).cell? ⟨w.heap.size, 1, none⟩ = some (.slice none 0 0) := by go_cell
      have HG := hid (grown_set_new (grown_set_new (grown_set_new hD.out.grown (a := ⟨w.heap.size + 1, 0, none⟩) (by show w.heap.size ≤ w.heap.size + 1; omega) (.int .i64 1)) (a := ⟨w.heap.size, 0, none⟩) (Nat.le_refl _) (.int .i64 1)) (a := ⟨w.heap.size, 1, none⟩) (Nat.le_refl _) (.slice none 0 0))
      have HR := hid (((hD.out.rdr.setFar (a := ⟨w.heap.size + 1, 0, none⟩) (by show B ≤ w.heap.size + 1; omega) (by show ¬ w.heap.size + 1 = g; omega) (.int .i64 1)).setFar (a := ⟨w.heap.size, 0, none⟩) (by show B ≤ w.heap.size; omega) (by show ¬ w.heap.size = g; omega) (.int .i64 1)).setFar (a := ⟨w.heap.size, 1, none⟩) (by show B ≤ w.heap.size; omega) (by show ¬ w.heap.size = g; omega) (.slice none 0 0))
      go_wp2
      refine bodyPost_ret (v := .agg #[.int .i64 1, .slice none 0 0]) (by simp [results, Try.results37, go_sem, e0, e1]) rfl ⟨_, _, _, rfl, (show World.ownsRow _ _ _ _ _ _ _ from World.ownsRow_nil _ _ _ _ : Own _ _ _ []), by simp, (fun x hx => by cases hx), by omega, HG.out, _, by omega, HR.out⟩
    · have hr' : (r == 0) = false := by simpa using hr
      clear hr
      have e0 : ((w3.setCell ⟨w.heap.size, 0, none⟩ (.int .i64 z)).setCell ⟨w.heap.size, 1, none⟩ (.slice none 0 0)).cell? ⟨w.heap.size, 0, none⟩ = some (.int .i64 z) := by go_cell
      have e1 : ((w3.setCell ⟨w.heap.size, 0, none⟩ (.int .i64 z)).setCell ⟨w.heap.size, 1, none⟩ (.slice none 0 0)).cell? ⟨w.heap.size, 1, none⟩ = some (.slice none 0 0) := by go_cell
      have HG := hid (grown_set_new (grown_set_new hD.out.grown (a := ⟨w.heap.size, 0, none⟩) (Nat.le_refl _) (.int .i64 z)) (a := ⟨w.heap.size, 1, none⟩) (Nat.le_refl _) (.slice none 0 0))
      have HR := hid ((hD.out.rdr.setFar (a := ⟨w.heap.size, 0, none⟩) (by show B ≤ w.heap.size; omega) (by show ¬ w.heap.size = g; omega) (.int .i64 z)).setFar (a := ⟨w.heap.size, 1, none⟩) (by show B ≤ w.heap.size; omega) (by show ¬ w.heap.size = g; omega) (.slice none 0 0))
      go_wp2
      refine bodyPost_ret (v := .agg #[.int .i64 z, .slice none 0 0]) (by simp [results, Try.results37, go_sem, e0, e1]) rfl ⟨_, _, _, rfl, (show World.ownsRow _ _ _ _ _ _ _ from World.ownsRow_nil _ _ _ _ : Own _ _ _ []), by simp, (fun x hx => by cases hx), hz, HG.out, _, by omega, HR.out⟩
  | false =>
    go_wp2_with fail
    refine (l1List_any g p B _ hT.out.rdr (by omega)).mono ?_
    rintro e w2 ⟨u, l, q, rfl, L, hl, hq0, hq1, hbd⟩
    obtain ⟨uo, uc, hu, _⟩ := L.1.rd
    subst hu
    have hB := hid (hT.out.kept L.2.1 L.2.2.1)
    have hWs := hT.out.size
    have hO := hid L.1
    have hne := hid L.ne
    clear q0 q1 y0 y1 L
    have q1 := hB.out.v1
    have y1 := hB.out.f3
    have hC := hid (hB.out.set1 uo l.length uc)
    have hO2 := hid (hO.out.apartSet2 (p := ⟨w.heap.size + 1, 1, none⟩) (by show w.heap.size + 1 < _; omega) (.slice uo l.length uc))
    go_wp2_with fail
    refine (pick_any g q 20 B _ hC.out.rdr (by omega) (by omega)).mono ?_
    rintro e w3 ⟨r, rfl, d0, d1, R3, g3⟩
    have hD := hid (hC.out.kept R3 g3)
    have hO3 := hid (Own.mono (World.ownsRow.kept hO2.out g3 hne.out) (B' := w.heap.size + 2) (by omega))
    clear q1 y1 hB hC R3 g3 d1 hO hO2
    have k0 := hD.out.r0
    have k1 := hD.out.r1
    have k2 := hD.out.v0
    have k3 := hD.out.v1
    have j0 := hD.out.f0
    have j1 := hD.out.f1
    have j2 := hD.out.f2
    by_cases hr : r = 0
    · subst hr
      have e0 : (((w3.setCell ⟨w.heap.size + 1, 0, none⟩ (.int .i64 1)).setCell ⟨w.heap.size, 0, none⟩ (.int .i64 1)).setCell ⟨w.heap.size, 1, none⟩ (.slice uo l.length uc)).cell? ⟨w.heap.size, 0, none⟩ = some (.int .i64 1) := by go_cell
      have e1 : (((w3.setCell ⟨w.heap.size + 1, 0, none⟩ (.int .i64 1)).setCell ⟨w.heap.size, 0, none⟩ (.int .i64 1)).setCell ⟨w.heap.size, 1, none⟩ (.slice uo l.length uc)).cell? ⟨w.heap.size, 1, none⟩ = some (.slice uo l.length uc) := by go_cell
      have HG := hid (grown_set_new (grown_set_new (grown_set_new hD.out.grown (a := ⟨w.heap.size + 1, 0, none⟩) (by show w.heap.size ≤ w.heap.size + 1; omega) (.int .i64 1)) (a := ⟨w.heap.size, 0, none⟩) (Nat.le_refl _) (.int .i64 1)) (a := ⟨w.heap.size, 1, none⟩) (Nat.le_refl _) (.slice uo l.length uc))
      have HR := hid (((hD.out.rdr.setFar (a := ⟨w.heap.size + 1, 0, none⟩) (by show B ≤ w.heap.size + 1; omega) (by show ¬ w.heap.size + 1 = g; omega) (.int .i64 1)).setFar (a := ⟨w.heap.size, 0, none⟩) (by show B ≤ w.heap.size; omega) (by show ¬ w.heap.size = g; omega) (.int .i64 1)).setFar (a := ⟨w.heap.size, 1, none⟩) (by show B ≤ w.heap.size; omega) (by show ¬ w.heap.size = g; omega) (.slice uo l.length uc))
      go_wp2
      refine bodyPost_ret (v := .agg #[.int .i64 1, .slice uo l.length uc]) (by simp [results, Try.results37, go_sem, e0, e1]) rfl ⟨_, _, _, rfl, ((hO3.out.apartSet2 (p := ⟨w.heap.size + 1, 0, none⟩) (by show w.heap.size + 1 < _; omega) (.int .i64 1)).apartSet2 (p := ⟨w.heap.size, 0, none⟩) (by show w.heap.size < _; omega) (.int .i64 1)).apartSet2 (p := ⟨w.heap.size, 1, none⟩) (by show w.heap.size < _; omega) (.slice uo l.length uc), hl, hbd, by omega, HG.out, _, by omega, HR.out⟩
    · have hr' : (r == 0) = false := by simpa using hr
      clear hr
      have e0 : ((w3.setCell ⟨w.heap.size, 0, none⟩ (.int .i64 0)).setCell ⟨w.heap.size, 1, none⟩ (.slice uo l.length uc)).cell? ⟨w.heap.size, 0, none⟩ = some (.int .i64 0) := by go_cell
      have e1 : ((w3.setCell ⟨w.heap.size, 0, none⟩ (.int .i64 0)).setCell ⟨w.heap.size, 1, none⟩ (.slice uo l.length uc)).cell? ⟨w.heap.size, 1, none⟩ = some (.slice uo l.length uc) := by go_cell
      have HG := hid (grown_set_new (grown_set_new hD.out.grown (a := ⟨w.heap.size, 0, none⟩) (Nat.le_refl _) (.int .i64 0)) (a := ⟨w.heap.size, 1, none⟩) (Nat.le_refl _) (.slice uo l.length uc))
      have HR := hid ((hD.out.rdr.setFar (a := ⟨w.heap.size, 0, none⟩) (by show B ≤ w.heap.size; omega) (by show ¬ w.heap.size = g; omega) (.int .i64 0)).setFar (a := ⟨w.heap.size, 1, none⟩) (by show B ≤ w.heap.size; omega) (by show ¬ w.heap.size = g; omega) (.slice uo l.length uc))
      go_wp2
      refine bodyPost_ret (v := .agg #[.int .i64 0, .slice uo l.length uc]) (by simp [results, Try.results37, go_sem, e0, e1]) rfl ⟨_, _, _, rfl, (hO3.out.apartSet2 (p := ⟨w.heap.size, 0, none⟩) (by show w.heap.size < _; omega) (.int .i64 0)).apartSet2 (p := ⟨w.heap.size, 1, none⟩) (by show w.heap.size < _; omega) (.slice uo l.length uc), hl, hbd, by omega, HG.out, _, by omega, HR.out⟩

theorem l2Val_any (g p B : Nat) (key : Int) (w : World) (h : Rdr w B g p) (hp : p ≤ 1000000) :
    Calls Try.prog 37 #[.pointer (some ⟨g, 0, none⟩), .int .i64 key] w fun e w' => ∃ (n : Int) (u : Value) (l : List (Int × Int)), e = .returned (.agg #[.int .i64 n, u]) ∧ Own w' (w.heap.size + 2) u l ∧ l.length ≤ 7 ∧ BdL l ∧ (-1 ≤ n ∧ n ≤ 1000001) ∧ w.grownBy w' (some g) :=
  (l2ValR_any g p B key w h hp).mono (by rintro e w' ⟨n, u, l, h0, h1, h2, h3, h4, h5, _⟩; exact ⟨n, u, l, h0, h1, h2, h3, h4, h5⟩)

/-- A struct variable in block b, elsewhere than the reader g. -/
structure One (wr : World) (b : Nat) : Prop where
  r0 : wr.cell? ⟨b, 0, none⟩ = some (.int .i64 0)
  r1 : wr.cell? ⟨b, 1, none⟩ = some (.slice none 0 0)
  f0 : wr.frozen? ⟨b, 0, none⟩ = false
  f1 : wr.frozen? ⟨b, 1, none⟩ = false
  lt : b < wr.heap.size
theorem One.kept {wr w' : World} {b g : Nat} (h : One wr b) (hg : wr.grownBy w' (some g)) (hne : b ≠ g) : One w' b :=
  ⟨hg.cell h.r0 (fun e => hne (Option.some.inj e)), hg.cell h.r1 (fun e => hne (Option.some.inj e)), (hg.frozen_far ⟨b, 0, none⟩ h.lt (fun e => hne (Option.some.inj e))).trans h.f0,
    (hg.frozen_far ⟨b, 1, none⟩ h.lt (fun e => hne (Option.some.inj e))).trans h.f1, Nat.lt_of_lt_of_le h.lt hg.size⟩
theorem One.below {wr w' : World} {b : Nat} (h : One wr b) (hb : Below wr.heap.size wr w') : One w' b :=
  ⟨(hb.cell (p := ⟨b, 0, none⟩) h.lt).trans h.r0, (hb.cell (p := ⟨b, 1, none⟩) h.lt).trans h.r1, (hb.frozen (p := ⟨b, 0, none⟩) h.lt).trans h.f0, (hb.frozen (p := ⟨b, 1, none⟩) h.lt).trans h.f1, Nat.lt_of_lt_of_le h.lt hb.size⟩
theorem One.new (w : World) : One (w.alloc (.cells #[.int .i64 0, .slice none 0 0] 29)) w.heap.size := ⟨by go_cell, by go_cell, by (first | go_cell | (simp [World.frozen?, World.alloc]; done) | rfl), by (first | go_cell | (simp [World.frozen?, World.alloc]; done) | rfl), by simp⟩

end Go.Proofs.Ytilbaiohcfhcaaa
