/- Proved here: FnVal returns true for every two slices of bytes (no condition on them; the library's tables and errors hold what start-up lays: the card ties them); what it was handed reads as before. -/
import Derived.Test.YtdjonplcgmfmgaaGreatDoorNm
import Derived.Test.YtdjonplcgmfmgaaGreatDoorDk
import Derived.Test.YtdjonplcgmfmgaaGreatDoorLl
import Derived.Test.YtdjonplcgmfmgaaGreatDoorKk
import Derived.Test.YtdjonplcgmfmgaaGreatDoorDs
import Derived.Test.YtdjonplcgmfmgaaGreatDoorVt
import Derived.Test.YtdjonplcgmfmgaaGreatDoorTn
import Derived.Test.YtdjonplcgmfmgaaGreatDoorRu
import Derived.Test.YtdjonplcgmfmgaaGreatDoorTj
import Derived.Test.YtdjonplcgmfmgaaGreatDoorOkI
import Derived.Test.YtdjonplcgmfmgaaGreatDoorRm
import Derived.Test.YtdjonplcgmfmgaaGreatDoorVh
import Derived.Lib.QuietBelow
import Derived.Test.YtdjonplcgmfmgaaGreatDoorWo
import Derived.Test.YtdjonplcgmfmgaaGreatDoorOkP
import Derived.Test.YtdjonplcgmfmgaaGreatDoorSo
import Derived.Test.YtdjonplcgmfmgaaGreatDoorVs
import Derived.Deep.Cut
import Derived.Test.YtdjonplcgmfmgaaGreatDoorRw
import Derived.HandedShaped
import Derived.Handed
import Derived.Shelf.Vars
import Derived.MakeChecks
import Derived.Stop.LaidErr
import Derived.LaidMore
import Derived.Test.YtdjonplcgmfmgaaGreatDoorRows
import Derived.WalkKit
import Derived.ProofKit
import Derived.OpenShut
import Derived.Deep.SlicePairs
import Derived.Test.YtdjonplcgmfmgaaGreatDoorCards
import Derived.Test.YtdjonplcgmfmgaaGreatDoorTie
import Derived.Lay
import Derived.ChangeMaps5
import Derived.Stop.Joined
import Derived.SevenTiedAt
/- Part: The draws of a key: contracts. -/
namespace Go.Proofs.YtdjonplcgmfmgaaGreatDoor
open Go.RowKit

set_option maxRecDepth 100000 in
set_option maxHeartbeats 1000000 in
theorem l2Key_any (g p B : Nat) (w : World) (h : Rdr w B g p) (hp : p ≤ 100000000000) :
    Calls Tryz.prog 51 #[.pointer (some ⟨g, 0, none⟩)] w fun e w' => ∃ k : Int, e = .returned (.int .i64 k) ∧ (-1 ≤ k ∧ k ≤ 100) ∧ (∃ q, p ≤ q ∧ q ≤ p + 2 ∧ Rdr w' B g q) ∧ w.grownBy w' (some g) := by
  go_enter Tryz.func51, Tryz.ntmps51
  go_wp2_with fail
  refine (pick_any g p 16 B _ h (by omega) (by omega)).mono ?_
  rintro e w1 ⟨r, rfl, r0, r1, R1, g1⟩
  clear r1
  by_cases hr : r = 0
  · subst hr
    go_wp2_with fail
    have hN : Nums (w1.alloc (.cells #[.int .i64 (-1), .int .i64 24, .int .i64 100] 3)) w1.heap.size 3 (fun z => -1 ≤ z ∧ z ≤ 100) := by
      refine ⟨by simp, fun i hi => ?_⟩
      rcases i with _ | _ | _ | i
      · exact ⟨-1, by go_cell, by omega⟩
      · exact ⟨24, by go_cell, by omega⟩
      · exact ⟨100, by go_cell, by omega⟩
      · omega
    have hg1 := R1.2.1
    refine (num_any g (p + 1) w1.heap.size 3 3 B (fun z => -1 ≤ z ∧ z ≤ 100) _ (R1.later (by go_grown)) (by omega) (by omega) (by omega) (by omega) hN).mono ?_
    rintro e w2 ⟨k, rfl, hk, R2, g2⟩
    have g3 := grown_trans g1 (grown_trans (World.grownBy_alloc w1 _ (some g)) g2)
    clear hN g1 g2
    go_wp2
    go_ret
    exact ⟨k, by simp, hk, ⟨p + 2, by omega, by omega, R2⟩, g3⟩
  · have hr' : (r == 0) = false := by simpa using hr
    go_wp2_with fail
    refine (pick_any g (p + 1) 24 B _ R1 (by omega) (by omega)).mono ?_
    rintro e w2 ⟨k, rfl, k0, k1, R2, g2⟩
    have k2 := k1 (by omega)
    clear k1
    go_wp2
    go_ret
    exact ⟨k, by simp, by omega, ⟨p + 2, by omega, by omega, R2⟩, grown_trans g1 g2⟩

end Go.Proofs.YtdjonplcgmfmgaaGreatDoor

/- Part: The draw of a key and what it has: contracts. -/
namespace Go.Proofs.YtdjonplcgmfmgaaGreatDoor
open Go.RowKit
attribute [local go_sem ↓] Go.wp_at_zero Go.wp_at_succ

theorem nums_nine (w : World) : Nums (w.alloc (.cells #[.int .i64 0, .int .i64 1, .int .i64 7, .int .i64 1000000, .int .i64 1000001, .int .i64 5, .int .i64 9, .int .i64 12, .int .i64 (-1)] 3)) w.heap.size 9 (fun z => -1 ≤ z ∧ z ≤ 1000001) := by
  refine ⟨by simp, fun i hi => ?_⟩
  rcases i with _ | _ | _ | _ | _ | _ | _ | _ | _ | i
  · exact ⟨0, by go_cell, by omega⟩
  · exact ⟨1, by go_cell, by omega⟩
  · exact ⟨7, by go_cell, by omega⟩
  · exact ⟨1000000, by go_cell, by omega⟩
  · exact ⟨1000001, by go_cell, by omega⟩
  · exact ⟨5, by go_cell, by omega⟩
  · exact ⟨9, by go_cell, by omega⟩
  · exact ⟨12, by go_cell, by omega⟩
  · exact ⟨-1, by go_cell, by omega⟩
  · omega

/-- Two struct variables behind world w0's end, the reader, the rest as it was. -/
structure Two (w0 wr : World) (B g p : Nat) (n : Int) (u : Value) : Prop where
  rdr : Rdr wr B g p
  grown : w0.grownBy wr (some g)
  lt : g < w0.heap.size
  r0 : wr.cell? ⟨w0.heap.size, 0, none⟩ = some (.int .i64 0)
  r1 : wr.cell? ⟨w0.heap.size, 1, none⟩ = some (.slice none 0 0)
  v0 : wr.cell? ⟨w0.heap.size + 1, 0, none⟩ = some (.int .i64 n)
  v1 : wr.cell? ⟨w0.heap.size + 1, 1, none⟩ = some u
  f0 : wr.frozen? ⟨w0.heap.size, 0, none⟩ = false
  f1 : wr.frozen? ⟨w0.heap.size, 1, none⟩ = false
  f2 : wr.frozen? ⟨w0.heap.size + 1, 0, none⟩ = false
  f3 : wr.frozen? ⟨w0.heap.size + 1, 1, none⟩ = false
  size : w0.heap.size + 1 < wr.heap.size
theorem Two.kept {w0 wr w' : World} {B g p q : Nat} {n : Int} {u : Value} (h : Two w0 wr B g p n u) (hR : Rdr w' B g q) (hg : wr.grownBy w' (some g)) : Two w0 w' B g q n u := by
  have hl := h.lt
  have hs := h.size
  have n0 : ∀ i, some (⟨w0.heap.size, i, none⟩ : Addr).block ≠ some g := fun i e => by have : w0.heap.size = g := Option.some.inj e; omega
  have n1 : ∀ i, some (⟨w0.heap.size + 1, i, none⟩ : Addr).block ≠ some g := fun i e => by have : w0.heap.size + 1 = g := Option.some.inj e; omega
  exact ⟨hR, grown_trans h.grown hg, hl, hg.cell h.r0 (n0 0), hg.cell h.r1 (n0 1), hg.cell h.v0 (n1 0), hg.cell h.v1 (n1 1),
    (hg.frozen_far ⟨w0.heap.size, 0, none⟩ (by show w0.heap.size < _; omega) (n0 0)).trans h.f0, (hg.frozen_far ⟨w0.heap.size, 1, none⟩ (by show w0.heap.size < _; omega) (n0 1)).trans h.f1,
    (hg.frozen_far ⟨w0.heap.size + 1, 0, none⟩ hs (n1 0)).trans h.f2, (hg.frozen_far ⟨w0.heap.size + 1, 1, none⟩ hs (n1 1)).trans h.f3, Nat.lt_of_lt_of_le hs hg.size⟩
theorem Two.below {w0 wr w' : World} {B g p : Nat} {n : Int} {u : Value} (h : Two w0 wr B g p n u) (hb : Below wr.heap.size wr w') : Two w0 w' B g p n u :=
  h.kept (h.rdr.later hb) (grown_wide (grownBelowR hb))
theorem Two.new (w : World) {B g p : Nat} (h : Rdr w B g p) : Two w ((w.alloc (.cells #[.int .i64 0, .slice none 0 0] 35)).alloc (.cells #[.int .i64 0, .slice none 0 0] 35)) B g p 0 (.slice none 0 0) :=
  ⟨h.later (by go_grown), grown_trans (World.grownBy_alloc w _ _) (World.grownBy_alloc _ _ _), h.2.1, by go_cell, by go_cell, by go_cell, by go_cell, by (first | go_cell | (simp [World.frozen?, World.alloc]; done) | rfl), by (first | go_cell | (simp [World.frozen?, World.alloc]; done) | rfl), by (first | go_cell | (simp [World.frozen?, World.alloc]; done) | rfl), by (first | go_cell | (simp [World.frozen?, World.alloc]; done) | rfl), by simp⟩
theorem Two.set0 {w0 wr : World} {B g p : Nat} {n : Int} {u : Value} (h : Two w0 wr B g p n u) (z : Int) : Two w0 (wr.setCell ⟨w0.heap.size + 1, 0, none⟩ (.int .i64 z)) B g p z u := by
  have hl := h.lt
  obtain ⟨a1, a2, a3, a4, a5, a6, a7, a8, a9, a10, a11, a12⟩ := h
  exact ⟨a1.kept (grown_set wr ⟨w0.heap.size + 1, 0, none⟩ _) (fun j e => by have : w0.heap.size + 1 = j := Option.some.inj e; have := a1.1; omega) (fun e => by have : w0.heap.size + 1 = g := Option.some.inj e; omega),
    grown_set_new a2 (by show w0.heap.size ≤ w0.heap.size + 1; omega) _, hl, by go_cell, by go_cell, by go_cell, by go_cell, by simpa using a8, by simpa using a9, by simpa using a10, by simpa using a11, by simpa using a12⟩
theorem Two.set1 {w0 wr : World} {B g p : Nat} {n : Int} {u : Value} (h : Two w0 wr B g p n u) (ao : Option Addr) (m c : Nat) : Two w0 (wr.setCell ⟨w0.heap.size + 1, 1, none⟩ (.slice ao m c)) B g p n (.slice ao m c) := by
  have hl := h.lt
  obtain ⟨a1, a2, a3, a4, a5, a6, a7, a8, a9, a10, a11, a12⟩ := h
  exact ⟨a1.kept (grown_set wr ⟨w0.heap.size + 1, 1, none⟩ _) (fun j e => by have : w0.heap.size + 1 = j := Option.some.inj e; have := a1.1; omega) (fun e => by have : w0.heap.size + 1 = g := Option.some.inj e; omega),
    grown_set_new a2 (by show w0.heap.size ≤ w0.heap.size + 1; omega) _, hl, by go_cell, by go_cell, by go_cell, by go_cell, by simpa using a8, by simpa using a9, by simpa using a10, by simpa using a11, by simpa using a12⟩

theorem Own.apartSet2 {w : World} {B : Nat} {v : Value} {l : List (Int × Int)} {p : Addr} (h : Own w B v l) (hp : p.block < B) (u : Value) : Own (w.setCell p u) B v l := by
  refine ⟨h.1, ?_⟩
  rcases h.2 with hn | ⟨g, cap, cur, rfl, hbg, hgg, rest⟩
  · exact .inl hn
  · exact .inr ⟨g, cap, cur, rfl, hbg, (Below.heap_setCell w p u g (by omega)).trans hgg, rest⟩

theorem Rdr.setFar {w : World} {B g p : Nat} (h : Rdr w B g p) {a : Addr} (ha : B ≤ a.block) (hne : ¬ a.block = g) (v : Value) : Rdr (w.setCell a v) B g p :=
  h.kept (grown_set w a v) (fun k e => by cases e; exact ha) (fun e => hne (Option.some.inj e))

set_option maxRecDepth 100000 in
set_option maxHeartbeats 2000000 in
theorem l2ValR_any (g p B : Nat) (key : Int) (w : World) (h : Rdr w B g p) (hp : p ≤ 1000000) :
    Calls Tryz.prog 52 #[.pointer (some ⟨g, 0, none⟩), .int .i64 key] w fun e w' => ∃ (n : Int) (u : Value) (l : List (Int × Int)), e = .returned (.agg #[.int .i64 n, u]) ∧ Own w' (w.heap.size + 2) u l ∧ l.length ≤ 7 ∧ BdL l ∧ (-1 ≤ n ∧ n ≤ 1000001) ∧ w.grownBy w' (some g) ∧ ∃ q, q ≤ p + 30 ∧ Rdr w' B g q := by
  have hT := hid (Two.new w h)
  have hgw := h.2.1
  have hBw : B ≤ w.heap.size := Nat.le_trans h.1 (Nat.le_of_lt hgw)
  go_enter Tryz.func52, Tryz.ntmps52
  go_wp2_with fail
  refine (specKind_any key _).mono ?_
  rintro e w1 ⟨rfl, rfl⟩
  generalize (w.alloc (.cells #[.int .i64 0, .slice none 0 0] 35)).alloc (.cells #[.int .i64 0, .slice none 0 0] 35) = W at hT ⊢
  have q0 := hT.out.v0
  have q1 := hT.out.v1
  have y0 := hT.out.f2
  have y1 := hT.out.f3
  cases hk : (kindOf key == 0) with
  | true =>
    go_wp2_with fail
    have hA := hid (hT.out.below (w' := W.alloc (.cells #[.int .i64 0, .int .i64 1, .int .i64 7, .int .i64 1000000, .int .i64 1000001, .int .i64 5, .int .i64 9, .int .i64 12, .int .i64 (-1)] 3)) (by go_grown))
    have hgW := Nat.lt_of_lt_of_le hgw hT.out.grown.size
    refine (num_any g p W.heap.size 9 9 B _ _ hA.out.rdr (by omega) (by omega) (by omega) (by omega) (nums_nine W)).mono ?_
    rintro e w2 ⟨z, rfl, hz, R2, g2⟩
    have hB := hid (hA.out.kept R2 g2)
    clear q0 q1 y0 y1 hA R2 g2
    have q0 := hB.out.v0
    have y0 := hB.out.f2
    have hC := hid (hB.out.set0 z)
    go_wp2_with fail
    refine (pick_any g (p + 1) 20 B _ hC.out.rdr (by omega) (by omega)).mono ?_
    rintro e w3 ⟨r, rfl, d0, d1, R3, g3⟩
    have hD := hid (hC.out.kept R3 g3)
    clear q0 y0 hB hC R3 g3 d1
    have k0 := hD.out.r0
    have k1 := hD.out.r1
    have k2 := hD.out.v0
    have k3 := hD.out.v1
    have j0 := hD.out.f0
    have j1 := hD.out.f1
    have j2 := hD.out.f2
    by_cases hr : r = 0
    · subst hr
      have e0 : (((w3.setCell ⟨w.heap.size + 1, 0, none⟩ (.int .i64 1)).setCell ⟨w.heap.size, 0, none⟩ (.int .i64 1)).setCell ⟨w.heap.size, 1, none⟩ (.slice none 0 0)).cell? ⟨w.heap.size, 0, none⟩ = some (.int .i64 1) := by go_cell
      have e1 : (((w3.setCell ⟨w.heap.size + 1, 0, none⟩ (.int .i64 1)).setCell ⟨w.heap.size, 0, none⟩ (.int .i64 1)).setCell ⟨w.heap.size, 1, none⟩ (.slice none 0 0)).cell? ⟨w.heap.size, 1, none⟩ = some (.slice none 0 0) := by go_cell
      have HG := hid (grown_set_new (grown_set_new (grown_set_new hD.out.grown (a := ⟨w.heap.size + 1, 0, none⟩) (by show w.heap.size ≤ w.heap.size + 1; omega) (.int .i64 1)) (a := ⟨w.heap.size, 0, none⟩) (Nat.le_refl _) (.int .i64 1)) (a := ⟨w.heap.size, 1, none⟩) (Nat.le_refl _) (.slice none 0 0))
      have HR := hid (((hD.out.rdr.setFar (a := ⟨w.heap.size + 1, 0, none⟩) (by show B ≤ w.heap.size + 1; omega) (by show ¬ w.heap.size + 1 = g; omega) (.int .i64 1)).setFar (a := ⟨w.heap.size, 0, none⟩) (by show B ≤ w.heap.size; omega) (by show ¬ w.heap.size = g; omega) (.int .i64 1)).setFar (a := ⟨w.heap.size, 1, none⟩) (by show B ≤ w.heap.size; omega) (by show ¬ w.heap.size = g; omega) (.slice none 0 0))
      go_wp2
      refine bodyPost_ret (v := .agg #[.int .i64 1, .slice none 0 0]) (by simp [results, Tryz.results52, go_sem, e0, e1]) rfl ⟨_, _, _, rfl, (show World.ownsRow _ _ _ _ _ _ _ from World.ownsRow_nil _ _ _ _ : Own _ _ _ []), by simp, (fun x hx => by cases hx), by omega, HG.out, _, by omega, HR.out⟩
    · have hr' : (r == 0) = false := by simpa using hr
      clear hr
      have e0 : ((w3.setCell ⟨w.heap.size, 0, none⟩ (.int .i64 z)).setCell ⟨w.heap.size, 1, none⟩ (.slice none 0 0)).cell? ⟨w.heap.size, 0, none⟩ = some (.int .i64 z) := by go_cell
      have e1 : ((w3.setCell ⟨w.heap.size, 0, none⟩ (.int .i64 z)).setCell ⟨w.heap.size, 1, none⟩ (.slice none 0 0)).cell? ⟨w.heap.size, 1, none⟩ = some (.slice none 0 0) := by go_cell
      have HG := hid (grown_set_new (grown_set_new hD.out.grown (a := ⟨w.heap.size, 0, none⟩) (Nat.le_refl _) (.int .i64 z)) (a := ⟨w.heap.size, 1, none⟩) (Nat.le_refl _) (.slice none 0 0))
      have HR := hid ((hD.out.rdr.setFar (a := ⟨w.heap.size, 0, none⟩) (by show B ≤ w.heap.size; omega) (by show ¬ w.heap.size = g; omega) (.int .i64 z)).setFar (a := ⟨w.heap.size, 1, none⟩) (by show B ≤ w.heap.size; omega) (by show ¬ w.heap.size = g; omega) (.slice none 0 0))
      go_wp2
      refine bodyPost_ret (v := .agg #[.int .i64 z, .slice none 0 0]) (by simp [results, Tryz.results52, go_sem, e0, e1]) rfl ⟨_, _, _, rfl, (show World.ownsRow _ _ _ _ _ _ _ from World.ownsRow_nil _ _ _ _ : Own _ _ _ []), by simp, (fun x hx => by cases hx), hz, HG.out, _, by omega, HR.out⟩
  | false =>
    go_wp2_with fail
    refine (l1List_any g p B _ hT.out.rdr (by omega)).mono ?_
    rintro e w2 ⟨u, l, q, rfl, L, hl, hq0, hq1, hbd⟩
    obtain ⟨uo, uc, hu, _⟩ := L.1.rd
    subst hu
    have hB := hid (hT.out.kept L.2.1 L.2.2.1)
    have hWs := hT.out.size
    have hO := hid L.1
    have hne := hid L.ne
    clear q0 q1 y0 y1 L
    have q1 := hB.out.v1
    have y1 := hB.out.f3
    have hC := hid (hB.out.set1 uo l.length uc)
    have hO2 := hid (hO.out.apartSet2 (p := ⟨w.heap.size + 1, 1, none⟩) (by show w.heap.size + 1 < _; omega) (.slice uo l.length uc))
    go_wp2_with fail
    refine (pick_any g q 20 B _ hC.out.rdr (by omega) (by omega)).mono ?_
    rintro e w3 ⟨r, rfl, d0, d1, R3, g3⟩
    have hD := hid (hC.out.kept R3 g3)
    have hO3 := hid (Own.mono (World.ownsRow.kept hO2.out g3 hne.out) (B' := w.heap.size + 2) (by omega))
    clear q1 y1 hB hC R3 g3 d1 hO hO2
    have k0 := hD.out.r0
    have k1 := hD.out.r1
    have k2 := hD.out.v0
    have k3 := hD.out.v1
    have j0 := hD.out.f0
    have j1 := hD.out.f1
    have j2 := hD.out.f2
    by_cases hr : r = 0
    · subst hr
      have e0 : (((w3.setCell ⟨w.heap.size + 1, 0, none⟩ (.int .i64 1)).setCell ⟨w.heap.size, 0, none⟩ (.int .i64 1)).setCell ⟨w.heap.size, 1, none⟩ (.slice uo l.length uc)).cell? ⟨w.heap.size, 0, none⟩ = some (.int .i64 1) := by go_cell
      have e1 : (((w3.setCell ⟨w.heap.size + 1, 0, none⟩ (.int .i64 1)).setCell ⟨w.heap.size, 0, none⟩ (.int .i64 1)).setCell ⟨w.heap.size, 1, none⟩ (.slice uo l.length uc)).cell? ⟨w.heap.size, 1, none⟩ = some (.slice uo l.length uc) := by go_cell
      have HG := hid (grown_set_new (grown_set_new (grown_set_new hD.out.grown (a := ⟨w.heap.size + 1, 0, none⟩) (by show w.heap.size ≤ w.heap.size + 1; omega) (.int .i64 1)) (a := ⟨w.heap.size, 0, none⟩) (Nat.le_refl _) (.int .i64 1)) (a := ⟨w.heap.size, 1, none⟩) (Nat.le_refl _) (.slice uo l.length uc))
      have HR := hid (((hD.out.rdr.setFar (a := ⟨w.heap.size + 1, 0, none⟩) (by show B ≤ w.heap.size + 1; omega) (by show ¬ w.heap.size + 1 = g; omega) (.int .i64 1)).setFar (a := ⟨w.heap.size, 0, none⟩) (by show B ≤ w.heap.size; omega) (by show ¬ w.heap.size = g; omega) (.int .i64 1)).setFar (a := ⟨w.heap.size, 1, none⟩) (by show B ≤ w.heap.size; omega) (by show ¬ w.heap.size = g; omega) (.slice uo l.length uc))
      go_wp2
      refine bodyPost_ret (v := .agg #[.int .i64 1, .slice uo l.length uc]) (by simp [results, Tryz.results52, go_sem, e0, e1]) rfl ⟨_, _, _, rfl, ((hO3.out.apartSet2 (p := ⟨w.heap.size + 1, 0, none⟩) (by show w.heap.size + 1 < _; omega) (.int .i64 1)).apartSet2 (p := ⟨w.heap.size, 0, none⟩) (by show w.heap.size < _; omega) (.int .i64 1)).apartSet2 (p := ⟨w.heap.size, 1, none⟩) (by show w.heap.size < _; omega) (.slice uo l.length uc), hl, hbd, by omega, HG.out, _, by omega, HR.out⟩
    · have hr' : (r == 0) = false := by simpa using hr
      clear hr
      have e0 : ((w3.setCell ⟨w.heap.size, 0, none⟩ (.int .i64 0)).setCell ⟨w.heap.size, 1, none⟩ (.slice uo l.length uc)).cell? ⟨w.heap.size, 0, none⟩ = some (.int .i64 0) := by go_cell
      have e1 : ((w3.setCell ⟨w.heap.size, 0, none⟩ (.int .i64 0)).setCell ⟨w.heap.size, 1, none⟩ (.slice uo l.length uc)).cell? ⟨w.heap.size, 1, none⟩ = some (.slice uo l.length uc) := by go_cell
      have HG := hid (grown_set_new (grown_set_new hD.out.grown (a := ⟨w.heap.size, 0, none⟩) (Nat.le_refl _) (.int .i64 0)) (a := ⟨w.heap.size, 1, none⟩) (Nat.le_refl _) (.slice uo l.length uc))
      have HR := hid ((hD.out.rdr.setFar (a := ⟨w.heap.size, 0, none⟩) (by show B ≤ w.heap.size; omega) (by show ¬ w.heap.size = g; omega) (.int .i64 0)).setFar (a := ⟨w.heap.size, 1, none⟩) (by show B ≤ w.heap.size; omega) (by show ¬ w.heap.size = g; omega) (.slice uo l.length uc))
      go_wp2
      refine bodyPost_ret (v := .agg #[.int .i64 0, .slice uo l.length uc]) (by simp [results, Tryz.results52, go_sem, e0, e1]) rfl ⟨_, _, _, rfl, (hO3.out.apartSet2 (p := ⟨w.heap.size, 0, none⟩) (by show w.heap.size < _; omega) (.int .i64 0)).apartSet2 (p := ⟨w.heap.size, 1, none⟩) (by show w.heap.size < _; omega) (.slice uo l.length uc), hl, hbd, by omega, HG.out, _, by omega, HR.out⟩

theorem l2Val_any (g p B : Nat) (key : Int) (w : World) (h : Rdr w B g p) (hp : p ≤ 1000000) :
    Calls Tryz.prog 52 #[.pointer (some ⟨g, 0, none⟩), .int .i64 key] w fun e w' => ∃ (n : Int) (u : Value) (l : List (Int × Int)), e = .returned (.agg #[.int .i64 n, u]) ∧ Own w' (w.heap.size + 2) u l ∧ l.length ≤ 7 ∧ BdL l ∧ (-1 ≤ n ∧ n ≤ 1000001) ∧ w.grownBy w' (some g) :=
  (l2ValR_any g p B key w h hp).mono (by rintro e w' ⟨n, u, l, h0, h1, h2, h3, h4, h5, _⟩; exact ⟨n, u, l, h0, h1, h2, h3, h4, h5⟩)

/-- A struct variable in block b, elsewhere than the reader g. -/
structure One (wr : World) (b : Nat) : Prop where
  r0 : wr.cell? ⟨b, 0, none⟩ = some (.int .i64 0)
  r1 : wr.cell? ⟨b, 1, none⟩ = some (.slice none 0 0)
  f0 : wr.frozen? ⟨b, 0, none⟩ = false
  f1 : wr.frozen? ⟨b, 1, none⟩ = false
  lt : b < wr.heap.size
theorem One.kept {wr w' : World} {b g : Nat} (h : One wr b) (hg : wr.grownBy w' (some g)) (hne : b ≠ g) : One w' b :=
  ⟨hg.cell h.r0 (fun e => hne (Option.some.inj e)), hg.cell h.r1 (fun e => hne (Option.some.inj e)), (hg.frozen_far ⟨b, 0, none⟩ h.lt (fun e => hne (Option.some.inj e))).trans h.f0,
    (hg.frozen_far ⟨b, 1, none⟩ h.lt (fun e => hne (Option.some.inj e))).trans h.f1, Nat.lt_of_lt_of_le h.lt hg.size⟩
theorem One.below {wr w' : World} {b : Nat} (h : One wr b) (hb : Below wr.heap.size wr w') : One w' b :=
  ⟨(hb.cell (p := ⟨b, 0, none⟩) h.lt).trans h.r0, (hb.cell (p := ⟨b, 1, none⟩) h.lt).trans h.r1, (hb.frozen (p := ⟨b, 0, none⟩) h.lt).trans h.f0, (hb.frozen (p := ⟨b, 1, none⟩) h.lt).trans h.f1, Nat.lt_of_lt_of_le h.lt hb.size⟩
theorem One.new (w : World) : One (w.alloc (.cells #[.int .i64 0, .slice none 0 0] 35)) w.heap.size := ⟨by go_cell, by go_cell, by (first | go_cell | (simp [World.frozen?, World.alloc]; done) | rfl), by (first | go_cell | (simp [World.frozen?, World.alloc]; done) | rfl), by simp⟩

set_option maxRecDepth 100000 in
set_option maxHeartbeats 2000000 in
theorem drawValOk_any (v : Value) (n : Nat) (w : World) (h : Bs w v n) :
    Calls Tryz.prog 44 #[v] w fun e w' => ∃ (k z : Int) (u : Value) (l : List (Int × Int)), e = .returned (.tuple #[.int .i64 k, .agg #[.int .i64 z, u]]) ∧ Own w' w.heap.size u l ∧ l.length ≤ 7 ∧ BdL l ∧ (-1 ≤ z ∧ z ≤ 1000001) ∧ Below w.heap.size w w' := by
  have hOne := hid (One.new w)
  have hW0 := hid (show Below w.heap.size w (w.alloc (.cells #[.int .i64 0, .slice none 0 0] 35)) from by go_grown)
  have hWs : w.heap.size < (w.alloc (.cells #[.int .i64 0, .slice none 0 0] 35)).heap.size := by simp
  have hbs := hid (h.later hW0.out)
  obtain ⟨ao, cap, rfl, h0, h1, h2, h3⟩ := h
  go_enter Tryz.func44, Tryz.ntmps44
  go_wp2_with fail
  generalize w.alloc (.cells #[.int .i64 0, .slice none 0 0] 35) = W at hOne hW0 hWs hbs ⊢
  obtain ⟨ao', cap', hv', _, _, _, h3'⟩ := hbs.out
  cases hv'
  refine (open_any ao n cap _ h0 h1 h2 h3').mono ?_
  rintro e w1 ⟨g, rfl, R1, b1⟩
  have hne : w.heap.size ≠ g := by have := R1.1; omega
  have hA := hid (hOne.out.below b1)
  have c1 := hW0.out.trans (b1.mono hW0.out.size)
  go_wp2_with fail
  refine (l2Key_any g 0 _ _ R1 (by omega)).mono ?_
  rintro e w2 ⟨k, rfl, _, ⟨q, _, hq, R2⟩, g2⟩
  have hB := hid (hA.out.kept g2 hne)
  have hgB := R1.1
  have c2 : Below w.heap.size w w2 := c1.grown g2 c1.size (fun j e => by have : g = j := Option.some.inj e; omega)
  clear hA g2 b1
  go_wp2_with fail
  refine (l2Val_any g q _ k _ R2 (by omega)).mono ?_
  rintro e w3 ⟨z, u, l, rfl, ho, hl, hbd, hz, g3⟩
  have hC := hid (hB.out.kept g3 hne)
  have c3 : Below w.heap.size w w3 := c2.grown g3 c2.size (fun j e => by have : g = j := Option.some.inj e; omega)
  obtain ⟨uo, uc, hu, _⟩ := ho.rd
  subst hu
  have hB2 := hid (hB.out.lt)
  have HO := hid ho
  clear hB g3 ho
  have k0 := hC.out.r0
  have k1 := hC.out.r1
  have j0 := hC.out.f0
  have j1 := hC.out.f1
  have e0 : ((w3.setCell ⟨w.heap.size, 0, none⟩ (.int .i64 z)).setCell ⟨w.heap.size, 1, none⟩ (.slice uo l.length uc)).cell? ⟨w.heap.size, 0, none⟩ = some (.int .i64 z) := by go_cell
  have e1 : ((w3.setCell ⟨w.heap.size, 0, none⟩ (.int .i64 z)).setCell ⟨w.heap.size, 1, none⟩ (.slice uo l.length uc)).cell? ⟨w.heap.size, 1, none⟩ = some (.slice uo l.length uc) := by go_cell
  have HF := hid (((HO.out.apartSet2 (p := ⟨w.heap.size, 0, none⟩) (by have := hB2.out; show w.heap.size < _; omega) (.int .i64 z)).apartSet2 (p := ⟨w.heap.size, 1, none⟩) (by have := hB2.out; show w.heap.size < _; omega) (.slice uo l.length uc)).mono (B' := w.heap.size) (by have := hB2.out; omega))
  have HL := hid ((c3.setCell (p := ⟨w.heap.size, 0, none⟩) (Nat.le_refl _) (.int .i64 z)).setCell (p := ⟨w.heap.size, 1, none⟩) (Nat.le_refl _) (.slice uo l.length uc))
  go_wp2
  refine bodyPost_ret (v := .tuple #[.int .i64 k, .agg #[.int .i64 z, .slice uo l.length uc]]) (by simp [results, Tryz.results44, go_sem, e0, e1]) rfl ⟨_, _, _, _, rfl, HF.out, hl, hbd, hz, HL.out⟩
end Go.Proofs.YtdjonplcgmfmgaaGreatDoor

/- Part: The draw of a key and a text, torn or not: contract. -/
namespace Go.Proofs.YtdjonplcgmfmgaaGreatDoor
open Go.RowKit Go.Shelf
attribute [local go_sem ↓] Go.wp_at_zero Go.wp_at_succ

theorem strs_eight (w : World) (a b c d e f x y : ByteArray) (P : ByteArray → Prop) (ha : P a) (hb : P b) (hc : P c) (hd : P d) (he : P e) (hf : P f) (hx : P x) (hy : P y) : Strs (w.alloc (.cells #[.string a, .string b, .string c, .string d, .string e, .string f, .string x, .string y] 9)) w.heap.size 8 P := by
  refine ⟨by simp, fun i hi => ?_⟩
  rcases i with _ | _ | _ | _ | _ | _ | _ | _ | i
  · exact ⟨a, by go_cell, ha⟩
  · exact ⟨b, by go_cell, hb⟩
  · exact ⟨c, by go_cell, hc⟩
  · exact ⟨d, by go_cell, hd⟩
  · exact ⟨e, by go_cell, he⟩
  · exact ⟨f, by go_cell, hf⟩
  · exact ⟨x, by go_cell, hx⟩
  · exact ⟨y, by go_cell, hy⟩
  · omega

theorem vtext_len {k z : Int} {l : List (Int × Int)} (h : BdL l) (hz : -1 ≤ z ∧ z ≤ 1000001) (hl : l.length ≤ 7) : (vTextL k z l).length ≤ 400 := by
  by_cases hk : kindOf k = 0
  · rw [vText_num hk]
    have := Lib.itoa_length_le z (by omega) (by omega)
    omega
  · rw [vText_kin hk]
    have := text_len h
    omega

set_option maxRecDepth 100000 in
set_option maxHeartbeats 2000000 in
theorem drawValRead_any (v : Value) (n : Nat) (w : World) (h : Bs w v n) :
    Calls Tryz.prog 23 #[v] w fun e w' => ∃ (k : Int) (s : ByteArray), e = .returned (.tuple #[.int .i64 k, .string s]) ∧ s.size ≤ 1000 ∧ Below w.heap.size w w' := by
  obtain ⟨ao, cap, rfl, h0, h1, h2, h3⟩ := h
  go_enter Tryz.func23, Tryz.ntmps23
  go_wp2_with fail
  refine (open_any ao n cap _ h0 h1 h2 h3).mono ?_
  rintro e w1 ⟨g, rfl, R1, b1⟩
  go_wp2_with fail
  refine (l2Key_any g 0 w.heap.size _ R1 (by omega)).mono ?_
  rintro e w2 ⟨k, rfl, _, ⟨q, _, hq, R2⟩, g2⟩
  have b2 : Below w.heap.size w w2 := b1.grown g2 b1.size (fun k e => by cases e; exact R1.1)
  have HR2 := hid R2
  clear R2 g2
  go_wp2_with fail
  refine (l2ValR_any g q w.heap.size k _ HR2.out (by omega)).mono ?_
  rintro e w3 ⟨z, u, l, rfl, ho, hl, hbd, hz, g3, q3, hq3, R3⟩
  have b3 : Below w.heap.size w w3 := b2.grown g3 b2.size (fun k e => by cases e; exact R1.1)
  have HO := hid ho
  have HB := hid hbd
  have HR3 := hid R3
  clear HR2 ho hbd g3 R3
  go_wp2_with fail
  refine (specVText_any k z u l _ HO.out.rd (by omega) (bd_wf HB.out) (by omega) (by omega)).mono ?_
  rintro e w4 ⟨rfl, b4⟩
  have c4 : Below w.heap.size w w4 := b3.trans (b4.mono b3.size)
  have R4 := hid (HR3.out.later b4)
  obtain ⟨s, hs⟩ : ∃ s : ByteArray, s = ⟨(vTextL k z l).toArray⟩ := ⟨_, rfl⟩
  have hs0 : s.size = (vTextL k z l).length := by rw [hs]; rfl
  have hs2 : s.size ≤ 400 := by have := vtext_len (k := k) HB.out hz hl; omega
  rw [← hs]
  clear hs hs0 b4 HR3
  go_wp2_with fail
  refine (pick_any g q3 2 w.heap.size _ R4.out (by omega) (by omega)).mono ?_
  rintro e w5 ⟨r, rfl, _, _, R5', g5⟩
  have R5 := hid R5'
  have b5 : Below w.heap.size w w5 := c4.grown g5 c4.size (fun k e => by cases e; exact R1.1)
  clear R5' g5 R4
  by_cases hr : r = 0
  · subst hr
    go_wp2
    go_ret2
    exact ⟨k, s, rfl, by omega, b5⟩
  · have R5w := R5.out.2.1
    have c5 := b5.size
    go_wp2_with fail
    refine (of_any g (q3 + 1) w5.heap.size 8 8 w.heap.size (fun z => z.size ≤ 9) _ (R5.out.later (by go_grown)) (by omega) (by omega) (by omega) (by omega) (strs_eight w5 _ _ _ _ _ _ _ _ _ (by decide) (by decide) (by decide) (by decide) (by decide) (by decide) (by decide) (by decide))).mono ?_
    rintro e w6 ⟨z, rfl, hz, R6', g6⟩
    have b6 : Below w.heap.size w w6 := (b5.trans ((((Below.refl _ w5).alloc (Nat.le_refl _) _)).mono b5.size)).grown g6 (by simp; omega) (fun k e => by cases e; exact R1.1)
    clear R6' g6
    go_wp2
    go_ret2
    exact ⟨k, z, rfl, by have hz' : z.size ≤ 9 := hz; omega, b6⟩
end Go.Proofs.YtdjonplcgmfmgaaGreatDoor

/- Part: impl.EdgeRead: contract. -/
namespace Go.Proofs.YtdjonplcgmfmgaaGreatDoor
open Go.RowKit Go.Shelf

/-- What the library reads besides memory: its table, its errors, its number. -/
structure Lib4 (w : World) : Prop where
  tab : Tab w
  err : ErrVars w
  max : MaxVar w
theorem Lib4.below {w w' : World} (h : Lib4 w) (hb : Below w.heap.size w w') : Lib4 w' := ⟨h.tab.below hb, h.err.below hb, h.max.below hb⟩

/-- What impl.EdgeRead answers: what is read, in memory of its own. -/
def ReadO (s : List UInt8) (B : Nat) (w : World) (e : Ending) : Prop := ∃ v l b, e = .returned (.tuple #[v, .bool b]) ∧ Own w B v l ∧ ReadR s l b
theorem toList_same (a : List UInt8) (s : ByteArray) : ((⟨a.toArray⟩ : ByteArray).toList = s.toList) = (a = s.data.toList) := by
  rw [ByteArray.toList_eq, ByteArray.toList_eq]

theorem readR_length {s : List UInt8} {l : List (Int × Int)} {b : Bool} (h : ReadR s l b) : l.length ≤ 200 := by
  rcases h with ⟨_, _, h1, h2⟩ | ⟨_, rfl, _⟩
  · have hl : ∀ m : List (Int × Int), m.length ≤ (innerL m).length := by
      intro m
      induction m with
      | nil => simp
      | cons e r ih =>
        cases r with
        | nil => unfold innerL; simp [edgeT, Lib.join_cons, Lib.joinTail]; omega
        | cons y r =>
          unfold innerL at ih ⊢
          rw [List.map_cons, Lib.join_cons] at ih ⊢
          rw [List.map_cons, joinTail_cons]
          simp only [List.length_cons, List.length_append] at ih ⊢
          omega
    have := hl l
    rw [← h1, textL] at h2
    simp at h2
    omega
  · simp

/-- What read in an elder world reads on while all below its end stays. -/
theorem Rd.before {B : Nat} {w0 w w' : World} {v : Value} {l : List (Int × Int)} (h0 : Rd w0 v l) (h : Rd w v l) (hB : w0.heap.size ≤ B) (hb : Below B w w') : Rd w' v l := by
  obtain ⟨ao, cap, hv, hl, hc⟩ := h
  obtain ⟨ao', cap', hv', _, hc'⟩ := h0
  subst hv
  cases hv'
  refine ⟨_, _, rfl, hl, fun h1 => ?_⟩
  obtain ⟨b, off, ha, hlt, hcc⟩ := hc h1
  obtain ⟨b', off', ha', hlt', _⟩ := hc' h1
  subst ha
  cases ha'
  refine ⟨_, _, rfl, Nat.lt_of_lt_of_le hlt hb.size, fun i hi => ?_⟩
  obtain ⟨c0, c1⟩ := hcc i hi
  exact ⟨(hb.cell (p := ⟨b, off + i * 2, none⟩) (by show b < B; omega)).trans c0, (hb.cell (p := ⟨b, off + i * 2 + 1, none⟩) (by show b < B; omega)).trans c1⟩


theorem wf_ok {l : List (Int × Int)} (h : okL l = true) : WfL l := by
  intro i hi
  obtain ⟨h0, h1, h2, h3⟩ := rightB_iff.1 (okR h (l.getD i (0, 0)) (by simp [hi]))
  omega

set_option maxRecDepth 100000 in
set_option maxHeartbeats 2000000 in
theorem implRead_any (s : ByteArray) (w : World) (hs : s.size ≤ 1048576) (hL : Lib4 w) :
    Calls Tryz.prog 11 #[.string s] w fun e w' => ReadO s.data.toList w.heap.size w' e ∧ Below w.heap.size w w' := by
  have hsl : s.data.toList.length = s.size := rfl
  by_cases h200 : s.size ≤ 200
  · have HL := hid hL
    clear hL
    go_enter Tryz.func11, Tryz.ntmps11
    go_wp2_with fail
    refine (readEdges_any s w h200 HL.out.err HL.out.max).mono ?_
    rintro e w1 ⟨⟨v, l, b, rfl, ho, hlen, hm⟩, b1⟩
    have HM := hid hm
    have HO := hid ho
    have HB1 := hid b1
    clear hm ho b1
    cases b with
    | false =>
      have HN : Hid (ReadR s.data.toList [] false) := hidT (Or.inr ⟨rfl, rfl, fun m h1 h2 => by cases (HM.out m h1 h2).1⟩)
      go_wp2
      go_ret2
      exact ⟨⟨_, [], false, by simp, World.ownsRow_nil _ _ _ _, HN.out⟩, HB1.out⟩
    | true =>
      cases hok : okL l with
      | false =>
        have HN : Hid (ReadR s.data.toList [] false) := hidT (Or.inr ⟨rfl, rfl, fun m h1 h2 => by rw [(HM.out m h1 h2).2, h1] at hok; cases hok⟩)
        go_wp2_with fail
        refine (implOk_any v l _ HO.out.rd).mono ?_
        rintro e w2 ⟨rfl, b2⟩
        rw [hok]
        have c2 := HB1.out.trans (b2.mono HB1.out.size)
        go_wp2
        go_ret2
        exact ⟨⟨_, [], false, by simp, World.ownsRow_nil _ _ _ _, HN.out⟩, c2⟩
      | true =>
        go_wp2_with fail
        refine (implOk_any v l _ HO.out.rd).mono ?_
        rintro e w2 ⟨rfl, b2⟩
        rw [hok]
        have c2 := HB1.out.trans (b2.mono HB1.out.size)
        have HO2 := hid (HO.out.later b2)
        go_wp2_with fail
        refine (implText_any v l _ HO2.out.rd (by omega) (wf_ok hok) (HL.out.tab.below c2)).mono ?_
        rintro e w3 ⟨rfl, b3⟩
        have c3 := c2.trans (b3.mono c2.size)
        have HO3 := hid (HO2.out.later b3)
        by_cases hE : textL l = s.data.toList
        · have HN : Hid (ReadR s.data.toList l true) := hidT (Or.inl ⟨rfl, hok, hE, by omega⟩)
          have hEq : ((⟨(textL l).toArray⟩ : ByteArray).toList = s.toList) := by rw [toList_same]; exact hE
          have HE := hid hEq
          obtain ⟨vo, vc, hvv, _⟩ := HO3.out.rd
          subst hvv
          generalize (⟨(textL l).toArray⟩ : ByteArray) = q at hEq ⊢
          go_wp2
          go_ret2
          exact ⟨⟨_, l, true, by simp, HO3.out, HN.out⟩, c3⟩
        · have HN : Hid (ReadR s.data.toList [] false) := hidT (Or.inr ⟨rfl, rfl, fun m h1 h2 => by exact (hE (by rw [(HM.out m h1 h2).2]; exact h2)).elim⟩)
          have hEq : (((⟨(textL l).toArray⟩ : ByteArray).toList == s.toList)) = false := by rw [beq_eq_false_iff_ne, ne_eq, toList_same]; exact hE
          generalize (⟨(textL l).toArray⟩ : ByteArray) = q at hEq ⊢
          clear hE
          go_wp2
          go_ret2
          exact ⟨⟨_, [], false, by simp, World.ownsRow_nil _ _ _ _, HN.out⟩, c3⟩
  · have HN : Hid (ReadR s.data.toList [] false) := hidT (Or.inr ⟨rfl, rfl, fun m h1 h2 => by omega⟩)
    have h2 : 200 < s.size := by omega
    clear h200
    go_enter Tryz.func11, Tryz.ntmps11
    go_wp2
    go_ret2
    exact ⟨⟨_, [], false, by simp, World.ownsRow_nil _ _ _ _, HN.out⟩, Below.refl _ _⟩
end Go.Proofs.YtdjonplcgmfmgaaGreatDoor

/- Part: spec.EdgeRead: contract, whole. -/
namespace Go.Proofs.YtdjonplcgmfmgaaGreatDoor
open Go.RowKit Go.Shelf

set_option maxRecDepth 10000 in
set_option maxHeartbeats 2000000 in
theorem specRead_two (s : ByteArray) (w : World) (h0 : 2 ≤ s.size) (h1 : ¬ 2 < s.size) (hc : (s[0].toNat : Int) = 40) (hd : (s[s.size - 1].toNat : Int) = 41) :
    Calls Tryz.prog 13 #[.string s] w fun e w' => ReadP s.data.toList w.heap.size w' e ∧ Below w.heap.size w w' := by
  obtain ⟨t, ht⟩ : ∃ t, s.extract 1 (s.size - 1) = t := ⟨_, rfl⟩
  have hts : t.size ≤ 200 := by rw [← ht, ByteArray.size_extract]; omega
  have hs : s.size ≤ 200 := by omega
  have hsT : Hid (s.data.toList = textL []) := hidT (by
    have h : s.size = 2 := by omega
    have h1 : s.data.toList.length = 2 := h
    refine List.ext_getElem (by rw [h1]; decide) (fun i i1 i2 => ?_)
    have h3 : i = 0 ∨ i = 1 := by omega
    rcases h3 with rfl | rfl
    · have e : s.data.toList[0] = s[0] := rfl
      rw [e]
      exact u8_eq (by rw [hc]; rfl)
    · have e : s.data.toList[1] = s[1]'(by omega) := rfl
      have e2 : s[1]'(by omega) = s[s.size - 1] := by simp only [h]
      rw [e, e2]
      exact u8_eq (by rw [hd]; rfl))
  obtain ⟨P, hP⟩ : ∃ P, cutL 32 t.data.toList = P := ⟨_, rfl⟩
  have hP0 : 0 < P.length := by rw [← hP]; exact cut_some _ _
  have hP1 : P.length ≤ 201 := by rw [← hP]; have := cut_many 32 t.data.toList; have e : t.data.toList.length = t.size := rfl; omega
  have g0 : decide ((s.size : Int) < 2) = false := decide_eq_false (by omega)
  have g1 : decide (200 < (s.size : Int)) = false := decide_eq_false (by omega)
  have g2 : decide (2 < (s.size : Int)) = false := decide_eq_false (by omega)
  have e1 : ((s.size : Int) - 1) = ((s.size - 1 : Nat) : Int) := by omega
  go_enter Tryz.func13, Tryz.ntmps13
  go_wp2_with fail
  have hcut := cut_any t 32 (w.alloc (.cells #[] 53)) (by omega)
  rw [hP, show (((32 : UInt8).toNat : Nat) : Int) = 32 from rfl] at hcut
  refine hcut.mono ?_
  rintro e w1 ⟨v, rfl, row, b1⟩
  obtain ⟨g, cp, rfl, hg, L1⟩ := lies_row row hP0
  clear hcut row L1 hg
  have hbw : Below w.heap.size w w1 := ((Below.refl _ w).alloc (Nat.le_refl _) (.cells #[] 53)).trans (b1.mono (by simp))
  have row0 : w1.ownsRow w.heap.size 53 2 (.slice (some ⟨w.heap.size, 0, none⟩) 0 0) 0 (ecells []) := row_later (World.ownsRow_lit w #[] 0 (Nat.le_refl _) (Nat.zero_le _) rfl) b1
  have hown : Own w1 w.heap.size (.slice (some ⟨w.heap.size, 0, none⟩) 0 0) [] := row0
  have HO := hid hown
  clear hown row0 b1
  have hsz := hbw.size
  go_wp2_with fail
  go_loopw [5, 7] (fun u i wr => u = .slice (some ⟨w.heap.size, 0, none⟩) 0 0 ∧ i = .int .i64 0 ∧ wr = w1) (fun _ _ _ => 0)
  case atStart => exact ⟨rfl, rfl, rfl⟩
  case round =>
    obtain ⟨rfl, rfl, rfl⟩ := hrel
    go_wp2_with fail
    refine (specOk_any _ [] _ HO.out.rd).mono ?_
    rintro e w2 ⟨rfl, b2⟩
    rw [show okL [] = true from rfl]
    go_wp2_with fail
    refine (specText_any _ [] _ (HO.out.rd.later b2) (by decide) (small_wf (fun x hx => by cases hx))).mono ?_
    rintro e w3 ⟨rfl, b3⟩
    have hb2 := b2.mono hsz
    have hb3 := b3.mono (Nat.le_trans hsz b2.size)
    rw [show (⟨(textL []).toArray⟩ : ByteArray) = s from (bytes_eq hsT.out).symm]
    go_wp2
    go_ret2
    exact ⟨⟨_, [], true, by simp, (HO.out.rd.later b2).later b3, Or.inl ⟨rfl, rfl, hsT.out.symm, hs⟩, fun k hk => (HO.out.block k hk).1⟩, (hbw.trans hb2).trans hb3⟩

/-- What spec.EdgeRead answers. -/
theorem specRead_any (s : ByteArray) (w : World) (hs : s.size ≤ 1048576) :
    Calls Tryz.prog 13 #[.string s] w fun e w' => ReadP s.data.toList w.heap.size w' e ∧ Below w.heap.size w w' := by
  by_cases h2 : s.size < 2
  · exact specRead_short s w h2
  by_cases h3 : 200 < s.size
  · exact specRead_long s w h3 hs
  by_cases hc : (s[0].toNat : Int) = 40
  · by_cases hd : (s[s.size - 1].toNat : Int) = 41
    · by_cases h4 : 2 < s.size
      · exact specRead_main s w h4 (by omega) hc hd
      · exact specRead_two s w (by omega) h4 hc hd
    · exact specRead_last s w (by omega) (by omega) hc hd
  · exact specRead_first s w (by omega) (by omega) hc
end Go.Proofs.YtdjonplcgmfmgaaGreatDoor

/- Part: What a key can have that is read from a text: plain; spec.ValRead: contract. -/
namespace Go.Proofs.YtdjonplcgmfmgaaGreatDoor
open Go.RowKit Go.Shelf
attribute [local go_sem ↓] Go.wp_at_zero Go.wp_at_succ

/-- What is read of a text for a key. -/
def ValR (k : Int) (s : List UInt8) (n : Int) (l : List (Int × Int)) (b : Bool) : Prop :=
  (kindOf k = 0 ∧ l = [] ∧ ((b = true ∧ 0 ≤ n ∧ n ≤ 1000000 ∧ s = Lib.itoa n) ∨ (b = false ∧ n = 0 ∧ ∀ m : Int, 0 ≤ m → m ≤ 1000000 → s = Lib.itoa m → False))) ∨
  (0 < kindOf k ∧ n = 0 ∧ ReadR s l b) ∨ (kindOf k < 0 ∧ n = 0 ∧ l = [] ∧ b = false)
theorem ValR.unique {k : Int} {s : List UInt8} {n m : Int} {l u : List (Int × Int)} {b c : Bool} (h : ValR k s n l b) (h' : ValR k s m u c) : n = m ∧ l = u ∧ b = c := by
  rcases h with ⟨hk, hl, h⟩ | ⟨hk, hn, h⟩ | ⟨hk, hn, hl, hb⟩ <;> rcases h' with ⟨hk', hl', h'⟩ | ⟨hk', hn', h'⟩ | ⟨hk', hn', hl', hb'⟩
  · subst hl hl'
    rcases h with ⟨rfl, h0, h1, h2⟩ | ⟨rfl, rfl, h2⟩ <;> rcases h' with ⟨rfl, k0, k1, k2⟩ | ⟨rfl, rfl, k2⟩
    · exact ⟨itoa_inj h0 k0 (h2.symm.trans k2), rfl, rfl⟩
    · exact (k2 _ h0 h1 h2).elim
    · exact (h2 _ k0 k1 k2).elim
    · exact ⟨rfl, rfl, rfl⟩
  · omega
  · omega
  · omega
  · obtain ⟨e1, e2⟩ := h.unique h'
    exact ⟨by rw [hn, hn'], e1, e2⟩
  · omega
  · omega
  · omega
  · exact ⟨by rw [hn, hn'], by rw [hl, hl'], by rw [hb, hb']⟩
theorem kind_ways (k : Int) : kindOf k = 0 ∨ kindOf k = 1 ∨ kindOf k = 2 ∨ kindOf k = -1 := by
  by_cases h : 0 ≤ k ∧ k < 24
  · rw [kindOf_in h.1 h.2]; omega
  · rw [kindOf_out h]; omega
theorem key_in_of {k : Int} (h : 0 ≤ kindOf k) : 0 ≤ k ∧ k < 24 := by
  by_cases h' : 0 ≤ k ∧ k < 24
  · exact h'
  · rw [kindOf_out h'] at h; omega
theorem okV_thing {k n : Int} (h : kindOf k = 0) : okV k n [] = decide (0 ≤ n ∧ n ≤ 1000000) := by
  obtain ⟨h0, h1⟩ := key_in_of (k := k) (by omega)
  rw [kindOf_in h0 h1] at h
  rw [okV, if_pos ⟨h0, h1⟩, if_pos h]
  simp
theorem okV_kin0 {k : Int} {l : List (Int × Int)} (h : 0 < kindOf k) : okV k 0 l = okL l := by
  obtain ⟨h0, h1⟩ := key_in_of (k := k) (by omega)
  rw [kindOf_in h0 h1] at h
  rw [okV_kin h0 h1 (by omega)]; simp
/-- The spec's answer. -/
def ValP (k : Int) (s : List UInt8) (w : World) (e : Ending) : Prop := ∃ n v l b, e = .returned (.tuple #[.agg #[.int .i64 n, v], .bool b]) ∧ Rd w v l ∧ ValR k s n l b ∧ l.length ≤ 200
theorem valP_no {k : Int} {s : List UInt8} {w : World} (h : ValR k s 0 [] false) : ValP k s w (.returned (.tuple #[.agg #[.int .i64 0, .slice none 0 0], .bool false])) :=
  ⟨0, _, [], false, rfl, Rd.nil _ _ _, h, by simp⟩

set_option maxRecDepth 100000 in
set_option maxHeartbeats 2000000 in
theorem specVRead_thing (k : Int) (s : ByteArray) (w : World) (hs : s.size ≤ 1048576) (hk : kindOf k = 0) :
    Calls Tryz.prog 24 #[.int .i64 k, .string s] w fun e w' => ValP k s.data.toList w' e ∧ Below w.heap.size w w' := by
  have HK := hid hk
  clear hk
  go_enter Tryz.func24, Tryz.ntmps24
  go_wp2_with fail
  have r0_1 : ((w.alloc (.cells #[.int .i64 0, .slice none 0 0] 35)).alloc (.cells #[.int .i64 0, .slice none 0 0] 35)).cell? ⟨w.heap.size, 0, none⟩ = some (.int .i64 0) := by go_cell
  have rf0_1 : ((w.alloc (.cells #[.int .i64 0, .slice none 0 0] 35)).alloc (.cells #[.int .i64 0, .slice none 0 0] 35)).frozen? ⟨w.heap.size, 0, none⟩ = false := by (first | go_cell | (simp [World.frozen?, World.alloc]; done) | rfl)
  have r1_1 : ((w.alloc (.cells #[.int .i64 0, .slice none 0 0] 35)).alloc (.cells #[.int .i64 0, .slice none 0 0] 35)).cell? ⟨w.heap.size, 1, none⟩ = some (.slice none 0 0) := by go_cell
  have rf1_1 : ((w.alloc (.cells #[.int .i64 0, .slice none 0 0] 35)).alloc (.cells #[.int .i64 0, .slice none 0 0] 35)).frozen? ⟨w.heap.size, 1, none⟩ = false := by (first | go_cell | (simp [World.frozen?, World.alloc]; done) | rfl)
  have rl_1 : w.heap.size < ((w.alloc (.cells #[.int .i64 0, .slice none 0 0] 35)).alloc (.cells #[.int .i64 0, .slice none 0 0] 35)).heap.size := by first | (simp; done) | (simp; omega)
  have v0_1 : ((w.alloc (.cells #[.int .i64 0, .slice none 0 0] 35)).alloc (.cells #[.int .i64 0, .slice none 0 0] 35)).cell? ⟨w.heap.size + 1, 0, none⟩ = some (.int .i64 0) := by go_cell
  have vf0_1 : ((w.alloc (.cells #[.int .i64 0, .slice none 0 0] 35)).alloc (.cells #[.int .i64 0, .slice none 0 0] 35)).frozen? ⟨w.heap.size + 1, 0, none⟩ = false := by (first | go_cell | (simp [World.frozen?, World.alloc]; done) | rfl)
  have v1_1 : ((w.alloc (.cells #[.int .i64 0, .slice none 0 0] 35)).alloc (.cells #[.int .i64 0, .slice none 0 0] 35)).cell? ⟨w.heap.size + 1, 1, none⟩ = some (.slice none 0 0) := by go_cell
  have vf1_1 : ((w.alloc (.cells #[.int .i64 0, .slice none 0 0] 35)).alloc (.cells #[.int .i64 0, .slice none 0 0] 35)).frozen? ⟨w.heap.size + 1, 1, none⟩ = false := by (first | go_cell | (simp [World.frozen?, World.alloc]; done) | rfl)
  have vl_1 : w.heap.size + 1 < ((w.alloc (.cells #[.int .i64 0, .slice none 0 0] 35)).alloc (.cells #[.int .i64 0, .slice none 0 0] 35)).heap.size := by first | (simp; done) | (simp; omega)
  have c1 : Below w.heap.size w ((w.alloc (.cells #[.int .i64 0, .slice none 0 0] 35)).alloc (.cells #[.int .i64 0, .slice none 0 0] 35)) := by go_grown
  have s1 : ((w.alloc (.cells #[.int .i64 0, .slice none 0 0] 35)).alloc (.cells #[.int .i64 0, .slice none 0 0] 35)).heap.size = w.heap.size + 2 := by simp
  generalize ((w.alloc (.cells #[.int .i64 0, .slice none 0 0] 35)).alloc (.cells #[.int .i64 0, .slice none 0 0] 35)) = w1 at r0_1 rf0_1 r1_1 rf1_1 rl_1 v0_1 vf0_1 v1_1 vf1_1 vl_1 c1 s1 ⊢
  have qr0_1 := cell_regrown r0_1
  have qr1_1 := cell_regrown r1_1
  have qv0_1 := cell_regrown v0_1
  have qv1_1 := cell_regrown v1_1
  refine (specKind_any k _).mono ?_
  rintro e w1 ⟨rfl, rfl⟩
  rw [HK.out]
  go_wp2_with fail
  refine (specKind_any k _).mono ?_
  rintro e w1 ⟨rfl, rfl⟩
  rw [HK.out]
  go_wp2_with fail
  refine (numRead_any s _ hs).mono ?_
  rintro e w1 ⟨⟨n, b, rfl, n0, n1, hc, hso⟩, rfl⟩
  have HC := hid hc
  have HS := hid hso
  clear hc hso
  cases b with
  | false =>
    have HN : Hid (ValR k s.data.toList 0 [] false) := hidT (Or.inl ⟨HK.out, rfl, Or.inr ⟨rfl, rfl, fun m h0 h1 he => by cases (HC.out m (by omega) (by omega) he).2⟩⟩)
    go_wp2
    refine bodyPost_ret (v := .tuple #[.agg #[.int .i64 0, .slice none 0 0], .bool false]) (by simp [results, Tryz.results24, go_sem, r0_1, r1_1]) rfl ⟨valP_no HN.out, by go_grown⟩
  | true =>
    have hE := HS.out rfl
    by_cases hn : 0 ≤ n ∧ n ≤ 1000000
    · have HN : Hid (ValR k s.data.toList n [] true) := hidT (Or.inl ⟨HK.out, rfl, Or.inl ⟨rfl, hn.1, hn.2, hE⟩⟩)
      have ho : okV k n [] = true := by rw [okV_thing HK.out]; exact decide_eq_true hn
      clear hn hE
      go_wp2_with fail
      refine (specOkV_any k n _ [] _ (Rd.nil _ none 0)).mono ?_
      rintro e w4 ⟨rfl, b4⟩
      rw [ho]
      have c4 : Below w.heap.size w w4 := (c1.setCell (p := ⟨w.heap.size + 1, 0, none⟩) (by show w.heap.size ≤ w.heap.size + 1; omega) (.int .i64 n)).trans (b4.mono (by simp; exact c1.size))
      have r0_4 : w4.cell? ⟨w.heap.size, 0, none⟩ = some (.int .i64 0) := (by rw [b4.cell (by first | omega | (simp; done) | (simp; omega))]; go_cell)
      have rf0_4 : w4.frozen? ⟨w.heap.size, 0, none⟩ = false := (by rw [b4.frozen (by first | omega | (simp; done) | (simp; omega))]; (first | go_cell | (simp [World.frozen?, World.alloc]; done) | rfl))
      have r1_4 : w4.cell? ⟨w.heap.size, 1, none⟩ = some (.slice none 0 0) := (by rw [b4.cell (by first | omega | (simp; done) | (simp; omega))]; go_cell)
      have rf1_4 : w4.frozen? ⟨w.heap.size, 1, none⟩ = false := (by rw [b4.frozen (by first | omega | (simp; done) | (simp; omega))]; (first | go_cell | (simp [World.frozen?, World.alloc]; done) | rfl))
      have rl_4 : w.heap.size < w4.heap.size := (by have := b4.size; first | omega | (revert this; simp; done) | (revert this; simp; omega))
      have v0_4 : w4.cell? ⟨w.heap.size + 1, 0, none⟩ = some (.int .i64 n) := (by rw [b4.cell (by first | omega | (simp; done) | (simp; omega))]; go_cell)
      have v1_4 : w4.cell? ⟨w.heap.size + 1, 1, none⟩ = some (.slice none 0 0) := (by rw [b4.cell (by first | omega | (simp; done) | (simp; omega))]; go_cell)
      have vl_4 : w.heap.size + 1 < w4.heap.size := (by have := b4.size; first | omega | (revert this; simp; done) | (revert this; simp; omega))
      clear b4
      go_wp2
      refine bodyPost_ret (v := .tuple #[.agg #[.int .i64 n, .slice none 0 0], .bool true]) (by simp [results, Tryz.results24, go_sem, r0_4, r1_4]) rfl ⟨⟨n, _, [], true, rfl, Rd.nil _ none 0, HN.out, by simp⟩, by go_grown⟩
    · have ho : okV k n [] = false := by rw [okV_thing HK.out]; exact decide_eq_false hn
      have HN : Hid (ValR k s.data.toList 0 [] false) := hidT (Or.inl ⟨HK.out, rfl, Or.inr ⟨rfl, rfl, fun m h0 h1 he => by
        have := (HC.out m (by omega) (by omega) he).1
        omega⟩⟩)
      clear hn hE
      go_wp2_with fail
      refine (specOkV_any k n _ [] _ (Rd.nil _ none 0)).mono ?_
      rintro e w4 ⟨rfl, b4⟩
      rw [ho]
      have c4 : Below w.heap.size w w4 := (c1.setCell (p := ⟨w.heap.size + 1, 0, none⟩) (by show w.heap.size ≤ w.heap.size + 1; omega) (.int .i64 n)).trans (b4.mono (by simp; exact c1.size))
      have r0_4 : w4.cell? ⟨w.heap.size, 0, none⟩ = some (.int .i64 0) := (by rw [b4.cell (by first | omega | (simp; done) | (simp; omega))]; go_cell)
      have rf0_4 : w4.frozen? ⟨w.heap.size, 0, none⟩ = false := (by rw [b4.frozen (by first | omega | (simp; done) | (simp; omega))]; (first | go_cell | (simp [World.frozen?, World.alloc]; done) | rfl))
      have r1_4 : w4.cell? ⟨w.heap.size, 1, none⟩ = some (.slice none 0 0) := (by rw [b4.cell (by first | omega | (simp; done) | (simp; omega))]; go_cell)
      have rf1_4 : w4.frozen? ⟨w.heap.size, 1, none⟩ = false := (by rw [b4.frozen (by first | omega | (simp; done) | (simp; omega))]; (first | go_cell | (simp [World.frozen?, World.alloc]; done) | rfl))
      have rl_4 : w.heap.size < w4.heap.size := (by have := b4.size; first | omega | (revert this; simp; done) | (revert this; simp; omega))
      clear b4
      go_wp2
      refine bodyPost_ret (v := .tuple #[.agg #[.int .i64 0, .slice none 0 0], .bool false]) (by simp [results, Tryz.results24, go_sem, r0_4, r1_4]) rfl ⟨valP_no HN.out, by go_grown⟩

theorem Rd.set_far {w : World} {v : Value} {l : List (Int × Int)} {p : Addr} (h : Rd w v l) (hp : v.ownBlock ≠ some p.block) (u : Value) : Rd (w.setCell p u) v l := by
  obtain ⟨ao, cap, hv, hl, hc⟩ := h
  subst hv
  refine ⟨ao, cap, rfl, hl, fun h0 => ?_⟩
  obtain ⟨b, off, ha, hlt, hcc⟩ := hc h0
  subst ha
  have hne : b ≠ p.block := fun e => hp (by rw [e]; rfl)
  refine ⟨b, off, rfl, by simpa using hlt, fun i hi => ?_⟩
  obtain ⟨c0, c1⟩ := hcc i hi
  refine ⟨?_, ?_⟩
  · rw [← c0]; exact World.cell?_of_block (w := w) (Below.heap_setCell _ _ _ _ hne)
  · rw [← c1]; exact World.cell?_of_block (w := w) (Below.heap_setCell _ _ _ _ hne)

set_option maxRecDepth 100000 in
set_option maxHeartbeats 2000000 in
theorem specVRead_kin (k : Int) (s : ByteArray) (w : World) (hs : s.size ≤ 1048576) (hk : kindOf k = 1 ∨ kindOf k = 2) :
    Calls Tryz.prog 24 #[.int .i64 k, .string s] w fun e w' => ValP k s.data.toList w' e ∧ Below w.heap.size w w' := by
  have hkp : 0 < kindOf k := by omega
  rcases hk with hk | hk
  all_goals
    have HK := hid hk
    have HKP := hid hkp
    clear hk hkp
    go_enter Tryz.func24, Tryz.ntmps24
    go_wp2_with fail
    have r0_1 : ((w.alloc (.cells #[.int .i64 0, .slice none 0 0] 35)).alloc (.cells #[.int .i64 0, .slice none 0 0] 35)).cell? ⟨w.heap.size, 0, none⟩ = some (.int .i64 0) := by go_cell
    have rf0_1 : ((w.alloc (.cells #[.int .i64 0, .slice none 0 0] 35)).alloc (.cells #[.int .i64 0, .slice none 0 0] 35)).frozen? ⟨w.heap.size, 0, none⟩ = false := by (first | go_cell | (simp [World.frozen?, World.alloc]; done) | rfl)
    have r1_1 : ((w.alloc (.cells #[.int .i64 0, .slice none 0 0] 35)).alloc (.cells #[.int .i64 0, .slice none 0 0] 35)).cell? ⟨w.heap.size, 1, none⟩ = some (.slice none 0 0) := by go_cell
    have rf1_1 : ((w.alloc (.cells #[.int .i64 0, .slice none 0 0] 35)).alloc (.cells #[.int .i64 0, .slice none 0 0] 35)).frozen? ⟨w.heap.size, 1, none⟩ = false := by (first | go_cell | (simp [World.frozen?, World.alloc]; done) | rfl)
    have rl_1 : w.heap.size < ((w.alloc (.cells #[.int .i64 0, .slice none 0 0] 35)).alloc (.cells #[.int .i64 0, .slice none 0 0] 35)).heap.size := by first | (simp; done) | (simp; omega)
    have v0_1 : ((w.alloc (.cells #[.int .i64 0, .slice none 0 0] 35)).alloc (.cells #[.int .i64 0, .slice none 0 0] 35)).cell? ⟨w.heap.size + 1, 0, none⟩ = some (.int .i64 0) := by go_cell
    have vf0_1 : ((w.alloc (.cells #[.int .i64 0, .slice none 0 0] 35)).alloc (.cells #[.int .i64 0, .slice none 0 0] 35)).frozen? ⟨w.heap.size + 1, 0, none⟩ = false := by (first | go_cell | (simp [World.frozen?, World.alloc]; done) | rfl)
    have v1_1 : ((w.alloc (.cells #[.int .i64 0, .slice none 0 0] 35)).alloc (.cells #[.int .i64 0, .slice none 0 0] 35)).cell? ⟨w.heap.size + 1, 1, none⟩ = some (.slice none 0 0) := by go_cell
    have vf1_1 : ((w.alloc (.cells #[.int .i64 0, .slice none 0 0] 35)).alloc (.cells #[.int .i64 0, .slice none 0 0] 35)).frozen? ⟨w.heap.size + 1, 1, none⟩ = false := by (first | go_cell | (simp [World.frozen?, World.alloc]; done) | rfl)
    have vl_1 : w.heap.size + 1 < ((w.alloc (.cells #[.int .i64 0, .slice none 0 0] 35)).alloc (.cells #[.int .i64 0, .slice none 0 0] 35)).heap.size := by first | (simp; done) | (simp; omega)
    have c1 : Below w.heap.size w ((w.alloc (.cells #[.int .i64 0, .slice none 0 0] 35)).alloc (.cells #[.int .i64 0, .slice none 0 0] 35)) := by go_grown
    have s1 : ((w.alloc (.cells #[.int .i64 0, .slice none 0 0] 35)).alloc (.cells #[.int .i64 0, .slice none 0 0] 35)).heap.size = w.heap.size + 2 := by simp
    generalize ((w.alloc (.cells #[.int .i64 0, .slice none 0 0] 35)).alloc (.cells #[.int .i64 0, .slice none 0 0] 35)) = w1 at r0_1 rf0_1 r1_1 rf1_1 rl_1 v0_1 vf0_1 v1_1 vf1_1 vl_1 c1 s1 ⊢
    have qr0_1 := cell_regrown r0_1
    have qr1_1 := cell_regrown r1_1
    have qv0_1 := cell_regrown v0_1
    have qv1_1 := cell_regrown v1_1
    refine (specKind_any k _).mono ?_
    rintro e w1 ⟨rfl, rfl⟩
    rw [HK.out]
    go_wp2_with fail
    refine (specKind_any k _).mono ?_
    rintro e w1 ⟨rfl, rfl⟩
    rw [HK.out]
    go_wp2_with fail
    refine (specRead_any s _ hs).mono ?_
    rintro e w2 ⟨⟨u, l, b, rfl, hu, hR, hB⟩, b2⟩
    have vl_1' := vl_1
    have HU := hid hu
    have HR := hid hR
    have HB := hid hB
    clear hu hR hB
    have d2 : Below w1.heap.size w1 w2 := (Below.trans (by go_grown) (b2.mono (by first | omega | (simp; done) | (simp; omega))))
    have c2 : Below w.heap.size w w2 := c1.trans (d2.mono c1.size)
    have r0_2 : w2.cell? ⟨w.heap.size, 0, none⟩ = some (.int .i64 0) := (by rw [b2.cell (by first | omega | (simp; done) | (simp; omega))]; go_cell)
    have rf0_2 : w2.frozen? ⟨w.heap.size, 0, none⟩ = false := (by rw [b2.frozen (by first | omega | (simp; done) | (simp; omega))]; (first | go_cell | (simp [World.frozen?, World.alloc]; done) | rfl))
    have r1_2 : w2.cell? ⟨w.heap.size, 1, none⟩ = some (.slice none 0 0) := (by rw [b2.cell (by first | omega | (simp; done) | (simp; omega))]; go_cell)
    have rf1_2 : w2.frozen? ⟨w.heap.size, 1, none⟩ = false := (by rw [b2.frozen (by first | omega | (simp; done) | (simp; omega))]; (first | go_cell | (simp [World.frozen?, World.alloc]; done) | rfl))
    have rl_2 : w.heap.size < w2.heap.size := (by have := b2.size; first | omega | (revert this; simp; done) | (revert this; simp; omega))
    have v0_2 : w2.cell? ⟨w.heap.size + 1, 0, none⟩ = some (.int .i64 0) := (by rw [b2.cell (by first | omega | (simp; done) | (simp; omega))]; go_cell)
    have vf0_2 : w2.frozen? ⟨w.heap.size + 1, 0, none⟩ = false := (by rw [b2.frozen (by first | omega | (simp; done) | (simp; omega))]; (first | go_cell | (simp [World.frozen?, World.alloc]; done) | rfl))
    have v1_2 : w2.cell? ⟨w.heap.size + 1, 1, none⟩ = some (.slice none 0 0) := (by rw [b2.cell (by first | omega | (simp; done) | (simp; omega))]; go_cell)
    have vf1_2 : w2.frozen? ⟨w.heap.size + 1, 1, none⟩ = false := (by rw [b2.frozen (by first | omega | (simp; done) | (simp; omega))]; (first | go_cell | (simp [World.frozen?, World.alloc]; done) | rfl))
    have vl_2 : w.heap.size + 1 < w2.heap.size := (by have := b2.size; first | omega | (revert this; simp; done) | (revert this; simp; omega))
    clear r0_1 rf0_1 r1_1 rf1_1 rl_1 v0_1 vf0_1 v1_1 vf1_1 vl_1
    clear b2 d2
    obtain ⟨uo, uc, huv, _⟩ := HU.out
    subst huv
    cases b with
    | false =>
      have HN : Hid (ValR k s.data.toList 0 [] false) := hidT (by
        rcases HR.out with ⟨h, _⟩ | ⟨_, _, h⟩
        · cases h
        · exact Or.inr (Or.inl ⟨HKP.out, rfl, Or.inr ⟨rfl, rfl, h⟩⟩))
      go_wp2
      refine bodyPost_ret (v := .tuple #[.agg #[.int .i64 0, .slice none 0 0], .bool false]) (by simp [results, Tryz.results24, go_sem, r0_2, r1_2]) rfl ⟨valP_no HN.out, by go_grown⟩
    | true =>
      have HN : Hid (ValR k s.data.toList 0 l true) := hidT (Or.inr (Or.inl ⟨HKP.out, rfl, HR.out⟩))
      have hlen := readR_length HR.out
      have HL := hid hlen
      clear hlen
      have ho : okV k 0 l = true := by
        rw [okV_kin0 HKP.out]
        rcases HR.out with ⟨_, h, _⟩ | ⟨h, _⟩
        · exact h
        · cases h
      have HU2 := hid (Rd.set_far (p := ⟨w.heap.size + 1, 1, none⟩) HU.out (fun e => by have := HB.out _ e; have hh : w.heap.size + 1 < w1.heap.size := vl_1'; simp only at this; omega) (.slice uo l.length uc))
      have c2' : Below w.heap.size w (w2.setCell ⟨w.heap.size + 1, 1, none⟩ (.slice uo l.length uc)) := c2.setCell (p := ⟨w.heap.size + 1, 1, none⟩) (by show w.heap.size ≤ w.heap.size + 1; omega) _
      go_wp2_with fail
      refine (specOkV_any k 0 _ l _ HU2.out).mono ?_
      rintro e w4 ⟨rfl, b4⟩
      rw [ho]
      have c4 : Below w.heap.size w w4 := c2'.trans (b4.mono c2'.size)
      have r0_4 : w4.cell? ⟨w.heap.size, 0, none⟩ = some (.int .i64 0) := (by rw [b4.cell (by first | omega | (simp; done) | (simp; omega))]; go_cell)
      have rf0_4 : w4.frozen? ⟨w.heap.size, 0, none⟩ = false := (by rw [b4.frozen (by first | omega | (simp; done) | (simp; omega))]; (first | go_cell | (simp [World.frozen?, World.alloc]; done) | rfl))
      have r1_4 : w4.cell? ⟨w.heap.size, 1, none⟩ = some (.slice none 0 0) := (by rw [b4.cell (by first | omega | (simp; done) | (simp; omega))]; go_cell)
      have rf1_4 : w4.frozen? ⟨w.heap.size, 1, none⟩ = false := (by rw [b4.frozen (by first | omega | (simp; done) | (simp; omega))]; (first | go_cell | (simp [World.frozen?, World.alloc]; done) | rfl))
      have rl_4 : w.heap.size < w4.heap.size := (by have := b4.size; first | omega | (revert this; simp; done) | (revert this; simp; omega))
      have v0_4 : w4.cell? ⟨w.heap.size + 1, 0, none⟩ = some (.int .i64 0) := (by rw [b4.cell (by first | omega | (simp; done) | (simp; omega))]; go_cell)
      have v1_4 : w4.cell? ⟨w.heap.size + 1, 1, none⟩ = some (.slice uo l.length uc) := (by rw [b4.cell (by first | omega | (simp; done) | (simp; omega))]; go_cell)
      have vl_4 : w.heap.size + 1 < w4.heap.size := (by have := b4.size; first | omega | (revert this; simp; done) | (revert this; simp; omega))
      have HU4 := hid (HU2.out.later b4)
      clear b4 c2'
      go_wp2
      have e0 : ((w4.setCell ⟨w.heap.size, 0, none⟩ (.int .i64 0)).setCell ⟨w.heap.size, 1, none⟩ (.slice uo l.length uc)).cell? ⟨w.heap.size, 0, none⟩ = some (.int .i64 0) := by go_cell
      have e1 : ((w4.setCell ⟨w.heap.size, 0, none⟩ (.int .i64 0)).setCell ⟨w.heap.size, 1, none⟩ (.slice uo l.length uc)).cell? ⟨w.heap.size, 1, none⟩ = some (.slice uo l.length uc) := by go_cell
      have hfar : (Value.slice uo l.length uc).ownBlock ≠ some w.heap.size := fun e => by have := HB.out _ e; omega
      have HF := hid hfar
      clear hfar
      refine bodyPost_ret (v := .tuple #[.agg #[.int .i64 0, .slice uo l.length uc], .bool true]) (by simp [results, Tryz.results24, go_sem, e0, e1]) rfl ⟨⟨0, _, l, true, rfl, (HU4.out.set_far (p := ⟨w.heap.size, 0, none⟩) HF.out _).set_far (p := ⟨w.heap.size, 1, none⟩) HF.out _, HN.out, HL.out⟩, (c4.setCell (p := ⟨w.heap.size, 0, none⟩) (Nat.le_refl _) _).setCell (p := ⟨w.heap.size, 1, none⟩) (Nat.le_refl _) _⟩

theorem specVRead_none (k : Int) (s : ByteArray) (w : World) (hk : kindOf k = -1) :
    Calls Tryz.prog 24 #[.int .i64 k, .string s] w fun e w' => ValP k s.data.toList w' e ∧ Below w.heap.size w w' := by
  have HK := hid hk
  clear hk
  have HN : Hid (ValR k s.data.toList 0 [] false) := hidT (Or.inr (Or.inr ⟨by rw [HK.out]; decide, rfl, rfl, rfl⟩))
  go_enter Tryz.func24, Tryz.ntmps24
  go_wp2_with fail
  have r0_1 : ((w.alloc (.cells #[.int .i64 0, .slice none 0 0] 35)).alloc (.cells #[.int .i64 0, .slice none 0 0] 35)).cell? ⟨w.heap.size, 0, none⟩ = some (.int .i64 0) := by go_cell
  have rf0_1 : ((w.alloc (.cells #[.int .i64 0, .slice none 0 0] 35)).alloc (.cells #[.int .i64 0, .slice none 0 0] 35)).frozen? ⟨w.heap.size, 0, none⟩ = false := by (first | go_cell | (simp [World.frozen?, World.alloc]; done) | rfl)
  have r1_1 : ((w.alloc (.cells #[.int .i64 0, .slice none 0 0] 35)).alloc (.cells #[.int .i64 0, .slice none 0 0] 35)).cell? ⟨w.heap.size, 1, none⟩ = some (.slice none 0 0) := by go_cell
  have rf1_1 : ((w.alloc (.cells #[.int .i64 0, .slice none 0 0] 35)).alloc (.cells #[.int .i64 0, .slice none 0 0] 35)).frozen? ⟨w.heap.size, 1, none⟩ = false := by (first | go_cell | (simp [World.frozen?, World.alloc]; done) | rfl)
  have rl_1 : w.heap.size < ((w.alloc (.cells #[.int .i64 0, .slice none 0 0] 35)).alloc (.cells #[.int .i64 0, .slice none 0 0] 35)).heap.size := by first | (simp; done) | (simp; omega)
  have v0_1 : ((w.alloc (.cells #[.int .i64 0, .slice none 0 0] 35)).alloc (.cells #[.int .i64 0, .slice none 0 0] 35)).cell? ⟨w.heap.size + 1, 0, none⟩ = some (.int .i64 0) := by go_cell
  have vf0_1 : ((w.alloc (.cells #[.int .i64 0, .slice none 0 0] 35)).alloc (.cells #[.int .i64 0, .slice none 0 0] 35)).frozen? ⟨w.heap.size + 1, 0, none⟩ = false := by (first | go_cell | (simp [World.frozen?, World.alloc]; done) | rfl)
  have v1_1 : ((w.alloc (.cells #[.int .i64 0, .slice none 0 0] 35)).alloc (.cells #[.int .i64 0, .slice none 0 0] 35)).cell? ⟨w.heap.size + 1, 1, none⟩ = some (.slice none 0 0) := by go_cell
  have vf1_1 : ((w.alloc (.cells #[.int .i64 0, .slice none 0 0] 35)).alloc (.cells #[.int .i64 0, .slice none 0 0] 35)).frozen? ⟨w.heap.size + 1, 1, none⟩ = false := by (first | go_cell | (simp [World.frozen?, World.alloc]; done) | rfl)
  have vl_1 : w.heap.size + 1 < ((w.alloc (.cells #[.int .i64 0, .slice none 0 0] 35)).alloc (.cells #[.int .i64 0, .slice none 0 0] 35)).heap.size := by first | (simp; done) | (simp; omega)
  have c1 : Below w.heap.size w ((w.alloc (.cells #[.int .i64 0, .slice none 0 0] 35)).alloc (.cells #[.int .i64 0, .slice none 0 0] 35)) := by go_grown
  have s1 : ((w.alloc (.cells #[.int .i64 0, .slice none 0 0] 35)).alloc (.cells #[.int .i64 0, .slice none 0 0] 35)).heap.size = w.heap.size + 2 := by simp
  generalize ((w.alloc (.cells #[.int .i64 0, .slice none 0 0] 35)).alloc (.cells #[.int .i64 0, .slice none 0 0] 35)) = w1 at r0_1 rf0_1 r1_1 rf1_1 rl_1 v0_1 vf0_1 v1_1 vf1_1 vl_1 c1 s1 ⊢
  have qr0_1 := cell_regrown r0_1
  have qr1_1 := cell_regrown r1_1
  have qv0_1 := cell_regrown v0_1
  have qv1_1 := cell_regrown v1_1
  refine (specKind_any k _).mono ?_
  rintro e w1 ⟨rfl, rfl⟩
  rw [HK.out]
  go_wp2_with fail
  refine (specKind_any k _).mono ?_
  rintro e w1 ⟨rfl, rfl⟩
  rw [HK.out]
  go_wp2
  refine bodyPost_ret (v := .tuple #[.agg #[.int .i64 0, .slice none 0 0], .bool false]) (by simp [results, Tryz.results24, go_sem, r0_1, r1_1]) rfl ⟨valP_no HN.out, by go_grown⟩

theorem specVRead_any (k : Int) (s : ByteArray) (w : World) (hs : s.size ≤ 1048576) :
    Calls Tryz.prog 24 #[.int .i64 k, .string s] w fun e w' => ValP k s.data.toList w' e ∧ Below w.heap.size w w' := by
  rcases kind_ways k with h | h | h | h
  · exact specVRead_thing k s w hs h
  · exact specVRead_kin k s w hs (Or.inl h)
  · exact specVRead_kin k s w hs (Or.inr h)
  · exact specVRead_none k s w h
end Go.Proofs.YtdjonplcgmfmgaaGreatDoor

/- Part: impl.ValRead: contract. -/
namespace Go.Proofs.YtdjonplcgmfmgaaGreatDoor
open Go.RowKit Go.Shelf
attribute [local go_sem ↓] Go.wp_at_zero Go.wp_at_succ

/-- impl's answer. -/
def ValO (k : Int) (s : List UInt8) (B : Nat) (w : World) (e : Ending) : Prop := ∃ n v l b, e = .returned (.tuple #[.agg #[.int .i64 n, v], .bool b]) ∧ Own w B v l ∧ ValR k s n l b
theorem valO_no {k : Int} {s : List UInt8} {B : Nat} {w : World} (h : ValR k s 0 [] false) : ValO k s B w (.returned (.tuple #[.agg #[.int .i64 0, .slice none 0 0], .bool false])) :=
  ⟨0, _, [], false, rfl, World.ownsRow_nil _ _ _ _, h⟩

/-- What readHeld answers of a number. -/
def NumH (l : List UInt8) (e : Ending) : Prop := ∃ n b, e = .returned (.tuple #[.iface 101 (.int .i64 n), .bool b]) ∧ -9223372036854775808 ≤ n ∧ n ≤ 9223372036854775807 ∧ ∀ m : Int, -100000000000000000 < m → m < 100000000000000000 → l = Lib.itoa m → n = m ∧ b = true

set_option maxRecDepth 100000 in
set_option maxHeartbeats 1000000 in
theorem readHeld_num (k : Int) (s : ByteArray) (w : World) (hs : s.size ≤ 1048576) (hk : kindOf k = 0) (hL : Lib4 w) :
    Calls Tryz.prog 47 #[.int .i64 k, .string s] w fun e w' => NumH s.data.toList e ∧ Below w.heap.size w w' := by
  have HL := hid hL
  have HK := hid hk
  clear hL hk
  go_enter Tryz.func47, Tryz.ntmps47
  go_wp2_with fail
  refine (implKind_any k _).mono ?_
  rintro e w1 ⟨rfl, rfl⟩
  rw [HK.out]
  go_wp2_with fail
  refine (atoi_any s _ hs HL.out.err).mono ?_
  rintro e w2 ⟨⟨n, v, rfl, hv, n0, n1, hx⟩, b2⟩
  have HX := hid hx
  clear hx
  rcases hv with rfl | ⟨t, a, rfl⟩
  · have HN : Hid (∀ m : Int, -100000000000000000 < m → m < 100000000000000000 → s.data.toList = Lib.itoa m → n = m ∧ true = true) := hidT (fun m h0 h1 he => ⟨(HX.out m h0 h1 he).1, rfl⟩)
    go_wp2_with fail
    refine wp_region_quiet_below (by kernel_rfl) (by kernel_rfl) ?_
    repeat (first | go_big_quiet_skip | (go_big_quiet_want; go_big_quiet_op; first | go_big_quiet_on | go_big_quiet_call (first | (fail))))
    refine wpQuiet_nil ?_
    rintro wq ⟨pq, hwq⟩
    have hq : Below w2.heap.size w2 wq := by rw [hwq]; exact below_regrown _ _ _
    clear hwq pq
    go_wp2
    go_ret2
    exact ⟨⟨n, true, by simp, n0, n1, fun m a b c => ⟨(HN.out m a b c).1, rfl⟩⟩, b2.trans (hq.mono b2.size)⟩
  · have HN : Hid (∀ m : Int, -100000000000000000 < m → m < 100000000000000000 → s.data.toList = Lib.itoa m → n = m ∧ false = true) := hidT (fun m h0 h1 he => by cases (HX.out m h0 h1 he).2)
    go_wp2_with fail
    refine wp_region_quiet_below (by kernel_rfl) (by kernel_rfl) ?_
    repeat (first | go_big_quiet_skip | (go_big_quiet_want; go_big_quiet_op; first | go_big_quiet_on | go_big_quiet_call (first | (fail))))
    refine wpQuiet_nil ?_
    rintro wq ⟨pq, hwq⟩
    have hq : Below w2.heap.size w2 wq := by rw [hwq]; exact below_regrown _ _ _
    clear hwq pq
    go_wp2
    go_ret2
    exact ⟨⟨n, false, by simp, n0, n1, HN.out⟩, b2.trans (hq.mono b2.size)⟩

set_option maxRecDepth 100000 in
set_option maxHeartbeats 1000000 in
theorem readHeld_kin (k : Int) (s : ByteArray) (w : World) (hs : s.size ≤ 1048576) (hk : (kindOf k == 0) = false) (hL : Lib4 w) :
    Calls Tryz.prog 47 #[.int .i64 k, .string s] w fun e w' => (∃ v l b, e = .returned (.tuple #[.iface 103 v, .bool b]) ∧ Own w' w.heap.size v l ∧ ReadR s.data.toList l b) ∧ Below w.heap.size w w' := by
  have HL := hid hL
  clear hL
  go_enter Tryz.func47, Tryz.ntmps47
  go_wp2_with fail
  refine (implKind_any k _).mono ?_
  rintro e w1 ⟨rfl, rfl⟩
  go_wp2_with fail
  refine (implRead_any s _ hs HL.out).mono ?_
  rintro e w2 ⟨⟨v, l, b, rfl, ho, hR⟩, b2⟩
  have HO := hid ho
  have HR := hid hR
  clear ho hR
  go_wp2
  go_ret2
  exact ⟨⟨v, l, b, by simp, HO.out, HR.out⟩, b2⟩

set_option maxRecDepth 100000 in
set_option maxHeartbeats 2000000 in
theorem implVRead_thing (k : Int) (s : ByteArray) (w : World) (hs : s.size ≤ 1048576) (hk : kindOf k = 0) (hL : Lib4 w) :
    Calls Tryz.prog 18 #[.int .i64 k, .string s] w fun e w' => ValO k s.data.toList w.heap.size w' e ∧ Below w.heap.size w w' := by
  have HL := hid hL
  have HK := hid hk
  have hin := key_in_of (k := k) (by omega)
  clear hL hk
  go_enter Tryz.func18, Tryz.ntmps18
  go_wp2_with fail
  have r0_1 : (w.alloc (.cells #[.int .i64 0, .slice none 0 0] 35)).cell? ⟨w.heap.size, 0, none⟩ = some (.int .i64 0) := by go_cell
  have rf0_1 : (w.alloc (.cells #[.int .i64 0, .slice none 0 0] 35)).frozen? ⟨w.heap.size, 0, none⟩ = false := by (first | go_cell | (simp [World.frozen?, World.alloc]; done) | rfl)
  have r1_1 : (w.alloc (.cells #[.int .i64 0, .slice none 0 0] 35)).cell? ⟨w.heap.size, 1, none⟩ = some (.slice none 0 0) := by go_cell
  have rf1_1 : (w.alloc (.cells #[.int .i64 0, .slice none 0 0] 35)).frozen? ⟨w.heap.size, 1, none⟩ = false := by (first | go_cell | (simp [World.frozen?, World.alloc]; done) | rfl)
  have rl_1 : w.heap.size < (w.alloc (.cells #[.int .i64 0, .slice none 0 0] 35)).heap.size := by first | (simp; done) | (simp; omega)
  have c1 : Below w.heap.size w (w.alloc (.cells #[.int .i64 0, .slice none 0 0] 35)) := by go_grown
  have s1 : (w.alloc (.cells #[.int .i64 0, .slice none 0 0] 35)).heap.size = w.heap.size + 1 := by simp
  generalize (w.alloc (.cells #[.int .i64 0, .slice none 0 0] 35)) = w1 at r0_1 rf0_1 r1_1 rf1_1 rl_1 c1 s1 ⊢
  have qr0_1 := cell_regrown r0_1
  have qr1_1 := cell_regrown r1_1
  refine (readHeld_num k s _ hs HK.out (HL.out.below c1)).mono ?_
  rintro e w2 ⟨⟨n, b, rfl, n0, n1, hx⟩, b2⟩
  have HX := hid hx
  clear hx
  have d2 : Below w1.heap.size w1 w2 := (Below.trans (by go_grown) (b2.mono (by first | omega | (simp; done) | (simp; omega))))
  have c2 : Below w.heap.size w w2 := c1.trans (d2.mono c1.size)
  have r0_2 : w2.cell? ⟨w.heap.size, 0, none⟩ = some (.int .i64 0) := (by rw [b2.cell (by first | omega | (simp; done) | (simp; omega))]; go_cell)
  have rf0_2 : w2.frozen? ⟨w.heap.size, 0, none⟩ = false := (by rw [b2.frozen (by first | omega | (simp; done) | (simp; omega))]; (first | go_cell | (simp [World.frozen?, World.alloc]; done) | rfl))
  have r1_2 : w2.cell? ⟨w.heap.size, 1, none⟩ = some (.slice none 0 0) := (by rw [b2.cell (by first | omega | (simp; done) | (simp; omega))]; go_cell)
  have rf1_2 : w2.frozen? ⟨w.heap.size, 1, none⟩ = false := (by rw [b2.frozen (by first | omega | (simp; done) | (simp; omega))]; (first | go_cell | (simp [World.frozen?, World.alloc]; done) | rfl))
  have rl_2 : w.heap.size < w2.heap.size := (by have := b2.size; first | omega | (revert this; simp; done) | (revert this; simp; omega))
  clear r0_1 rf0_1 r1_1 rf1_1 rl_1
  clear b2 d2
  cases b with
  | false =>
    have HN : Hid (ValR k s.data.toList 0 [] false) := hidT (Or.inl ⟨HK.out, rfl, Or.inr ⟨rfl, rfl, fun m h0 h1 he => by cases (HX.out m (by omega) (by omega) he).2⟩⟩)
    go_wp2
    refine bodyPost_ret (v := .tuple #[.agg #[.int .i64 0, .slice none 0 0], .bool false]) (by simp [results, Tryz.results18, go_sem, r0_2, r1_2]) rfl ⟨valO_no HN.out, by go_grown⟩
  | true =>
    go_wp2_with fail
    refine (keyRight_yes k _ hin.1 hin.2).mono ?_
    rintro e w3 ⟨rfl, b3⟩
    have d3 : Below w2.heap.size w2 w3 := (Below.trans (by go_grown) (b3.mono (by first | omega | (simp; done) | (simp; omega))))
    have c3 : Below w.heap.size w w3 := c2.trans (d3.mono c2.size)
    have r0_3 : w3.cell? ⟨w.heap.size, 0, none⟩ = some (.int .i64 0) := (by rw [b3.cell (by first | omega | (simp; done) | (simp; omega))]; go_cell)
    have rf0_3 : w3.frozen? ⟨w.heap.size, 0, none⟩ = false := (by rw [b3.frozen (by first | omega | (simp; done) | (simp; omega))]; (first | go_cell | (simp [World.frozen?, World.alloc]; done) | rfl))
    have r1_3 : w3.cell? ⟨w.heap.size, 1, none⟩ = some (.slice none 0 0) := (by rw [b3.cell (by first | omega | (simp; done) | (simp; omega))]; go_cell)
    have rf1_3 : w3.frozen? ⟨w.heap.size, 1, none⟩ = false := (by rw [b3.frozen (by first | omega | (simp; done) | (simp; omega))]; (first | go_cell | (simp [World.frozen?, World.alloc]; done) | rfl))
    have rl_3 : w.heap.size < w3.heap.size := (by have := b3.size; first | omega | (revert this; simp; done) | (revert this; simp; omega))
    clear r0_2 rf0_2 r1_2 rf1_2 rl_2
    clear b3 d3
    by_cases hn : 0 ≤ n ∧ n ≤ 1000000
    · go_wp2_with fail
      refine (heldRight_yes n _ hn.1 hn.2).mono ?_
      rintro e w4 ⟨rfl, b4⟩
      have d4 : Below w3.heap.size w3 w4 := (Below.trans (by go_grown) (b4.mono (by first | omega | (simp; done) | (simp; omega))))
      have c4 : Below w.heap.size w w4 := c3.trans (d4.mono c3.size)
      have r0_4 : w4.cell? ⟨w.heap.size, 0, none⟩ = some (.int .i64 0) := (by rw [b4.cell (by first | omega | (simp; done) | (simp; omega))]; go_cell)
      have rf0_4 : w4.frozen? ⟨w.heap.size, 0, none⟩ = false := (by rw [b4.frozen (by first | omega | (simp; done) | (simp; omega))]; (first | go_cell | (simp [World.frozen?, World.alloc]; done) | rfl))
      have r1_4 : w4.cell? ⟨w.heap.size, 1, none⟩ = some (.slice none 0 0) := (by rw [b4.cell (by first | omega | (simp; done) | (simp; omega))]; go_cell)
      have rf1_4 : w4.frozen? ⟨w.heap.size, 1, none⟩ = false := (by rw [b4.frozen (by first | omega | (simp; done) | (simp; omega))]; (first | go_cell | (simp [World.frozen?, World.alloc]; done) | rfl))
      have rl_4 : w.heap.size < w4.heap.size := (by have := b4.size; first | omega | (revert this; simp; done) | (revert this; simp; omega))
      clear r0_3 rf0_3 r1_3 rf1_3 rl_3
      clear b4 d4
      go_wp2_with fail
      refine (heldText_num n _ (by omega) (by omega) (HL.out.tab.below c4)).mono ?_
      rintro e w5 ⟨rfl, b5⟩
      have d5 : Below w4.heap.size w4 w5 := (Below.trans (by go_grown) (b5.mono (by first | omega | (simp; done) | (simp; omega))))
      have c5 : Below w.heap.size w w5 := c4.trans (d5.mono c4.size)
      have r0_5 : w5.cell? ⟨w.heap.size, 0, none⟩ = some (.int .i64 0) := (by rw [b5.cell (by first | omega | (simp; done) | (simp; omega))]; go_cell)
      have rf0_5 : w5.frozen? ⟨w.heap.size, 0, none⟩ = false := (by rw [b5.frozen (by first | omega | (simp; done) | (simp; omega))]; (first | go_cell | (simp [World.frozen?, World.alloc]; done) | rfl))
      have r1_5 : w5.cell? ⟨w.heap.size, 1, none⟩ = some (.slice none 0 0) := (by rw [b5.cell (by first | omega | (simp; done) | (simp; omega))]; go_cell)
      have rf1_5 : w5.frozen? ⟨w.heap.size, 1, none⟩ = false := (by rw [b5.frozen (by first | omega | (simp; done) | (simp; omega))]; (first | go_cell | (simp [World.frozen?, World.alloc]; done) | rfl))
      have rl_5 : w.heap.size < w5.heap.size := (by have := b5.size; first | omega | (revert this; simp; done) | (revert this; simp; omega))
      clear r0_4 rf0_4 r1_4 rf1_4 rl_4
      clear b5 d5
      by_cases hE : Lib.itoa n = s.data.toList
      · have HN : Hid (ValR k s.data.toList n [] true) := hidT (Or.inl ⟨HK.out, rfl, Or.inl ⟨rfl, hn.1, hn.2, hE.symm⟩⟩)
        have hEq : ((⟨(Lib.itoa n).toArray⟩ : ByteArray).toList = s.toList) := by rw [toList_same]; exact hE
        have hm := method_num n
        generalize (⟨(Lib.itoa n).toArray⟩ : ByteArray) = q at hEq ⊢
        clear hE
        go_wp2_with fail
        refine (numVal_any n _).mono ?_
        rintro e w6 ⟨rfl, b6⟩
        have d6 : Below w5.heap.size w5 w6 := (Below.trans (by go_grown) (b6.mono (by first | omega | (simp; done) | (simp; omega))))
        have c6 : Below w.heap.size w w6 := c5.trans (d6.mono c5.size)
        have r0_6 : w6.cell? ⟨w.heap.size, 0, none⟩ = some (.int .i64 0) := (by rw [b6.cell (by first | omega | (simp; done) | (simp; omega))]; go_cell)
        have rf0_6 : w6.frozen? ⟨w.heap.size, 0, none⟩ = false := (by rw [b6.frozen (by first | omega | (simp; done) | (simp; omega))]; (first | go_cell | (simp [World.frozen?, World.alloc]; done) | rfl))
        have r1_6 : w6.cell? ⟨w.heap.size, 1, none⟩ = some (.slice none 0 0) := (by rw [b6.cell (by first | omega | (simp; done) | (simp; omega))]; go_cell)
        have rf1_6 : w6.frozen? ⟨w.heap.size, 1, none⟩ = false := (by rw [b6.frozen (by first | omega | (simp; done) | (simp; omega))]; (first | go_cell | (simp [World.frozen?, World.alloc]; done) | rfl))
        have rl_6 : w.heap.size < w6.heap.size := (by have := b6.size; first | omega | (revert this; simp; done) | (revert this; simp; omega))
        clear r0_5 rf0_5 r1_5 rf1_5 rl_5
        clear b6 d6
        go_wp2
        have e0 : ((w6.setCell ⟨w.heap.size, 0, none⟩ (.int .i64 n)).setCell ⟨w.heap.size, 1, none⟩ (.slice none 0 0)).cell? ⟨w.heap.size, 0, none⟩ = some (.int .i64 n) := by go_cell
        have e1 : ((w6.setCell ⟨w.heap.size, 0, none⟩ (.int .i64 n)).setCell ⟨w.heap.size, 1, none⟩ (.slice none 0 0)).cell? ⟨w.heap.size, 1, none⟩ = some (.slice none 0 0) := by go_cell
        refine bodyPost_ret (v := .tuple #[.agg #[.int .i64 n, .slice none 0 0], .bool true]) (by simp [results, Tryz.results18, go_sem, e0, e1]) rfl ⟨⟨n, _, [], true, rfl, World.ownsRow_nil _ _ _ _, HN.out⟩, (c6.setCell (p := ⟨w.heap.size, 0, none⟩) (Nat.le_refl _) _).setCell (p := ⟨w.heap.size, 1, none⟩) (Nat.le_refl _) _⟩
      · have HN : Hid (ValR k s.data.toList 0 [] false) := hidT (Or.inl ⟨HK.out, rfl, Or.inr ⟨rfl, rfl, fun m h0 h1 he => by
          have := (HX.out m (by omega) (by omega) he).1
          subst this
          exact hE he.symm⟩⟩)
        have hEq : (((⟨(Lib.itoa n).toArray⟩ : ByteArray).toList == s.toList)) = false := by rw [beq_eq_false_iff_ne, ne_eq, toList_same]; exact hE
        generalize (⟨(Lib.itoa n).toArray⟩ : ByteArray) = q at hEq ⊢
        clear hE
        go_wp2
        refine bodyPost_ret (v := .tuple #[.agg #[.int .i64 0, .slice none 0 0], .bool false]) (by simp [results, Tryz.results18, go_sem, r0_5, r1_5]) rfl ⟨valO_no HN.out, by go_grown⟩
    · have HN : Hid (ValR k s.data.toList 0 [] false) := hidT (Or.inl ⟨HK.out, rfl, Or.inr ⟨rfl, rfl, fun m h0 h1 he => by
        have := (HX.out m (by omega) (by omega) he).1
        omega⟩⟩)
      go_wp2_with fail
      refine (heldRight_not n _ hn).mono ?_
      rintro e w4 ⟨rfl, b4⟩
      have d4 : Below w3.heap.size w3 w4 := (Below.trans (by go_grown) (b4.mono (by first | omega | (simp; done) | (simp; omega))))
      have c4 : Below w.heap.size w w4 := c3.trans (d4.mono c3.size)
      have r0_4 : w4.cell? ⟨w.heap.size, 0, none⟩ = some (.int .i64 0) := (by rw [b4.cell (by first | omega | (simp; done) | (simp; omega))]; go_cell)
      have rf0_4 : w4.frozen? ⟨w.heap.size, 0, none⟩ = false := (by rw [b4.frozen (by first | omega | (simp; done) | (simp; omega))]; (first | go_cell | (simp [World.frozen?, World.alloc]; done) | rfl))
      have r1_4 : w4.cell? ⟨w.heap.size, 1, none⟩ = some (.slice none 0 0) := (by rw [b4.cell (by first | omega | (simp; done) | (simp; omega))]; go_cell)
      have rf1_4 : w4.frozen? ⟨w.heap.size, 1, none⟩ = false := (by rw [b4.frozen (by first | omega | (simp; done) | (simp; omega))]; (first | go_cell | (simp [World.frozen?, World.alloc]; done) | rfl))
      have rl_4 : w.heap.size < w4.heap.size := (by have := b4.size; first | omega | (revert this; simp; done) | (revert this; simp; omega))
      clear r0_3 rf0_3 r1_3 rf1_3 rl_3
      clear b4 d4
      go_wp2
      refine bodyPost_ret (v := .tuple #[.agg #[.int .i64 0, .slice none 0 0], .bool false]) (by simp [results, Tryz.results18, go_sem, r0_4, r1_4]) rfl ⟨valO_no HN.out, by go_grown⟩

theorem kin_zero {k : Int} (h : 0 < kindOf k) : (kindOf k == 0) = false := by simp; omega
set_option maxRecDepth 100000 in
set_option maxHeartbeats 2000000 in
theorem implVRead_kin (k : Int) (s : ByteArray) (w : World) (hs : s.size ≤ 1048576) (hk : 0 < kindOf k) (hL : Lib4 w) :
    Calls Tryz.prog 18 #[.int .i64 k, .string s] w fun e w' => ValO k s.data.toList w.heap.size w' e ∧ Below w.heap.size w w' := by
  have HL := hid hL
  have HK := hid hk
  have hin := key_in_of (k := k) (by omega)
  clear hL hk
  go_enter Tryz.func18, Tryz.ntmps18
  go_wp2_with fail
  have r0_1 : (w.alloc (.cells #[.int .i64 0, .slice none 0 0] 35)).cell? ⟨w.heap.size, 0, none⟩ = some (.int .i64 0) := by go_cell
  have rf0_1 : (w.alloc (.cells #[.int .i64 0, .slice none 0 0] 35)).frozen? ⟨w.heap.size, 0, none⟩ = false := by (first | go_cell | (simp [World.frozen?, World.alloc]; done) | rfl)
  have r1_1 : (w.alloc (.cells #[.int .i64 0, .slice none 0 0] 35)).cell? ⟨w.heap.size, 1, none⟩ = some (.slice none 0 0) := by go_cell
  have rf1_1 : (w.alloc (.cells #[.int .i64 0, .slice none 0 0] 35)).frozen? ⟨w.heap.size, 1, none⟩ = false := by (first | go_cell | (simp [World.frozen?, World.alloc]; done) | rfl)
  have rl_1 : w.heap.size < (w.alloc (.cells #[.int .i64 0, .slice none 0 0] 35)).heap.size := by first | (simp; done) | (simp; omega)
  have c1 : Below w.heap.size w (w.alloc (.cells #[.int .i64 0, .slice none 0 0] 35)) := by go_grown
  have s1 : (w.alloc (.cells #[.int .i64 0, .slice none 0 0] 35)).heap.size = w.heap.size + 1 := by simp
  generalize (w.alloc (.cells #[.int .i64 0, .slice none 0 0] 35)) = w1 at r0_1 rf0_1 r1_1 rf1_1 rl_1 c1 s1 ⊢
  have qr0_1 := cell_regrown r0_1
  have qr1_1 := cell_regrown r1_1
  refine (readHeld_kin k s _ hs (kin_zero HK.out) (HL.out.below c1)).mono ?_
  rintro e w2 ⟨⟨v, l, b, rfl, ho, hR⟩, b2⟩
  have HO := hid ho
  have HR := hid hR
  clear ho hR
  have d2 : Below w1.heap.size w1 w2 := (Below.trans (by go_grown) (b2.mono (by first | omega | (simp; done) | (simp; omega))))
  have c2 : Below w.heap.size w w2 := c1.trans (d2.mono c1.size)
  have r0_2 : w2.cell? ⟨w.heap.size, 0, none⟩ = some (.int .i64 0) := (by rw [b2.cell (by first | omega | (simp; done) | (simp; omega))]; go_cell)
  have rf0_2 : w2.frozen? ⟨w.heap.size, 0, none⟩ = false := (by rw [b2.frozen (by first | omega | (simp; done) | (simp; omega))]; (first | go_cell | (simp [World.frozen?, World.alloc]; done) | rfl))
  have r1_2 : w2.cell? ⟨w.heap.size, 1, none⟩ = some (.slice none 0 0) := (by rw [b2.cell (by first | omega | (simp; done) | (simp; omega))]; go_cell)
  have rf1_2 : w2.frozen? ⟨w.heap.size, 1, none⟩ = false := (by rw [b2.frozen (by first | omega | (simp; done) | (simp; omega))]; (first | go_cell | (simp [World.frozen?, World.alloc]; done) | rfl))
  have rl_2 : w.heap.size < w2.heap.size := (by have := b2.size; first | omega | (revert this; simp; done) | (revert this; simp; omega))
  clear r0_1 rf0_1 r1_1 rf1_1 rl_1
  clear b2 d2
  obtain ⟨uo, uc, huv, _⟩ := HO.out.rd
  subst huv
  cases b with
  | false =>
    have HN : Hid (ValR k s.data.toList 0 [] false) := hidT (by
      rcases HR.out with ⟨h, _⟩ | ⟨_, _, h⟩
      · cases h
      · exact Or.inr (Or.inl ⟨HK.out, rfl, Or.inr ⟨rfl, rfl, h⟩⟩))
    go_wp2
    refine bodyPost_ret (v := .tuple #[.agg #[.int .i64 0, .slice none 0 0], .bool false]) (by simp [results, Tryz.results18, go_sem, r0_2, r1_2]) rfl ⟨valO_no HN.out, by go_grown⟩
  | true =>
    have HN : Hid (ValR k s.data.toList 0 l true) := hidT (Or.inr (Or.inl ⟨HK.out, rfl, HR.out⟩))
    have HT : Hid (okL l = true ∧ textL l = s.data.toList) := hidT (by
      rcases HR.out with ⟨_, h, h2, _⟩ | ⟨h, _⟩
      · exact ⟨h, h2⟩
      · cases h)
    have HLen := hid (readR_length HR.out)
    go_wp2_with fail
    refine (keyRight_yes k _ hin.1 hin.2).mono ?_
    rintro e w3 ⟨rfl, b3⟩
    have HO3 := hid (HO.out.later b3)
    have d3 : Below w2.heap.size w2 w3 := (Below.trans (by go_grown) (b3.mono (by first | omega | (simp; done) | (simp; omega))))
    have c3 : Below w.heap.size w w3 := c2.trans (d3.mono c2.size)
    have r0_3 : w3.cell? ⟨w.heap.size, 0, none⟩ = some (.int .i64 0) := (by rw [b3.cell (by first | omega | (simp; done) | (simp; omega))]; go_cell)
    have rf0_3 : w3.frozen? ⟨w.heap.size, 0, none⟩ = false := (by rw [b3.frozen (by first | omega | (simp; done) | (simp; omega))]; (first | go_cell | (simp [World.frozen?, World.alloc]; done) | rfl))
    have r1_3 : w3.cell? ⟨w.heap.size, 1, none⟩ = some (.slice none 0 0) := (by rw [b3.cell (by first | omega | (simp; done) | (simp; omega))]; go_cell)
    have rf1_3 : w3.frozen? ⟨w.heap.size, 1, none⟩ = false := (by rw [b3.frozen (by first | omega | (simp; done) | (simp; omega))]; (first | go_cell | (simp [World.frozen?, World.alloc]; done) | rfl))
    have rl_3 : w.heap.size < w3.heap.size := (by have := b3.size; first | omega | (revert this; simp; done) | (revert this; simp; omega))
    clear r0_2 rf0_2 r1_2 rf1_2 rl_2
    clear b3 d3
    go_wp2_with fail
    refine (heldRight_kinIs _ l true _ HO3.out.rd HT.out.1).mono ?_
    rintro e w4 ⟨rfl, b4⟩
    have HO4 := hid (HO3.out.later b4)
    have d4 : Below w3.heap.size w3 w4 := (Below.trans (by go_grown) (b4.mono (by first | omega | (simp; done) | (simp; omega))))
    have c4 : Below w.heap.size w w4 := c3.trans (d4.mono c3.size)
    have r0_4 : w4.cell? ⟨w.heap.size, 0, none⟩ = some (.int .i64 0) := (by rw [b4.cell (by first | omega | (simp; done) | (simp; omega))]; go_cell)
    have rf0_4 : w4.frozen? ⟨w.heap.size, 0, none⟩ = false := (by rw [b4.frozen (by first | omega | (simp; done) | (simp; omega))]; (first | go_cell | (simp [World.frozen?, World.alloc]; done) | rfl))
    have r1_4 : w4.cell? ⟨w.heap.size, 1, none⟩ = some (.slice none 0 0) := (by rw [b4.cell (by first | omega | (simp; done) | (simp; omega))]; go_cell)
    have rf1_4 : w4.frozen? ⟨w.heap.size, 1, none⟩ = false := (by rw [b4.frozen (by first | omega | (simp; done) | (simp; omega))]; (first | go_cell | (simp [World.frozen?, World.alloc]; done) | rfl))
    have rl_4 : w.heap.size < w4.heap.size := (by have := b4.size; first | omega | (revert this; simp; done) | (revert this; simp; omega))
    clear r0_3 rf0_3 r1_3 rf1_3 rl_3
    clear b4 d4
    go_wp2_with fail
    refine (heldText_kin _ l _ HO4.out.rd (Nat.le_trans HLen.out (by decide)) (wf_ok HT.out.1) (HL.out.tab.below c4)).mono ?_
    rintro e w5 ⟨rfl, b5⟩
    have HO5 := hid (HO4.out.later b5)
    have d5 : Below w4.heap.size w4 w5 := (Below.trans (by go_grown) (b5.mono (by first | omega | (simp; done) | (simp; omega))))
    have c5 : Below w.heap.size w w5 := c4.trans (d5.mono c4.size)
    have r0_5 : w5.cell? ⟨w.heap.size, 0, none⟩ = some (.int .i64 0) := (by rw [b5.cell (by first | omega | (simp; done) | (simp; omega))]; go_cell)
    have rf0_5 : w5.frozen? ⟨w.heap.size, 0, none⟩ = false := (by rw [b5.frozen (by first | omega | (simp; done) | (simp; omega))]; (first | go_cell | (simp [World.frozen?, World.alloc]; done) | rfl))
    have r1_5 : w5.cell? ⟨w.heap.size, 1, none⟩ = some (.slice none 0 0) := (by rw [b5.cell (by first | omega | (simp; done) | (simp; omega))]; go_cell)
    have rf1_5 : w5.frozen? ⟨w.heap.size, 1, none⟩ = false := (by rw [b5.frozen (by first | omega | (simp; done) | (simp; omega))]; (first | go_cell | (simp [World.frozen?, World.alloc]; done) | rfl))
    have rl_5 : w.heap.size < w5.heap.size := (by have := b5.size; first | omega | (revert this; simp; done) | (revert this; simp; omega))
    clear r0_4 rf0_4 r1_4 rf1_4 rl_4
    clear b5 d5
    have hEq : ((⟨(textL l).toArray⟩ : ByteArray).toList = s.toList) := by rw [toList_same]; exact HT.out.2
    have hm := method_kin (.slice uo l.length uc)
    generalize (⟨(textL l).toArray⟩ : ByteArray) = q at hEq ⊢
    go_wp2_with fail
    refine (kinVal_any uo l.length uc _).mono ?_
    rintro e w6 ⟨rfl, b6⟩
    have HO6 := hid (HO5.out.later b6)
    have d6 : Below w5.heap.size w5 w6 := (Below.trans (by go_grown) (b6.mono (by first | omega | (simp; done) | (simp; omega))))
    have c6 : Below w.heap.size w w6 := c5.trans (d6.mono c5.size)
    have r0_6 : w6.cell? ⟨w.heap.size, 0, none⟩ = some (.int .i64 0) := (by rw [b6.cell (by first | omega | (simp; done) | (simp; omega))]; go_cell)
    have rf0_6 : w6.frozen? ⟨w.heap.size, 0, none⟩ = false := (by rw [b6.frozen (by first | omega | (simp; done) | (simp; omega))]; (first | go_cell | (simp [World.frozen?, World.alloc]; done) | rfl))
    have r1_6 : w6.cell? ⟨w.heap.size, 1, none⟩ = some (.slice none 0 0) := (by rw [b6.cell (by first | omega | (simp; done) | (simp; omega))]; go_cell)
    have rf1_6 : w6.frozen? ⟨w.heap.size, 1, none⟩ = false := (by rw [b6.frozen (by first | omega | (simp; done) | (simp; omega))]; (first | go_cell | (simp [World.frozen?, World.alloc]; done) | rfl))
    have rl_6 : w.heap.size < w6.heap.size := (by have := b6.size; first | omega | (revert this; simp; done) | (revert this; simp; omega))
    clear r0_5 rf0_5 r1_5 rf1_5 rl_5
    clear b6 d6
    go_wp2
    have e0 : ((w6.setCell ⟨w.heap.size, 0, none⟩ (.int .i64 0)).setCell ⟨w.heap.size, 1, none⟩ (.slice uo l.length uc)).cell? ⟨w.heap.size, 0, none⟩ = some (.int .i64 0) := by go_cell
    have e1 : ((w6.setCell ⟨w.heap.size, 0, none⟩ (.int .i64 0)).setCell ⟨w.heap.size, 1, none⟩ (.slice uo l.length uc)).cell? ⟨w.heap.size, 1, none⟩ = some (.slice uo l.length uc) := by go_cell
    have HF := hid (((HO6.out.set_apart (p := ⟨w.heap.size, 0, none⟩) (by show w.heap.size < w1.heap.size; omega) (.int .i64 0)).set_apart (p := ⟨w.heap.size, 1, none⟩) (by show w.heap.size < w1.heap.size; omega) (.slice uo l.length uc)).mono (B' := w.heap.size) (by omega))
    refine bodyPost_ret (v := .tuple #[.agg #[.int .i64 0, .slice uo l.length uc], .bool true]) (by simp [results, Tryz.results18, go_sem, e0, e1]) rfl ⟨⟨0, _, l, true, rfl, HF.out, HN.out⟩, (c6.setCell (p := ⟨w.heap.size, 0, none⟩) (Nat.le_refl _) _).setCell (p := ⟨w.heap.size, 1, none⟩) (Nat.le_refl _) _⟩

set_option maxRecDepth 100000 in
set_option maxHeartbeats 2000000 in
theorem implVRead_none (k : Int) (s : ByteArray) (w : World) (hs : s.size ≤ 1048576) (hk : kindOf k = -1) (hL : Lib4 w) :
    Calls Tryz.prog 18 #[.int .i64 k, .string s] w fun e w' => ValO k s.data.toList w.heap.size w' e ∧ Below w.heap.size w w' := by
  have HL := hid hL
  have HK := hid hk
  have HIN : Hid (¬ (0 ≤ k ∧ k < 24)) := hidT (fun h => by rw [kindOf_in h.1 h.2] at hk; omega)
  have HN : Hid (ValR k s.data.toList 0 [] false) := hidT (Or.inr (Or.inr ⟨by omega, rfl, rfl, rfl⟩))
  clear hL hk
  go_enter Tryz.func18, Tryz.ntmps18
  go_wp2_with fail
  have r0_1 : (w.alloc (.cells #[.int .i64 0, .slice none 0 0] 35)).cell? ⟨w.heap.size, 0, none⟩ = some (.int .i64 0) := by go_cell
  have rf0_1 : (w.alloc (.cells #[.int .i64 0, .slice none 0 0] 35)).frozen? ⟨w.heap.size, 0, none⟩ = false := by (first | go_cell | (simp [World.frozen?, World.alloc]; done) | rfl)
  have r1_1 : (w.alloc (.cells #[.int .i64 0, .slice none 0 0] 35)).cell? ⟨w.heap.size, 1, none⟩ = some (.slice none 0 0) := by go_cell
  have rf1_1 : (w.alloc (.cells #[.int .i64 0, .slice none 0 0] 35)).frozen? ⟨w.heap.size, 1, none⟩ = false := by (first | go_cell | (simp [World.frozen?, World.alloc]; done) | rfl)
  have rl_1 : w.heap.size < (w.alloc (.cells #[.int .i64 0, .slice none 0 0] 35)).heap.size := by first | (simp; done) | (simp; omega)
  have c1 : Below w.heap.size w (w.alloc (.cells #[.int .i64 0, .slice none 0 0] 35)) := by go_grown
  have s1 : (w.alloc (.cells #[.int .i64 0, .slice none 0 0] 35)).heap.size = w.heap.size + 1 := by simp
  generalize (w.alloc (.cells #[.int .i64 0, .slice none 0 0] 35)) = w1 at r0_1 rf0_1 r1_1 rf1_1 rl_1 c1 s1 ⊢
  have qr0_1 := cell_regrown r0_1
  have qr1_1 := cell_regrown r1_1
  refine (readHeld_kin k s _ hs (by rw [HK.out]; decide) (HL.out.below c1)).mono ?_
  rintro e w2 ⟨⟨v, l, b, rfl, ho, hR⟩, b2⟩
  clear ho hR
  have d2 : Below w1.heap.size w1 w2 := (Below.trans (by go_grown) (b2.mono (by first | omega | (simp; done) | (simp; omega))))
  have c2 : Below w.heap.size w w2 := c1.trans (d2.mono c1.size)
  have r0_2 : w2.cell? ⟨w.heap.size, 0, none⟩ = some (.int .i64 0) := (by rw [b2.cell (by first | omega | (simp; done) | (simp; omega))]; go_cell)
  have rf0_2 : w2.frozen? ⟨w.heap.size, 0, none⟩ = false := (by rw [b2.frozen (by first | omega | (simp; done) | (simp; omega))]; (first | go_cell | (simp [World.frozen?, World.alloc]; done) | rfl))
  have r1_2 : w2.cell? ⟨w.heap.size, 1, none⟩ = some (.slice none 0 0) := (by rw [b2.cell (by first | omega | (simp; done) | (simp; omega))]; go_cell)
  have rf1_2 : w2.frozen? ⟨w.heap.size, 1, none⟩ = false := (by rw [b2.frozen (by first | omega | (simp; done) | (simp; omega))]; (first | go_cell | (simp [World.frozen?, World.alloc]; done) | rfl))
  have rl_2 : w.heap.size < w2.heap.size := (by have := b2.size; first | omega | (revert this; simp; done) | (revert this; simp; omega))
  clear r0_1 rf0_1 r1_1 rf1_1 rl_1
  clear b2 d2
  cases b with
  | false =>
    go_wp2
    refine bodyPost_ret (v := .tuple #[.agg #[.int .i64 0, .slice none 0 0], .bool false]) (by simp [results, Tryz.results18, go_sem, r0_2, r1_2]) rfl ⟨valO_no HN.out, by go_grown⟩
  | true =>
    go_wp2_with fail
    refine (keyRight_no k _ HIN.out).mono ?_
    rintro e w3 ⟨rfl, b3⟩
    have d3 : Below w2.heap.size w2 w3 := (Below.trans (by go_grown) (b3.mono (by first | omega | (simp; done) | (simp; omega))))
    have c3 : Below w.heap.size w w3 := c2.trans (d3.mono c2.size)
    have r0_3 : w3.cell? ⟨w.heap.size, 0, none⟩ = some (.int .i64 0) := (by rw [b3.cell (by first | omega | (simp; done) | (simp; omega))]; go_cell)
    have rf0_3 : w3.frozen? ⟨w.heap.size, 0, none⟩ = false := (by rw [b3.frozen (by first | omega | (simp; done) | (simp; omega))]; (first | go_cell | (simp [World.frozen?, World.alloc]; done) | rfl))
    have r1_3 : w3.cell? ⟨w.heap.size, 1, none⟩ = some (.slice none 0 0) := (by rw [b3.cell (by first | omega | (simp; done) | (simp; omega))]; go_cell)
    have rf1_3 : w3.frozen? ⟨w.heap.size, 1, none⟩ = false := (by rw [b3.frozen (by first | omega | (simp; done) | (simp; omega))]; (first | go_cell | (simp [World.frozen?, World.alloc]; done) | rfl))
    have rl_3 : w.heap.size < w3.heap.size := (by have := b3.size; first | omega | (revert this; simp; done) | (revert this; simp; omega))
    clear r0_2 rf0_2 r1_2 rf1_2 rl_2
    clear b3 d3
    go_wp2
    refine bodyPost_ret (v := .tuple #[.agg #[.int .i64 0, .slice none 0 0], .bool false]) (by simp [results, Tryz.results18, go_sem, r0_3, r1_3]) rfl ⟨valO_no HN.out, by go_grown⟩

theorem implVRead_any (k : Int) (s : ByteArray) (w : World) (hs : s.size ≤ 1048576) (hL : Lib4 w) :
    Calls Tryz.prog 18 #[.int .i64 k, .string s] w fun e w' => ValO k s.data.toList w.heap.size w' e ∧ Below w.heap.size w w' := by
  rcases kind_ways k with h | h | h | h
  · exact implVRead_thing k s w hs h hL
  · exact implVRead_kin k s w hs (by omega) hL
  · exact implVRead_kin k s w hs (by omega) hL
  · exact implVRead_none k s w hs h hL
end Go.Proofs.YtdjonplcgmfmgaaGreatDoor

/- Part: impl.edgesFrom with its iterator, impl.EdgeRange, spec.EdgeRange: contracts. -/
namespace Go.Proofs.YtdjonplcgmfmgaaGreatDoor
open Go.RowKit Go.Shelf
attribute [local go_sem] Oper.semAt_some

/-- The edges from a place on; at most n of them. -/
def fromL (l : List (Int × Int)) (s : Int) : List (Int × Int) := if s < 0 then [] else l.drop s.toNat
def rangeL (l : List (Int × Int)) (s n : Int) : List (Int × Int) := (fromL l s).take n.toNat
theorem fromL_length (l : List (Int × Int)) (s : Int) : (fromL l s).length ≤ l.length := by
  unfold fromL
  split
  · simp
  · rw [List.length_drop]; omega
theorem rangeL_length (l : List (Int × Int)) (s n : Int) : (rangeL l s n).length ≤ l.length := by
  unfold rangeL
  rw [List.length_take]
  have := fromL_length l s
  omega
theorem drop_take_more (l : List (Int × Int)) (m q : Nat) (hm : m ≤ q) (hq : q < l.length) : (l.drop m).take (q + 1 - m) = (l.drop m).take (q - m) ++ [l.getD q (0, 0)] := by
  rw [show q + 1 - m = (q - m) + 1 from by omega, List.take_succ_eq_append_getElem (by rw [List.length_drop]; omega)]
  simp [hq, show m + (q - m) = q from by omega]

/-- Below block m all but block B is as it was. -/
def BelowX (m B : Nat) (w w' : World) : Prop := w.heap.size ≤ w'.heap.size ∧ ∀ k, k < m → k ≠ B → w'.heap[k]? = w.heap[k]?
theorem BelowX.refl (m B : Nat) (w : World) : BelowX m B w w := ⟨Nat.le_refl _, fun _ _ _ => rfl⟩
theorem BelowX.trans {m B : Nat} {a b c : World} (h : BelowX m B a b) (k : BelowX m B b c) : BelowX m B a c := ⟨Nat.le_trans h.1 k.1, fun i hi hn => (k.2 i hi hn).trans (h.2 i hi hn)⟩
theorem BelowX.of {m B : Nat} {w w' : World} (h : Below m w w') : BelowX m B w w' := ⟨h.size, fun k hk _ => h.block k hk⟩
theorem BelowX.cell {m B : Nat} {w w' : World} (h : BelowX m B w w') {p : Addr} {v : Value} (hp : p.block < m) (hn : p.block ≠ B) (hc : w.cell? p = some v) : w'.cell? p = some v := (World.cell?_of_block (w := w) (h.2 p.block hp hn)).trans hc
theorem belowX_b {m B : Nat} {w : World} (hm : m ≤ w.heap.size) (W : World) (l : Nat) (o o' : Obj) (hl : w.heap.size ≤ l) (h : W.heap[l]? = some o) (_ : o.isCells = false) (_ : o.isWalk = false) : BelowX m B W (W.putObj l o') :=
  .of ((Below.refl m W).grown (grownBy_putObj' W l o') (by have := (Array.getElem?_eq_some_iff.1 h).1; omega) (fun k e => by cases e; omega))
theorem appendedX {W w1 : World} {m B : Nat} {t e : TypeId} {size : Nat} {v v' : Value} {k k' : Nat} {xs ys : List Value} {tmp : Obj}
    (hv : Boxed W B t v) (hte : t ≠ e) (hrow : W.ownsRow m e size v k xs) (hm : m ≤ W.heap.size) (hown' : w1.ownsRow m e size v' k' ys) (hgrow : (W.alloc tmp).grownBy w1 v.ownBlock) :
    Boxed w1 B t v ∧ Boxed (w1.setCell ⟨B, 0, none⟩ v') B t v' ∧ (w1.setCell ⟨B, 0, none⟩ v').ownsRow m e size v' k' ys ∧ KeepsOthers W (w1.setCell ⟨B, 0, none⟩ v') ∧ BelowX m B W (w1.setCell ⟨B, 0, none⟩ v') := by
  have hv1 : Boxed w1 B t v := (hv.alloc tmp).kept hgrow (hv.not_row hte hrow)
  refine ⟨hv1, hv1.set v', hown'.kept (grownBy_setCell' w1 B v') (.inr (hv1.not_row hte hown').symm), ?_, ?_⟩
  · refine ((KeepsOthers.alloc W tmp).trans (KeepsOthers.of_grownBy hgrow fun j o ej hj => ?_)).trans (KeepsOthers.setCell _ _ _)
    rcases (hrow.alloc tmp).2 with ⟨rfl, _⟩ | ⟨g, cap, cur, rfl, _, hgb, _⟩
    · simp [Value.ownBlock] at ej
    · obtain rfl : g = j := by simpa [Value.ownBlock] using ej
      rw [hgb] at hj; cases hj; rfl
  · refine ⟨?_, fun j hj hne => ?_⟩
    · have h1 := hgrow.size
      simp only [World.size_alloc] at h1
      simp only [World.size_setCell]
      omega
    · rw [Below.heap_setCell _ _ _ _ hne, hgrow.block j (by simp; omega) (fun e' => by have := (hrow.lt j e'.symm).1; omega)]
      exact Below.heap_alloc _ _ _ (by omega)

set_option maxRecDepth 100000 in
set_option maxHeartbeats 2000000 in
theorem from1_in (n : Nat) (hn : 1 ≤ n) (l0 Bl Bs : Nat) (v : Value) (l : List (Int × Int)) (s : Int) (X : Nat) (Wz : World) (hv : Rd Wz v l) (hX : 0 < l.length → ∀ k, v.ownBlock = some k → k ≠ X) (hXl : Bl ≠ X)
    (z1 : Wz.cell? ⟨Bl, 0, none⟩ = some v) (z2 : Wz.cell? ⟨Bs, 0, none⟩ = some (.int .i64 s))
    (J Jx : List (Int × Int) → World → Prop) (W : World) (hW : Below Wz.heap.size Wz W)
    (hY : ∀ pre x W1, J pre W1 → pre.length < l.length → YieldAt Fence.wide (n - 1) Tryz.prog l0 #[.agg #[.int .i64 x.1, .int .i64 x.2]] W1 fun e W' =>
      (e = .returned (.bool true) ∧ J (pre ++ [x]) W' ∧ BelowX Wz.heap.size X W1 W') ∨ (e = .returned (.bool false) ∧ Jx (pre ++ [x]) W')) (h0 : J [] W) :
    CallsIn Fence.wide n Tryz.prog 55 #[.func (.yield l0) #[] #[], .pointer (some ⟨Bs, 0, none⟩), .pointer (some ⟨Bl, 0, none⟩)] W fun e W' => (∃ v, e = .returned v) ∧
      ((∃ ys, ys = fromL l s ∧ J ys W') ∨ (∃ pre, pre <+: fromL l s ∧ Jx pre W')) := by
  obtain ⟨ao, cap, rfl, hl, hc⟩ := hv
  unfold maxLen at hl
  have hlz := World.block_lt_of_cell? _ _ z1
  have y1 : W.cell? ⟨Bl, 0, none⟩ = some (.slice ao l.length cap) := cell_later hW z1
  have y2 : W.cell? ⟨Bs, 0, none⟩ = some (.int .i64 s) := cell_later hW z2
  have HY := hid hY
  clear hY
  by_cases hneg : s < 0
  · have hF : fromL l s = [] := by simp [fromL, hneg]
    rw [hF]
    clear hF
    refine callsIn_of_wp Tryz.func55 rfl trivial ?_ rfl
    simp only [Tryz.ntmps55, List.size_toArray, List.length_cons, List.length_nil, Nat.reduceAdd, Nat.reduceSub, Array.replicate_succ, Array.replicate_zero, List.push_toArray, List.append_toArray, List.nil_append, List.cons_append]
    gi_wp2
    refine bodyPost_ret (results_none rfl _ _ _) rfl ?_
    first | exact ⟨⟨_, rfl⟩, .inl h0⟩ | exact ⟨⟨_, rfl⟩, .inl ⟨[], rfl, h0⟩⟩
  · obtain ⟨m, hm⟩ := Int.eq_ofNat_of_zero_le (Int.not_lt.1 hneg)
    subst hm
    have hF : fromL l (m : Int) = l.drop m := by unfold fromL; rw [if_neg (by omega)]; simp
    rw [hF]
    clear hF hneg
    refine callsIn_of_wp Tryz.func55 rfl trivial ?_ rfl
    simp only [Tryz.ntmps55, List.size_toArray, List.length_cons, List.length_nil, Nat.reduceAdd, Nat.reduceSub, Array.replicate_succ, Array.replicate_zero, List.push_toArray, List.append_toArray, List.nil_append, List.cons_append]
    gi_wp2
    gi_loopw [4] (fun i wr => ∃ q : Nat, m ≤ q ∧ (q = m ∨ q ≤ l.length) ∧ i = .int .i64 q ∧ J ((l.drop m).take (q - m)) wr ∧ BelowX Wz.heap.size X Wz wr) (fun i _ => l.length - (intOf i).toNat)
    case atStart => exact ⟨m, Nat.le_refl _, .inl rfl, rfl, by simpa using h0, .of hW⟩
    case round =>
      obtain ⟨q, hmq, hql, rfl, hJs, hbel⟩ := hrel
      by_cases hlt : q < l.length
      · obtain ⟨b, o, rfl, hb, hcc⟩ := hc (by omega)
        obtain ⟨c0, c1⟩ := hcc q hlt
        have hbX := hX (by omega) b rfl
        have c0 := hbel.cell (p := ⟨b, o + q * 2, none⟩) hb hbX c0
        have c1 := hbel.cell (p := ⟨b, o + q * 2 + 1, none⟩) hb hbX c1
        have x1 := hbel.cell hlz hXl z1
        have HM := hid (drop_take_more l m q hmq hlt)
        clear hcc hc y1 y2
        obtain ⟨fn, tmps, assign, body, hy, hR⟩ := HY.out _ (l.getD q (0, 0)) wr hJs (by rw [List.length_take, List.length_drop]; omega)
        generalize l.getD q (0, 0) = x at *
        gi_wp2
        refine hR.mono ?_
        rintro e W3 (⟨rfl, hJ3, hk3⟩ | ⟨rfl, hJx3⟩)
        · have hb3 : BelowX Wz.heap.size X Wz W3 := hbel.trans hk3
          gi_wp2
          go_roundw
          case rel => exact ⟨q + 1, by omega, by omega, by simp, by rw [HM.out]; exact hJ3, hb3⟩
          case measure => simp [intOf]; omega
        · gi_wp2
          refine bodyPost_ret (results_none rfl _ _ _) rfl ?_
          exact ⟨⟨_, rfl⟩, .inr ⟨_, by rw [← HM.out]; exact List.take_prefix _ _, hJx3⟩⟩
      · have x1 := hbel.cell hlz hXl z1
        have hJe : J (l.drop m) wr := by
          have e : (l.drop m).take (q - m) = l.drop m := List.take_of_length_le (by rw [List.length_drop]; omega)
          rw [← e]; exact hJs
        clear hJs
        gi_wp2
        go_end0
        exact ⟨⟨_, rfl⟩, .inl ⟨_, rfl, hJe⟩⟩

theorem from1_stops (n : Nat) (hn : 1 ≤ n) (Bl Bs : Nat) (v : Value) (l : List (Int × Int)) (s : Int) (X : Nat) (Wz : World) (hv : Rd Wz v l) (hX : 0 < l.length → ∀ k, v.ownBlock = some k → k ≠ X) (hXl : Bl ≠ X)
    (z1 : Wz.cell? ⟨Bl, 0, none⟩ = some v) (z2 : Wz.cell? ⟨Bs, 0, none⟩ = some (.int .i64 s)) :
    SeqStopsK Fence.wide n Tryz.prog 55 #[.pointer (some ⟨Bs, 0, none⟩), .pointer (some ⟨Bl, 0, none⟩)] encE (BelowX Wz.heap.size X) (fun ys => ys = fromL l s) (fun pre => pre <+: fromL l s) l.length Wz :=
  fun l0 J Jx W hW _ _ hY h0 => from1_in n hn l0 Bl Bs v l s X Wz hv hX hXl z1 z2 J Jx W hW hY h0

set_option maxHeartbeats 400000 in
theorem from_any (ao : Option Addr) (n cap : Nat) (s : Int) (w : World) :
    Calls Tryz.prog 28 #[.slice ao n cap, .int .i64 s] w fun e w' => e = .returned (.func (.func 55) #[] #[.pointer (some ⟨w.heap.size + 1, 0, none⟩), .pointer (some ⟨w.heap.size, 0, none⟩)]) ∧
      w' = (w.alloc (.cells #[.slice ao n cap] 23)).alloc (.cells #[.int .i64 s] 3) := by
  go_enter Tryz.func28, Tryz.ntmps28
  go_wp2
  go_ret
  exact ⟨by simp, rfl⟩

theorem prefix_take {α : Type} {pre dl : List α} {x : α} {n : Int} (hp : pre ++ [x] <+: dl) (h1 : pre = [] ∨ (pre.length : Int) ≤ n) (h2 : n ≤ (pre.length : Int)) : dl.take n.toNat = pre := by
  obtain ⟨t, rfl⟩ := hp
  have e : n.toNat = pre.length := by
    rcases h1 with rfl | h1
    · simp at h2 ⊢; omega
    · omega
  rw [e, List.append_assoc, List.take_left']
  rfl

set_option maxRecDepth 100000 in
set_option maxHeartbeats 2000000 in
theorem implRange_any (v : Value) (l : List (Int × Int)) (s n : Int) (w : World) (h : Rd w v l) (hl : l.length ≤ 1099511627776) :
    Calls Tryz.prog 6 #[v, .int .i64 s, .int .i64 n] w fun e W' => ∃ v', e = .returned v' ∧ Own W' w.heap.size v' (rangeL l s n) ∧ Below w.heap.size w W' := by
  have H := hid h
  obtain ⟨ao, cap, hv, _, _⟩ := h
  subst hv
  obtain ⟨i0, hi, hz0, hz1, hz2⟩ := info_parts Tryz.info53
  refine (callsIn_wide (n := 3)).1 ?_
  refine callsIn_of_wp_marks Tryz.func6 rfl trivial ?_ rfl
  simp only [Tryz.ntmps6, List.size_toArray, List.length_cons, List.length_nil, Nat.reduceAdd, Nat.reduceSub, Array.replicate_succ, Array.replicate_zero, List.push_toArray, List.append_toArray, List.nil_append, List.cons_append]
  gi_wp2_with fail
  refine ⟨trivial, (callsIn_wide.2 (from_any ao l.length cap s _)).mono ?_⟩
  rintro e w3 ⟨rfl, hw3⟩
  have hB : Below w.heap.size w w3 := by rw [hw3]; go_grown
  have s3 : w3.heap.size = w.heap.size + 4 := by rw [hw3]; simp
  have bN : Boxed w3 w.heap.size 3 (.int .i64 n) := by rw [hw3]; exact (((Boxed.new w _ _).alloc _).alloc _).alloc _
  have bO : Boxed w3 (w.heap.size + 1) 23 (.slice none 0 0) := by
    rw [hw3]
    have := ((Boxed.new (w.alloc (.cells #[.int .i64 n] 3)) 23 (.slice none 0 0)).alloc (.cells #[.slice ao l.length cap] 23)).alloc (.cells #[.int .i64 s] 3)
    simpa using this
  have z1 : w3.cell? ⟨w.heap.size + 1 + 1, 0, none⟩ = some (.slice ao l.length cap) := by rw [hw3]; simp [go_sem]
  have z2 : w3.cell? ⟨w.heap.size + 1 + 1 + 1, 0, none⟩ = some (.int .i64 s) := by rw [hw3]; simp [go_sem]
  clear hw3
  have H3 : Hid (Rd w3 (.slice ao l.length cap) l) := Rd.later H.out hB
  have HX : Hid (0 < l.length → ∀ k, (Value.slice ao l.length cap).ownBlock = some k → k ≠ w.heap.size + 1) := fun h0 k hk => by
    obtain ⟨ao', cap', hv', _, hc'⟩ := H.out
    obtain ⟨b, off, ha, hb, _⟩ := hc' h0
    cases hv'
    rw [ha] at hk
    simp only [Value.ownBlock, Option.some.injEq] at hk
    omega
  gi_wp2
  refine wpIn_rangeFunc_ownH rfl (by omega) (gf := 55) (lb := #[.pointer (some ⟨w.heap.size + 1 + 1 + 1, 0, none⟩), .pointer (some ⟨w.heap.size + 1 + 1, 0, none⟩)]) rfl trivial (enters_of Tryz.func55 (by kernel_rfl) rfl)
    (from1_stops 2 (by omega) _ _ _ l s (w.heap.size + 1) w3 H3.out HX.out (by omega) z1 z2) BelowX.trans (belowX_b (Nat.le_refl _)) (Below.refl _ _) (fun _ => rfl)
    (fun pre W => ((∃ v, Boxed W (w.heap.size + 1) 23 v ∧ W.ownsRow w3.heap.size 53 2 v pre.length (ecells pre)) ∧ Boxed W w.heap.size 3 (.int .i64 n)) ∧ (pre = [] ∨ (pre.length : Int) ≤ n) ∧ BelowX w3.heap.size (w.heap.size + 1) w3 W ∧ Below w.heap.size w W)
    (fun c pre W => c = .exit 0 ∧ ∃ y x, pre = y ++ [x] ∧ (y = [] ∨ (y.length : Int) ≤ n) ∧ n ≤ (y.length : Int) ∧ (∃ v, Boxed W (w.heap.size + 1) 23 v ∧ W.ownsRow w3.heap.size 53 2 v y.length (ecells y)) ∧ Below w.heap.size w W)
    (fun pre A B row hs hg hr => ⟨⟨rowbox_ownFrom _ _ _ pre () A B row hs.1.1 hg hr, boxed_own _ _ (fun (_ : Unit) => Value.int .i64 n) () A B row hs.1.2 hg (fun r e => (hr r e).2)⟩, hs.2.1,
      ⟨Nat.le_trans hs.2.2.1.1 hg.size, fun k hk hne => (hg.block k (Nat.lt_of_lt_of_le hk hs.2.2.1.1) (fun e => by have := (hr k e.symm).1; omega)).trans (hs.2.2.1.2 k hk hne)⟩,
      ownFrom_below (β := Unit) (Nat.le_refl _) (by omega) () A B row hs.2.2.2 hg hr⟩)
    (fun c pre A B row hs hg hr => by
      obtain ⟨h1, y, x, h2, h3, h4, h5, h6⟩ := hs
      exact ⟨h1, y, x, h2, h3, h4, rowbox_ownFrom _ _ _ y () A B row h5 hg hr, ownFrom_below (β := Unit) (Nat.le_refl _) (by omega) () A B row h6 hg hr⟩)
    ⟨⟨⟨_, bO, World.ownsRow_nil _ _ _ _⟩, bN⟩, .inl rfl, BelowX.refl _ _ _, hB⟩
    (fun x a' W => ∃ Bx, w.heap.size + 1 < Bx ∧ PairAt W Bx x ∧ a' = { tmps := #[.slice ao l.length cap, .int .i64 s, .int .i64 n, undef, undef, .pointer (some ⟨w.heap.size, 0, none⟩), .slice none 0 0, .pointer (some ⟨w.heap.size + 1, 0, none⟩), .pointer (some ⟨Bx, 0, none⟩), .slice ao l.length cap, .int .i64 s, .func (.func 55) #[] #[.pointer (some ⟨w.heap.size + 1 + 1 + 1, 0, none⟩), .pointer (some ⟨w.heap.size + 1 + 1, 0, none⟩)], .agg #[.int .i64 x.1, .int .i64 x.2], undef, undef, undef, undef, undef, undef, undef, undef, undef], defers := [] })
    (fun x a' _ X Y row hs hg hr => by obtain ⟨Bx, h1, h2, h3⟩ := hs; exact ⟨Bx, h1, PairAt.ownFrom _ Bx x () X Y row h2 hg hr, h3⟩)
    ?assign ?body ?done ?stop
  case assign =>
    rintro l2 pre x W K ⟨⟨⟨v, hv, hrow⟩, hN⟩, hpl, hX, hBW⟩ hK
    gi_wp2
    exact hK _ _ ((KeepsOthers.alloc _ _).from _) (.of ((Below.refl _ W).alloc hX.1 _)) ⟨⟨⟨v, hv.alloc _, hrow.alloc _⟩, hN.alloc _⟩, hpl, hX.trans (.of ((Below.refl _ W).alloc hX.1 _)), hBW.alloc hBW.size _⟩ ⟨W.heap.size, hv.lt, PairAt.new W x, rfl⟩
  case body =>
    rintro l2 pre x a' W hl2 ⟨r, hr⟩ ⟨⟨⟨v, hv, hrow⟩, hN⟩, hpl, hX, hBW⟩ ⟨Bx, hBx, hP, rfl⟩ hlt
    obtain ⟨av, cv, rfl⟩ := row_form hrow
    have hc := hv.cell
    have hcn := hN.cell
    have p0 := hP.c0
    have p1 := hP.c1
    have hk1 : pre.length + 1 ≤ maxLen := by unfold maxLen; omega
    have hk2 : (pre.length + 1) * 16 ≤ 140737488355328 := by omega
    have hbs : w3.heap.size ≤ (W.alloc (.cells #[.int .i64 x.1, .int .i64 x.2] 53)).heap.size := by have := hX.1; simp; omega
    have HPL := hid hpl
    clear hpl
    by_cases hfull : n ≤ (pre.length : Int)
    · gi_wp2
      exact ⟨KeepsFrom.refl _ _, rfl, pre, x, rfl, HPL.out, hfull, ⟨_, hv, hrow⟩, hBW⟩
    · have hroom : (pre.length : Int) < n := by omega
      clear hfull
      gi_wp2_with (gi_at_builtin; refine wpListIn_append_own _ rfl _ _ 23 rfl w3.heap.size 53 i0 (.agg #[.int .i64 0, .int .i64 0]) 2 16 Tryz.underlying23 hi hz0 hz1 hz2 rfl (by decide) _ _ _ rfl (hrow.alloc _) ⟨W.heap.size, 0, none⟩ 1 1 [.int .i64 x.1, .int .i64 x.2] rfl rfl (cells_two_new _ _ _ _) (by simp [Value.oneCell']) hk1 hk2 hbs ?_; intro v' w1 hown' hgrow _; obtain ⟨g', cap', rfl⟩ := ownsRow_succ hown'; obtain ⟨hv1, hv2, hr2, hk2, hb2⟩ := appendedX hv (by decide) hrow hX.1 hown' hgrow; have hc1 := hv1.cell; have hf1 := hv1.frozen)
      have hbW : Below w.heap.size W _ := (((Below.refl w.heap.size W).alloc hBW.size (.cells #[.int .i64 x.1, .int .i64 x.2] 53)).grown hgrow (by have := hBW.size; simp; omega) (fun j ej => by have := (hrow.lt j ej).1; omega)).setCell (p := ⟨w.heap.size + 1, 0, none⟩) (by simp) (.slice (some ⟨g', 0, none⟩) (pre.length + 1) cap')
      exact ⟨hk2.from _, hb2, ⟨⟨_, hv2, by rw [ecells_append]; simpa [ecells] using hr2⟩, ((hN.alloc (.cells #[.int .i64 x.1, .int .i64 x.2] 53)).kept hgrow ((hN.alloc (.cells #[.int .i64 x.1, .int .i64 x.2] 53)).not_row (by decide) (hrow.alloc _))).other (by omega) _⟩, .inr (by simp; omega), hX.trans hb2, hBW.trans hbW⟩
  case done =>
    rintro D ys W hD rfl ⟨⟨⟨v, hv, hrow⟩, hN⟩, hpl, hX, hBW⟩ hK
    have hc := hv.cell
    have hfin : rangeL l s n = fromL l s := by
      unfold rangeL
      rcases hpl with e | e
      · rw [e]; simp
      · exact List.take_of_length_le (by omega)
    have HF := hid hfin
    clear hfin hpl
    gi_wp2
    refine ⟨by simp, .inl ⟨_, _, rfl, run_takeDeferred hK, ?_⟩⟩
    exact ⟨_, results_tmp rfl _ _ _, v, rfl, (by rw [HF.out]; exact row_mono (ownsRow_putObj hrow _ hK rfl) (by omega)), hBW.trans (belowK_b (w := w) (Nat.le_refl _) W D _ _ (by omega) hK rfl rfl)⟩
  case stop =>
    rintro D c pre W hD hsp ⟨rfl, y, x, rfl, hy, hny, ⟨v, hv, hrow⟩, hBW⟩ hK
    have hc := hv.cell
    have hfin : rangeL l s n = y := prefix_take hsp hy hny
    have HF := hid hfin
    clear hfin hy hny hsp
    gi_wp2
    refine ⟨by simp, .inl ⟨_, _, rfl, run_takeDeferred hK, ?_⟩⟩
    exact ⟨_, results_tmp rfl _ _ _, v, rfl, (by rw [HF.out]; exact row_mono (ownsRow_putObj hrow _ hK rfl) (by omega)), hBW.trans (belowK_b (w := w) (Nat.le_refl _) W D _ _ (by omega) hK rfl rfl)⟩

theorem rangeL_more (l : List (Int × Int)) (s n : Int) (k : Nat) (hk : k < l.length) :
    rangeL (l.take (k + 1)) s n = if 0 ≤ s ∧ s ≤ (k : Int) ∧ ((rangeL (l.take k) s n).length : Int) < n then rangeL (l.take k) s n ++ [l.getD k (0, 0)] else rangeL (l.take k) s n := by
  unfold rangeL fromL
  by_cases hs : s < 0
  · rw [if_pos hs, if_pos hs, if_neg (by omega)]
  · obtain ⟨m, rfl⟩ := Int.eq_ofNat_of_zero_le (Int.not_lt.1 hs)
    rw [if_neg hs, if_neg hs]
    simp only [Int.toNat_natCast]
    by_cases hm : m ≤ k
    · have hx : l.getD k (0, 0) = l[k] := by simp [hk]
      have e : (l.take (k + 1)).drop m = (l.take k).drop m ++ [l.getD k (0, 0)] := by
        rw [List.take_succ_eq_append_getElem hk, List.drop_append_of_le_length (by rw [List.length_take]; omega), hx]
      rw [e]
      generalize (l.take k).drop m = A
      by_cases hn : ((A.take n.toNat).length : Int) < n
      · rw [if_pos ⟨by omega, by omega, hn⟩]
        rw [List.length_take] at hn
        rw [List.take_of_length_le (by simp; omega), List.take_of_length_le (by omega)]
      · rw [if_neg (fun h => hn h.2.2)]
        rw [List.length_take] at hn
        rw [List.take_append_of_le_length (by omega)]
    · rw [if_neg (fun h => hm (by omega)), List.drop_of_length_le (by rw [List.length_take]; omega), List.drop_of_length_le (by rw [List.length_take]; omega)]

set_option maxHeartbeats 2000000 in
theorem specRange_any (v : Value) (l : List (Int × Int)) (s n : Int) (w : World) (h : Rd w v l) (hll : l.length ≤ 1099511627776) :
    Calls Tryz.prog 8 #[v, .int .i64 s, .int .i64 n] w fun e w' => ∃ v', e = .returned v' ∧ Own w' w.heap.size v' (rangeL l s n) ∧ Below w.heap.size w w' := by
  obtain ⟨ao, cap, rfl, _, hc⟩ := h
  obtain ⟨i0, hi, hz0, hz1, hz2⟩ := info_parts Tryz.info53
  go_enter Tryz.func8, Tryz.ntmps8
  go_wp2
  go_loopw [7, 8] (fun u i wr => ∃ k : Nat, k ≤ l.length ∧ i = .int .i64 k ∧ wr.ownsRow w.heap.size 53 2 u (rangeL (l.take k) s n).length (ecells (rangeL (l.take k) s n)) ∧ Below w.heap.size w wr) (fun _ i _ => l.length - (intOf i).toNat)
  case atStart =>
    have e : rangeL (l.take 0) s n = [] := by simp [rangeL, fromL]
    exact ⟨0, Nat.zero_le _, rfl, by rw [e]; exact World.ownsRow_lit w #[] 0 (Nat.le_refl _) (Nat.zero_le _) rfl, by go_grown⟩
  case round =>
    obtain ⟨k, hk, rfl, hrow, hbel⟩ := hrel
    have hsz := hbel.size
    by_cases hlt : k < l.length
    · obtain ⟨b, o, rfl, hb, hcc⟩ := hc (by omega)
      obtain ⟨c0, c1⟩ := hcc k hlt
      rw [← hbel.cell (p := ⟨b, o + k * 2, none⟩) hb] at c0
      rw [← hbel.cell (p := ⟨b, o + k * 2 + 1, none⟩) hb] at c1
      have HM := hid (rangeL_more l s n k hlt)
      have hfl : (rangeL (l.take k) s n).length ≤ k := by have := rangeL_length (l.take k) s n; rw [List.length_take] at this; omega
      generalize hR : rangeL (l.take k) s n = R at *
      clear hR
      have hk1 : R.length + 1 ≤ maxLen := by unfold maxLen; omega
      have hk2 : (R.length + 1) * 16 ≤ 140737488355328 := by omega
      clear hcc hc
      generalize l.getD k (0, 0) = x at *
      have hbs : w.heap.size ≤ (wr.alloc (.cells #[.int .i64 x.1, .int .i64 x.2] 53)).heap.size := by simp; omega
      obtain ⟨av, cv, rfl⟩ := row_form hrow
      by_cases h1 : 0 ≤ s
      · by_cases h2 : s ≤ (k : Int)
        · by_cases h3 : (R.length : Int) < n
          · have HN : Hid (rangeL (l.take (k + 1)) s n = R ++ [x]) := by
              have := HM.out
              rw [if_pos ⟨h1, h2, h3⟩] at this
              exact this
            clear HM
            go_wp2_with (first | (at_builtin; refine wpList_append_own _ rfl _ _ 23 rfl w.heap.size 53 i0 (.agg #[.int .i64 0, .int .i64 0]) 2 16 Tryz.underlying23 hi hz0 hz1 hz2 rfl (by decide) _ _ _ rfl (hrow.alloc _) ⟨wr.heap.size, 0, none⟩ 1 1 [.int .i64 x.1, .int .i64 x.2] rfl rfl (cells_two_new _ _ _ _) (by simp [Value.oneCell']) hk1 hk2 hbs ?_; intro v' w1 hown' hgrow' _))
            go_roundw
            case rel => exact ⟨k + 1, by omega, by go_num, by rw [HN.out, ecells_append]; simpa [ecells] using hown', (hbel.trans (((Below.refl _ wr).alloc (Nat.le_refl _) _).mono hsz)).grown hgrow' hbs (fun j ej => (hrow.lt j ej).1)⟩
            case measure => simp [intOf]; omega
          · have HN : Hid (rangeL (l.take (k + 1)) s n = R) := by
              have := HM.out
              rw [if_neg (fun h => h3 h.2.2)] at this
              exact this
            clear HM
            go_wp2
            go_roundw
            case rel => exact ⟨k + 1, by omega, by go_num, by rw [HN.out]; exact hrow, hbel⟩
            case measure => simp [intOf]; omega
        · have HN : Hid (rangeL (l.take (k + 1)) s n = R) := by
            have := HM.out
            rw [if_neg (fun h => h2 h.2.1)] at this
            exact this
          clear HM
          go_wp2
          go_roundw
          case rel => exact ⟨k + 1, by omega, by go_num, by rw [HN.out]; exact hrow, hbel⟩
          case measure => simp [intOf]; omega
      · have HN : Hid (rangeL (l.take (k + 1)) s n = R) := by
          have := HM.out
          rw [if_neg (fun h => h1 h.1)] at this
          exact this
        clear HM
        go_wp2
        go_roundw
        case rel => exact ⟨k + 1, by omega, by go_num, by rw [HN.out]; exact hrow, hbel⟩
        case measure => simp [intOf]; omega
    · obtain rfl : k = l.length := by omega
      rw [List.take_length] at hrow
      have HR := hid hrow
      clear hrow
      go_wp2
      go_ret
      exact ⟨_, by simp, HR.out, hbel⟩
end Go.Proofs.YtdjonplcgmfmgaaGreatDoor

/- Part: impl.EdgeTime: its test, the iterator with it, the function; spec.EdgeTime: contracts. -/
namespace Go.Proofs.YtdjonplcgmfmgaaGreatDoor
open Go.RowKit Go.Shelf
attribute [local go_sem] Oper.semAt_some

def inTime (low high : Int) (x : Int × Int) : Bool := decide (low ≤ x.2) && decide (x.2 ≤ high)

set_option maxHeartbeats 1000000 in
theorem time1_any (a b low high : Int) (B B' : Nat) (w : World) (hc : w.cell? ⟨B, 0, none⟩ = some (.int .i64 low)) (hc' : w.cell? ⟨B', 0, none⟩ = some (.int .i64 high)) :
    Calls Tryz.prog 32 #[.agg #[.int .i64 a, .int .i64 b], .pointer (some ⟨B, 0, none⟩), .pointer (some ⟨B', 0, none⟩)] w fun e w' => e = .returned (.bool (inTime low high (a, b))) ∧ Below w.heap.size w w' := by
  have hB := World.block_lt_of_cell? _ _ hc
  have hne : w.heap.size ≠ B := by simp only at hB; omega
  have hB' := World.block_lt_of_cell? _ _ hc'
  have hne' : w.heap.size ≠ B' := by simp only at hB'; omega
  go_enter Tryz.func32, Tryz.ntmps32
  go_wp2
  all_goals
    go_ret
    exact ⟨by first | (simp_all [inTime]; done) | (simp [inTime]; omega), by go_grown⟩

set_option maxRecDepth 100000 in
set_option maxHeartbeats 2000000 in
theorem that1T_in (n : Nat) (hn : 1 ≤ n) (l0 Bl Bw Bo Bp : Nat) (v : Value) (l : List (Int × Int)) (low high : Int) (Wz : World) (hv : Rd Wz v l)
    (z1 : Wz.cell? ⟨Bl, 0, none⟩ = some v) (z2 : Wz.cell? ⟨Bw, 0, none⟩ = some (.func (.func 32) #[] #[.pointer (some ⟨Bo, 0, none⟩), .pointer (some ⟨Bp, 0, none⟩)])) (z3 : Wz.cell? ⟨Bo, 0, none⟩ = some (.int .i64 low)) (z4 : Wz.cell? ⟨Bp, 0, none⟩ = some (.int .i64 high))
    (J Jx : List (Int × Int) → World → Prop) (W : World) (hW : Below Wz.heap.size Wz W) (hJ : AbidesFrom W.heap.size J)
    (hY : ∀ pre x W1, J pre W1 → pre.length < l.length → YieldAt Fence.wide (n - 1) Tryz.prog l0 #[.agg #[.int .i64 x.1, .int .i64 x.2]] W1 fun e W' =>
      (e = .returned (.bool true) ∧ J (pre ++ [x]) W' ∧ Below Wz.heap.size W1 W') ∨ (e = .returned (.bool false) ∧ Jx (pre ++ [x]) W')) (h0 : J [] W) :
    CallsIn Fence.wide n Tryz.prog 56 #[.func (.yield l0) #[] #[], .pointer (some ⟨Bl, 0, none⟩), .pointer (some ⟨Bw, 0, none⟩)] W fun e W' => (∃ v, e = .returned v) ∧
      ((∃ ys, ys = l.filter (inTime low high) ∧ J ys W') ∨ (∃ pre, pre <+: l.filter (inTime low high) ∧ Jx pre W')) := by
  obtain ⟨ao, cap, rfl, hl, hc⟩ := hv
  unfold maxLen at hl
  have y1 : W.cell? ⟨Bl, 0, none⟩ = some (.slice ao l.length cap) := cell_later hW z1
  have y2 : W.cell? ⟨Bw, 0, none⟩ = some (.func (.func 32) #[] #[.pointer (some ⟨Bo, 0, none⟩), .pointer (some ⟨Bp, 0, none⟩)]) := cell_later hW z2
  have HY := hid hY
  clear hY
  refine callsIn_of_wp Tryz.func56 rfl trivial ?_ rfl
  simp only [Tryz.ntmps56, List.size_toArray, List.length_cons, List.length_nil, Nat.reduceAdd, Nat.reduceSub, Array.replicate_succ, Array.replicate_zero, List.push_toArray, List.append_toArray, List.nil_append, List.cons_append]
  gi_wp2
  gi_loopw [8] (fun i wr => ∃ k : Nat, k ≤ l.length ∧ i = .int .i64 k ∧ J ((l.take k).filter (inTime low high)) wr ∧ Below Wz.heap.size Wz wr ∧ W.heap.size ≤ wr.heap.size) (fun i _ => l.length - (intOf i).toNat)
  case atStart => exact ⟨0, Nat.zero_le _, rfl, by simpa using h0, hW, Nat.le_refl _⟩
  case round =>
    obtain ⟨k, hk, rfl, hJs, hbel, hszw⟩ := hrel
    have hsz := hbel.size
    by_cases hlt : k < l.length
    · obtain ⟨b, o, rfl, hb, hcc⟩ := hc (by omega)
      obtain ⟨c0, c1⟩ := hcc k hlt
      rw [← hbel.cell (p := ⟨b, o + k * 2, none⟩) hb] at c0
      rw [← hbel.cell (p := ⟨b, o + k * 2 + 1, none⟩) hb] at c1
      have x2 := cell_later hbel z2
      have x3 := cell_later hbel z3
      have x4 := cell_later hbel z4
      have x2a := fun o1 => cell_later ((Below.refl wr.heap.size wr).alloc (Nat.le_refl _) o1) x2
      have hmore := filter_more l (inTime low high) k hlt
      have hfl := filter_take_lt l (inTime low high) k hlt
      generalize l.getD k (0, 0) = x at *
      have HM := hid hmore
      clear hmore hcc hc y1 y2
      have x3a := fun o1 => cell_later ((Below.refl wr.heap.size wr).alloc (Nat.le_refl _) o1) x3
      have x4a := fun o1 => cell_later ((Below.refl wr.heap.size wr).alloc (Nat.le_refl _) o1) x4
      by_cases hp : inTime low high x = true
      · gi_wp2_with fail
        refine ⟨trivial, (callsIn_wide.2 (time1_any _ _ low high Bo Bp _ (x3a _) (x4a _))).mono ?_⟩
        rintro e w2 ⟨rfl, hb2⟩
        have hbA : Below wr.heap.size wr w2 := ((Below.refl wr.heap.size wr).alloc (Nat.le_refl _) _).trans (hb2.mono (by simp))
        have hJ2 := hJ _ wr w2 none hJs (grown_of_below hbA) (fun r e => by cases e)
        obtain ⟨fn, tmps, assign, body, hy, hR⟩ := HY.out _ x w2 hJ2 hfl
        have e0 := cell_later hb2 (show (wr.alloc (.cells #[.int .i64 x.1, .int .i64 x.2] 53)).cell? ⟨wr.heap.size, 0, none⟩ = some (.int .i64 x.1) by simp [go_sem])
        have e1 := cell_later hb2 (show (wr.alloc (.cells #[.int .i64 x.1, .int .i64 x.2] 53)).cell? ⟨wr.heap.size, 1, none⟩ = some (.int .i64 x.2) by simp [go_sem])
        gi_wp2
        refine hR.mono ?_
        rintro e W3 (⟨rfl, hJ3, hk3⟩ | ⟨rfl, hJx3⟩)
        · have hb23 : Below Wz.heap.size Wz W3 := (hbel.trans (hbA.mono hsz)).trans hk3
          gi_wp2
          go_roundw
          case rel => exact ⟨k + 1, by omega, by simp, by rw [HM.out, if_pos hp]; exact hJ3, hb23, Nat.le_trans hszw (Nat.le_trans hbA.size hk3.size)⟩
          case measure => simp [intOf]; omega
        · gi_wp2
          refine bodyPost_ret (results_none rfl _ _ _) rfl ?_
          exact ⟨⟨_, rfl⟩, .inr ⟨_, by rw [← if_pos (c := inTime low high x = true) (t := (l.take k).filter (inTime low high) ++ [x]) (e := (l.take k).filter (inTime low high)) hp, ← HM.out]; exact filter_take_prefix l _ _, hJx3⟩⟩
      · have hp' : inTime low high x = false := by simpa using hp
        clear hp
        gi_wp2_with fail
        refine ⟨trivial, (callsIn_wide.2 (time1_any _ _ low high Bo Bp _ (x3a _) (x4a _))).mono ?_⟩
        rintro e w2 ⟨rfl, hb2⟩
        have hbA : Below wr.heap.size wr w2 := ((Below.refl wr.heap.size wr).alloc (Nat.le_refl _) _).trans (hb2.mono (by simp))
        have hJ2 := hJ _ wr w2 none hJs (grown_of_below hbA) (fun r e => by cases e)
        gi_wp2
        refine ⟨fun _ h => (by cases h), ?_⟩
        gi_wp2
        go_roundw
        case rel => exact ⟨k + 1, by omega, by simp, by rw [HM.out, if_neg (by rw [hp']; decide)]; exact hJ2, hbel.trans (hbA.mono hsz), Nat.le_trans hszw hbA.size⟩
        case measure => simp [intOf]; omega
    · obtain rfl : k = l.length := by omega
      gi_wp2
      go_end0
      exact ⟨⟨_, rfl⟩, .inl ⟨_, by rw [List.take_length], hJs⟩⟩

theorem that1T_stops (n : Nat) (hn : 1 ≤ n) (Bl Bw Bo Bp : Nat) (v : Value) (l : List (Int × Int)) (low high : Int) (Wz : World) (hv : Rd Wz v l)
    (z1 : Wz.cell? ⟨Bl, 0, none⟩ = some v) (z2 : Wz.cell? ⟨Bw, 0, none⟩ = some (.func (.func 32) #[] #[.pointer (some ⟨Bo, 0, none⟩), .pointer (some ⟨Bp, 0, none⟩)])) (z3 : Wz.cell? ⟨Bo, 0, none⟩ = some (.int .i64 low)) (z4 : Wz.cell? ⟨Bp, 0, none⟩ = some (.int .i64 high)) :
    SeqStopsK Fence.wide n Tryz.prog 56 #[.pointer (some ⟨Bl, 0, none⟩), .pointer (some ⟨Bw, 0, none⟩)] encE (Below Wz.heap.size) (fun ys => ys = l.filter (inTime low high)) (fun pre => pre <+: l.filter (inTime low high)) l.length Wz :=
  fun l0 J Jx W hW hJ _ hY h0 => that1T_in n hn l0 Bl Bw Bo Bp v l low high Wz hv z1 z2 z3 z4 J Jx W hW hJ hY h0

set_option maxHeartbeats 1000000 in
theorem implTime_any (v : Value) (l : List (Int × Int)) (low high : Int) (w : World) (h : Rd w v l) (hl : l.length ≤ 1099511627776) :
    Calls Tryz.prog 9 #[v, .int .i64 low, .int .i64 high] w fun e w' => ∃ v', e = .returned v' ∧ Own w' w.heap.size v' (l.filter (inTime low high)) ∧ Below w.heap.size w w' := by
  have H := hid h
  obtain ⟨ao, cap, hv, _, _⟩ := h
  subst hv
  go_enter Tryz.func9, Tryz.ntmps9
  go_wp2_with fail
  refine (that_any ao l.length cap _ _ _).mono ?_
  rintro e w3 ⟨rfl, hw3⟩
  have hB : Below w.heap.size w w3 := by rw [hw3]; go_grown
  have s3 : w3.heap.size = w.heap.size + 4 := by rw [hw3]; simp
  have z1 : w3.cell? ⟨w.heap.size + 1 + 1, 0, none⟩ = some (.slice ao l.length cap) := by rw [hw3]; simp [go_sem]
  have z2 : w3.cell? ⟨w.heap.size + 1 + 1 + 1, 0, none⟩ = some (.func (.func 32) #[] #[.pointer (some ⟨w.heap.size, 0, none⟩), .pointer (some ⟨w.heap.size + 1, 0, none⟩)]) := by rw [hw3]; simp [go_sem]
  have z3 : w3.cell? ⟨w.heap.size, 0, none⟩ = some (.int .i64 low) := by rw [hw3]; simp [go_sem]
  have z4 : w3.cell? ⟨w.heap.size + 1, 0, none⟩ = some (.int .i64 high) := by rw [hw3]; simp [go_sem]
  clear hw3
  have H3 : Hid (Rd w3 (.slice ao l.length cap) l) := Rd.later H.out hB
  go_wp2_with fail
  refine (gather_any 56 #[.pointer (some ⟨w.heap.size + 1 + 1, 0, none⟩), .pointer (some ⟨w.heap.size + 1 + 1 + 1, 0, none⟩)] (l.filter (inTime low high)) l.length hl (List.length_filter_le _ _) w3 (enters_of Tryz.func56 (by kernel_rfl) rfl)
    (that1T_stops 2 (by omega) _ _ _ _ _ l low high w3 H3.out z1 z2 z3 z4)).mono ?_
  rintro e w4 ⟨v', rfl, hown, hb4⟩
  go_wp2
  go_ret
  exact ⟨v', by simp, hown.mono (by omega), hB.trans (hb4.mono (by omega))⟩

end Go.Proofs.YtdjonplcgmfmgaaGreatDoor

/- Part: Plain: a list is its first ones and then the others; an ok list's later ones and then the earlier ones. -/
namespace Go.Proofs.YtdjonplcgmfmgaaGreatDoor

theorem range_both (l : List (Int × Int)) (k : Int) (h : 0 ≤ k) : rangeL l 0 k ++ rangeL l k l.length = l := by
  obtain ⟨n, rfl⟩ := Int.eq_ofNat_of_zero_le h
  have e : rangeL l (n : Int) (l.length : Int) = l.drop n := by
    rw [rangeL, fromL, if_neg (by omega), Int.toNat_natCast, Int.toNat_natCast]
    exact List.take_of_length_le (by simp)
  rw [e, rangeL, fromL, if_neg (by omega), Int.toNat_natCast]
  simp
theorem times_both {l : List (Int × Int)} (h : okL l = true) (k : Int) : l.filter (inTime (k + 1) 1000) ++ l.filter (inTime 0 k) = l := by
  induction l with
  | nil => rfl
  | cons e r ih =>
    rw [okL, Bool.and_eq_true, Bool.and_eq_true] at h
    obtain ⟨⟨h1, h2⟩, h3⟩ := h
    have hr := rightB_iff.1 h1
    have ih := ih h3
    by_cases hk : e.2 ≤ k
    · have hi : inTime 0 k e = true := by simp [inTime]; omega
      have hn : inTime (k + 1) 1000 e = false := by simp [inTime]; omega
      have hnone : r.filter (inTime (k + 1) 1000) = [] := by
        rw [List.filter_eq_nil_iff]
        intro x hx
        have := List.all_eq_true.1 h2 x hx
        simp only [Bool.and_eq_true] at this
        have := aheadB_iff.1 this.1
        simp [inTime]; omega
      rw [hnone, List.nil_append] at ih
      rw [List.filter_cons, List.filter_cons, hi, hn, hnone, ih]
      rfl
    · have hi : inTime 0 k e = false := by simp [inTime]; omega
      have hn : inTime (k + 1) 1000 e = true := by simp [inTime]; omega
      rw [List.filter_cons, List.filter_cons, hi, hn]
      show e :: _ ++ _ = _
      rw [List.cons_append]
      exact congrArg (e :: ·) ih
theorem times_length {l : List (Int × Int)} (h : okL l = true) (k : Int) : (l.filter (inTime 0 k)).length + (l.filter (inTime (k + 1) 1000)).length = l.length := by
  have := congrArg List.length (times_both h k)
  rw [List.length_append] at this
  omega
theorem digits_le (k : Nat) : ∀ u : Nat, u < 10 ^ (k + 1) → Lib.nDigits u ≤ k + 1 := by
  induction k with
  | zero => intro u h; rw [Lib.nDigits_small (by simpa using h)]; omega
  | succ k ih =>
    intro u h
    by_cases hu : u < 10
    · rw [Lib.nDigits_small hu]; omega
    · rw [Lib.nDigits_big hu]
      have := ih (u / 10) (by
        rw [Nat.pow_succ] at h
        exact Nat.div_lt_of_lt_mul (by rw [Nat.mul_comm]; exact h))
      omega
theorem itoa_le (n : Int) (k : Nat) (h0 : 0 ≤ n) (h1 : n.toNat < 10 ^ (k + 1)) : (Lib.itoa n).length ≤ k + 1 := by
  obtain ⟨u, rfl⟩ := Int.eq_ofNat_of_zero_le h0
  rw [Lib.itoa_nonneg, Lib.decDigits_length]
  exact digits_le k u (by simpa using h1)
theorem edge_short {x : Int × Int} (h : rightB x = true) : (edgeT x).length ≤ 6 := by
  have hr := rightB_iff.1 h
  have h1 := itoa_le x.1 0 hr.1 (by simp; omega)
  have h2 := itoa_le x.2 3 hr.2.2.1 (by simp; omega)
  simp [edgeT]
  omega
theorem rights_of_ok {l : List (Int × Int)} (h : okL l = true) : ∀ x ∈ l, rightB x = true := by
  induction l with
  | nil => intro x hx; cases hx
  | cons e r ih =>
    rw [okL, Bool.and_eq_true, Bool.and_eq_true] at h
    intro x hx
    rcases List.mem_cons.1 hx with rfl | hx
    · exact h.1.1
    · exact ih h.2 x hx
theorem tail_short (r : List (Int × Int)) (h : ∀ x ∈ r, (edgeT x).length ≤ 6) : (Lib.joinTail [32] (r.map edgeT)).length ≤ 7 * r.length := by
  induction r with
  | nil => simp [Lib.joinTail]
  | cons e r ih =>
    have h1 := h e (by simp)
    have h2 := ih fun x hx => h x (by simp [hx])
    simp [Lib.joinTail] at h2 ⊢
    omega
theorem text_short {l : List (Int × Int)} (h : okL l = true) : (textL l).length ≤ 2 + 7 * l.length := by
  have hs : ∀ x ∈ l, (edgeT x).length ≤ 6 := fun x hx => edge_short (rights_of_ok h x hx)
  cases l with
  | nil => simp [textL, innerL, Lib.join_nil]
  | cons e r =>
    have h1 := hs e (by simp)
    have h2 := tail_short r fun x hx => hs x (by simp [hx])
    simp [textL, innerL, Lib.join_cons] at h2 ⊢
    omega
end Go.Proofs.YtdjonplcgmfmgaaGreatDoor

/- Part: The law FnVal: its walk. -/
namespace Go.Proofs.YtdjonplcgmfmgaaGreatDoor
open Go.RowKit
attribute [local go_sem ↓] Go.wp_at_zero Go.wp_at_succ

theorem valR_ok {k : Int} {s : List UInt8} {n : Int} {l : List (Int × Int)} (h : ValR k s n l true) : okV k n l = true ∧ vTextL k n l = s ∧ WfL l ∧ l.length ≤ 200 ∧ 0 ≤ n ∧ n ≤ 1000000 := by
  rcases h with ⟨hk, rfl, h⟩ | ⟨hk, rfl, h⟩ | ⟨_, _, _, h⟩
  · rcases h with ⟨_, h0, h1, h2⟩ | ⟨h, _⟩
    · exact ⟨by rw [okV_thing hk]; exact decide_eq_true ⟨h0, h1⟩, by rw [vText_num hk, h2], fun i hi => absurd hi (by simp), by simp, h0, h1⟩
    · cases h
  · have hn := readR_length h
    rcases h with ⟨_, h0, h1, h2⟩ | ⟨h, _⟩
    · exact ⟨by rw [okV_kin0 hk, h0], by rw [vText_kin (by omega), h1], wf_ok h0, hn, by omega, by omega⟩
    · cases h
  · cases h
theorem valR_of_ok {k : Int} {n : Int} {l : List (Int × Int)} (h : okV k n l = true) (hl : l.length ≤ 7) : ValR k (vTextL k n l) n l true := by
  have hin : 0 ≤ k ∧ k < 24 := by
    apply Classical.byContradiction
    intro h'
    rw [okV_out h'] at h
    cases h
  by_cases hk : k / 8 = 0
  · have hkd : kindOf k = 0 := by rw [kindOf_in hin.1 hin.2, hk]
    have hn : 0 ≤ n ∧ n ≤ 1000000 := by
      apply Classical.byContradiction
      intro h'
      rw [okV_numNo hin.1 hin.2 hk h'] at h
      cases h
    rw [okV_numD hin.1 hin.2 hk hn.1 hn.2] at h
    have ea : l = [] := List.eq_nil_of_length_eq_zero (by simpa using h)
    subst ea
    exact Or.inl ⟨hkd, rfl, Or.inl ⟨rfl, hn.1, hn.2, vText_num hkd⟩⟩
  · have hkd : 0 < kindOf k := by rw [kindOf_in hin.1 hin.2]; omega
    rw [okV_kin hin.1 hin.2 hk, Bool.and_eq_true] at h
    have en : n = 0 := by simpa using h.1
    subst en
    have hs := text_short h.2
    exact Or.inr (Or.inl ⟨hkd, rfl, Or.inl ⟨rfl, h.2, (vText_kin (by omega)).symm, by rw [vText_kin (by omega)]; omega⟩⟩)

set_option maxRecDepth 100000 in
set_option maxHeartbeats 400000 in
theorem drawValText_any (v : Value) (n : Nat) (w : World) (h : Bs w v n) :
    Calls Tryz.prog 16 #[v] w fun e w' => ∃ (k z : Int) (u : Value) (l : List (Int × Int)), e = .returned (.tuple #[.int .i64 k, .agg #[.int .i64 z, u]]) ∧ Own w' w.heap.size u l ∧ l.length ≤ 7 ∧ BdL l ∧ (-1 ≤ z ∧ z ≤ 1000001) ∧ Below w.heap.size w w' := by
  obtain ⟨ao, cap, hv, _⟩ := id h
  subst hv
  have H := hid h
  clear h
  go_enter Tryz.func16, Tryz.ntmps16
  go_wp2_with fail
  have r0_1 : (w.alloc (.cells #[.int .i64 0, .slice none 0 0] 35)).cell? ⟨w.heap.size, 0, none⟩ = some (.int .i64 0) := by go_cell
  have rf0_1 : (w.alloc (.cells #[.int .i64 0, .slice none 0 0] 35)).frozen? ⟨w.heap.size, 0, none⟩ = false := by (first | go_cell | (simp [World.frozen?, World.alloc]; done) | rfl)
  have r1_1 : (w.alloc (.cells #[.int .i64 0, .slice none 0 0] 35)).cell? ⟨w.heap.size, 1, none⟩ = some (.slice none 0 0) := by go_cell
  have rf1_1 : (w.alloc (.cells #[.int .i64 0, .slice none 0 0] 35)).frozen? ⟨w.heap.size, 1, none⟩ = false := by (first | go_cell | (simp [World.frozen?, World.alloc]; done) | rfl)
  have rl_1 : w.heap.size < (w.alloc (.cells #[.int .i64 0, .slice none 0 0] 35)).heap.size := by first | (simp; done) | (simp; omega)
  have c1 : Below w.heap.size w (w.alloc (.cells #[.int .i64 0, .slice none 0 0] 35)) := by go_grown
  have s1 : (w.alloc (.cells #[.int .i64 0, .slice none 0 0] 35)).heap.size = w.heap.size + 1 := by simp
  generalize (w.alloc (.cells #[.int .i64 0, .slice none 0 0] 35)) = w1 at r0_1 rf0_1 r1_1 rf1_1 rl_1 c1 s1 ⊢
  have qr0_1 := cell_regrown r0_1
  have qr1_1 := cell_regrown r1_1
  refine (drawValOk_any _ n _ (H.out.later c1)).mono ?_
  rintro e w2 ⟨k, z, u, l, rfl, ho, hl, hbd, hz, b2⟩
  obtain ⟨uo, uc, hu, _⟩ := ho.rd
  subst hu
  have HO := hid ho
  have HB := hid hbd
  clear ho hbd
  have d2 : Below w1.heap.size w1 w2 := (Below.trans (by go_grown) (b2.mono (by first | omega | (simp; done) | (simp; omega))))
  have c2 : Below w.heap.size w w2 := c1.trans (d2.mono c1.size)
  have r0_2 : w2.cell? ⟨w.heap.size, 0, none⟩ = some (.int .i64 0) := (by rw [b2.cell (by first | omega | (simp; done) | (simp; omega))]; go_cell)
  have rf0_2 : w2.frozen? ⟨w.heap.size, 0, none⟩ = false := (by rw [b2.frozen (by first | omega | (simp; done) | (simp; omega))]; (first | go_cell | (simp [World.frozen?, World.alloc]; done) | rfl))
  have r1_2 : w2.cell? ⟨w.heap.size, 1, none⟩ = some (.slice none 0 0) := (by rw [b2.cell (by first | omega | (simp; done) | (simp; omega))]; go_cell)
  have rf1_2 : w2.frozen? ⟨w.heap.size, 1, none⟩ = false := (by rw [b2.frozen (by first | omega | (simp; done) | (simp; omega))]; (first | go_cell | (simp [World.frozen?, World.alloc]; done) | rfl))
  have rl_2 : w.heap.size < w2.heap.size := (by have := b2.size; first | omega | (revert this; simp; done) | (revert this; simp; omega))
  clear r0_1 rf0_1 r1_1 rf1_1 rl_1
  clear b2 d2
  have e0 : ((w2.setCell ⟨w.heap.size, 0, none⟩ (.int .i64 z)).setCell ⟨w.heap.size, 1, none⟩ (.slice uo l.length uc)).cell? ⟨w.heap.size, 0, none⟩ = some (.int .i64 z) := by go_cell
  have e1 : ((w2.setCell ⟨w.heap.size, 0, none⟩ (.int .i64 z)).setCell ⟨w.heap.size, 1, none⟩ (.slice uo l.length uc)).cell? ⟨w.heap.size, 1, none⟩ = some (.slice uo l.length uc) := by go_cell
  have HF := hid (((HO.out.apartSet2 (p := ⟨w.heap.size, 0, none⟩) (by show w.heap.size < _; omega) (.int .i64 z)).apartSet2 (p := ⟨w.heap.size, 1, none⟩) (by show w.heap.size < _; omega) (.slice uo l.length uc)).mono (B' := w.heap.size) (by omega))
  have HL := hid ((c2.setCell (p := ⟨w.heap.size, 0, none⟩) (Nat.le_refl _) (.int .i64 z)).setCell (p := ⟨w.heap.size, 1, none⟩) (Nat.le_refl _) (.slice uo l.length uc))
  go_wp2
  refine bodyPost_ret (v := .tuple #[.int .i64 k, .agg #[.int .i64 z, .slice uo l.length uc]]) (by simp [results, Tryz.results16, go_sem, e0, e1]) rfl ⟨_, _, _, _, rfl, HF.out, hl, HB.out, hz, HL.out⟩

set_option maxRecDepth 100000 in
set_option maxHeartbeats 4000000 in
theorem lawFVal_any (v : Value) (n : Nat) (v1 : Value) (m : Nat) (w : World) (h : Bs w v n) (h1 : Bs w v1 m) (hL : Lib4 w) :
    Calls Tryz.prog 4 #[v, v1] w fun e w' => e = .returned (.bool true) ∧ Below w.heap.size w w' := by
  obtain ⟨ao, cap, hv, h0, _⟩ := id h
  subst hv
  obtain ⟨bo, cbp, hv, h2, _⟩ := id h1
  subst hv
  unfold maxLen at h0 h2
  have HL := hid hL
  clear hL
  by_cases hbig : 1048576 < n
  · go_enter Tryz.func4, Tryz.ntmps4
    go_wp2
    all_goals
      go_ret
      exact ⟨rfl, Below.refl _ _⟩
  · by_cases hbig2 : 1048576 < m
    · go_enter Tryz.func4, Tryz.ntmps4
      go_wp2
      go_ret
      exact ⟨rfl, Below.refl _ _⟩
    · go_enter Tryz.func4, Tryz.ntmps4
      go_wp2_with fail
      refine (drawValText_any _ n _ h).mono ?_
      rintro e w1 ⟨k, z, u, l, rfl, o1, hl, hbd, hz, c1⟩
      obtain ⟨uo, uc, hu, _⟩ := o1.rd
      subst hu
      have HO1 := hid o1
      have HBD := hid hbd
      clear o1 hbd
      go_wp2_with fail
      have a0_2 : (w1.alloc (.cells #[.int .i64 z, .slice uo l.length uc] 35)).cell? ⟨w1.heap.size, 0, none⟩ = some (.int .i64 z) := by go_cell
      have a1_2 : (w1.alloc (.cells #[.int .i64 z, .slice uo l.length uc] 35)).cell? ⟨w1.heap.size, 1, none⟩ = some (.slice uo l.length uc) := by go_cell
      have al_2 : w1.heap.size < (w1.alloc (.cells #[.int .i64 z, .slice uo l.length uc] 35)).heap.size := by simp
      have d2 : Below w1.heap.size w1 (w1.alloc (.cells #[.int .i64 z, .slice uo l.length uc] 35)) := by go_grown
      generalize (w1.alloc (.cells #[.int .i64 z, .slice uo l.length uc] 35)) = w2 at a0_2 a1_2 al_2 d2 ⊢
      have c2 : Below w.heap.size w w2 := c1.trans (d2.mono c1.size)
      have HO2 := hid (HO1.out.later d2)
      clear d2 HO1
      refine (implVText_any k z _ l _ HO2.out.rd (by omega) (bd_wf HBD.out) (by omega) (by omega) (HL.out.tab.below c2)).mono ?_
      rintro e w3 ⟨rfl, b3⟩
      have d3 : Below w2.heap.size w2 w3 := (Below.trans (by go_grown) (b3.mono (by first | omega | (simp; done) | (simp; omega))))
      have c3 : Below w.heap.size w w3 := c2.trans (d3.mono c2.size)
      have a0_3 : w3.cell? ⟨w1.heap.size, 0, none⟩ = some (.int .i64 z) := (by rw [b3.cell (by first | omega | (simp; done) | (simp; omega))]; go_cell)
      have a1_3 : w3.cell? ⟨w1.heap.size, 1, none⟩ = some (.slice uo l.length uc) := (by rw [b3.cell (by first | omega | (simp; done) | (simp; omega))]; go_cell)
      have al_3 : w1.heap.size < w3.heap.size := (by have := b3.size; first | omega | (revert this; simp; done) | (revert this; simp; omega))
      clear a0_2 a1_2 al_2
      have HO3 := hid (HO2.out.later d3)
      clear b3 d3 HO2
      obtain ⟨tx, htx⟩ : ∃ s : ByteArray, s = ⟨(vTextL k z l).toArray⟩ := ⟨_, rfl⟩
      have htl : tx.data.toList = vTextL k z l := by rw [htx]
      have hts : tx.size ≤ 1048576 := by
        have h1 : tx.size = (vTextL k z l).length := by rw [htx]; rfl
        have := vtext_len (k := k) HBD.out hz hl
        omega
      rw [← htx]
      have HTX := hid htx
      have HTL := hid htl
      clear htx htl
      go_wp2_with fail
      refine (implVRead_any k tx _ hts (HL.out.below c3)).mono ?_
      rintro e w4 ⟨⟨n', vg, l', b', rfl, og, hgR⟩, b4⟩
      have d4 : Below w3.heap.size w3 w4 := (Below.trans (by go_grown) (b4.mono (by first | omega | (simp; done) | (simp; omega))))
      have c4 : Below w.heap.size w w4 := c3.trans (d4.mono c3.size)
      have a0_4 : w4.cell? ⟨w1.heap.size, 0, none⟩ = some (.int .i64 z) := (by rw [b4.cell (by first | omega | (simp; done) | (simp; omega))]; go_cell)
      have a1_4 : w4.cell? ⟨w1.heap.size, 1, none⟩ = some (.slice uo l.length uc) := (by rw [b4.cell (by first | omega | (simp; done) | (simp; omega))]; go_cell)
      have al_4 : w1.heap.size < w4.heap.size := (by have := b4.size; first | omega | (revert this; simp; done) | (revert this; simp; omega))
      clear a0_3 a1_3 al_3
      have HO4 := hid (HO3.out.later d4)
      have HG4 := hid og
      have HGR := hid hgR
      obtain ⟨go, gc, hgv, _⟩ := og.rd
      subst hgv
      clear b4 d4 HO3 og hgR
      go_wp2_with fail
      have x0_5 : (w4.alloc (.cells #[.int .i64 n', .slice go l'.length gc] 35)).cell? ⟨w4.heap.size, 0, none⟩ = some (.int .i64 n') := by go_cell
      have x1_5 : (w4.alloc (.cells #[.int .i64 n', .slice go l'.length gc] 35)).cell? ⟨w4.heap.size, 1, none⟩ = some (.slice go l'.length gc) := by go_cell
      have xl_5 : w4.heap.size < (w4.alloc (.cells #[.int .i64 n', .slice go l'.length gc] 35)).heap.size := by simp
      have d5 : Below w4.heap.size w4 (w4.alloc (.cells #[.int .i64 n', .slice go l'.length gc] 35)) := by go_grown
      generalize (w4.alloc (.cells #[.int .i64 n', .slice go l'.length gc] 35)) = w5 at x0_5 x1_5 xl_5 d5 ⊢
      have c5 : Below w.heap.size w w5 := c4.trans (d5.mono c4.size)
      have a0_5 : w5.cell? ⟨w1.heap.size, 0, none⟩ = some (.int .i64 z) := (by rw [d5.cell (by first | omega | (simp; done) | (simp; omega))]; go_cell)
      have a1_5 : w5.cell? ⟨w1.heap.size, 1, none⟩ = some (.slice uo l.length uc) := (by rw [d5.cell (by first | omega | (simp; done) | (simp; omega))]; go_cell)
      have al_5 : w1.heap.size < w5.heap.size := (by have := d5.size; omega)
      clear a0_4 a1_4 al_4
      have HO5 := hid (HO4.out.later d5)
      have HG5 := hid (HG4.out.later d5)
      clear d5 HO4 HG4
      have hzb : -9223372036854775808 ≤ z ∧ z ≤ 9223372036854775807 := by omega
      have CT := fun (W : World) (h : Rd W (.slice uo l.length uc) l) => specVText_any k z _ l W h (by omega) (bd_wf HBD.out) hzb.1 hzb.2
      rw [← HTX.out] at CT
      have CA := fun (W : World) (h : Rd W (.slice uo l.length uc) l) => implOkV_any k z _ l W h
      have CS := fun (W : World) (h : Rd W (.slice uo l.length uc) l) => specOkV_any k z _ l W h
      have r0 := cell_regrown a0_5
      have r1 := cell_regrown a1_5
      have r2 := cell_regrown x0_5
      have r3 := cell_regrown x1_5
      cases hok : okV k z l
      case' true =>
        obtain ⟨e1, e2, e3⟩ := ValR.unique (HTL.out ▸ valR_of_ok hok hl) HGR.out
        subst e3
        subst e1
        subst e2
        have CV := fun (W : World) (h : Rd W (.slice go l.length gc) l) (h1 : Rd W (.slice uo l.length uc) l) => implVSame_any z z _ _ l l W h h1
        rw [eqV_refl] at CV
        rw [hok] at CA CS
        refine wp_region_quiet_below (by kernel_rfl) (by kernel_rfl) ?_
        repeat (first | go_big_quiet_skip | (go_big_quiet_want; go_big_quiet_op; first | go_big_quiet_on | go_big_quiet_call (first | (go_at_call 19; exact Calls.regrown_of (CT _ (HO5.out.rd.later (below_regrown _ _ _)))) | (go_at_call 20; exact Calls.regrown_of (CA _ (HO5.out.rd.later (below_regrown _ _ _)))) | (go_at_call 21; exact Calls.regrown_of (CS _ (HO5.out.rd.later (below_regrown _ _ _)))) | (go_at_call 22; exact Calls.regrown_of (CV _ (HG5.out.rd.later (below_regrown _ _ _)) (HO5.out.rd.later (below_regrown _ _ _)))))))
        refine wpQuiet_nil ?_
        rintro wq ⟨pq, hwq⟩
        have hq : Below w5.heap.size w5 wq := by rw [hwq]; exact below_regrown _ _ _
        clear hwq pq
      case' false =>
        rw [hok] at CA CS
        refine wp_region_quiet_below (by kernel_rfl) (by kernel_rfl) ?_
        repeat (first | go_big_quiet_skip | (go_big_quiet_want; go_big_quiet_op; first | go_big_quiet_on | go_big_quiet_call (first | (go_at_call 19; exact Calls.regrown_of (CT _ (HO5.out.rd.later (below_regrown _ _ _)))) | (go_at_call 20; exact Calls.regrown_of (CA _ (HO5.out.rd.later (below_regrown _ _ _)))) | (go_at_call 21; exact Calls.regrown_of (CS _ (HO5.out.rd.later (below_regrown _ _ _)))))))
        refine wpQuiet_nil ?_
        rintro wq ⟨pq, hwq⟩
        have hq : Below w5.heap.size w5 wq := by rw [hwq]; exact below_regrown _ _ _
        clear hwq pq
      all_goals
        clear r0 r1 r2 r3 CT CA CS
        have c9 := c5.trans (hq.mono c5.size)
        generalize wq = w9 at *
        clear hq HO5 HG5 a0_5 a1_5 al_5 x0_5 x1_5 xl_5
        go_wp2_with fail
        refine (drawValRead_any _ m _ (h1.later c9)).mono ?_
        rintro e w10 ⟨k2, ty, rfl, hty, b10⟩
        have c10 := c9.trans (b10.mono c9.size)
        go_wp2_with fail
        refine (implVRead_any k2 ty _ (by omega) (HL.out.below c10)).mono ?_
        rintro e w11 ⟨⟨n2, vy, ly, bb, rfl, oy, hR⟩, b11⟩
        have c11 := c10.trans (b11.mono c10.size)
        have HY11 := hid oy
        have HRY := hid hR
        obtain ⟨yo, yc, hyv, _⟩ := oy.rd
        subst hyv
        clear b10 b11 oy hR c9
        go_wp2_with fail
        have y0_12 : (w11.alloc (.cells #[.int .i64 n2, .slice yo ly.length yc] 35)).cell? ⟨w11.heap.size, 0, none⟩ = some (.int .i64 n2) := by go_cell
        have y1_12 : (w11.alloc (.cells #[.int .i64 n2, .slice yo ly.length yc] 35)).cell? ⟨w11.heap.size, 1, none⟩ = some (.slice yo ly.length yc) := by go_cell
        have yl_12 : w11.heap.size < (w11.alloc (.cells #[.int .i64 n2, .slice yo ly.length yc] 35)).heap.size := by simp
        have d12 : Below w11.heap.size w11 (w11.alloc (.cells #[.int .i64 n2, .slice yo ly.length yc] 35)) := by go_grown
        generalize (w11.alloc (.cells #[.int .i64 n2, .slice yo ly.length yc] 35)) = w12 at y0_12 y1_12 yl_12 d12 ⊢
        have c12 : Below w.heap.size w w12 := c11.trans (d12.mono c11.size)
        have HY12 := hid (HY11.out.later d12)
        clear d12 HY11
        refine (specVRead_any k2 ty _ (by omega)).mono ?_
        rintro e w13 ⟨⟨n3, vt, lt, bt, rfl, hvt, hR, _⟩, b13⟩
        obtain ⟨-, -, rfl⟩ := ValR.unique HRY.out hR
        obtain ⟨to', tc, hv, _⟩ := hvt
        subst hv
        have d13 : Below w12.heap.size w12 w13 := (Below.trans (by go_grown) (b13.mono (by first | omega | (simp; done) | (simp; omega))))
        have c13 : Below w.heap.size w w13 := c12.trans (d13.mono c12.size)
        have y0_13 : w13.cell? ⟨w11.heap.size, 0, none⟩ = some (.int .i64 n2) := (by rw [b13.cell (by first | omega | (simp; done) | (simp; omega))]; go_cell)
        have y1_13 : w13.cell? ⟨w11.heap.size, 1, none⟩ = some (.slice yo ly.length yc) := (by rw [b13.cell (by first | omega | (simp; done) | (simp; omega))]; go_cell)
        have yl_13 : w11.heap.size < w13.heap.size := (by have := b13.size; first | omega | (revert this; simp; done) | (revert this; simp; omega))
        clear y0_12 y1_12 yl_12
        have HY13 := hid (HY12.out.later d13)
        clear b13 d13 HY12 hR
        cases bb
        case false =>
          go_wp2
          go_ret
          exact ⟨by simp, c13.trans ((show Below w13.heap.size w13 _ from by go_grown).mono c13.size)⟩
        case true =>
          obtain ⟨hoy, hty2, hwy, hly, hn0, hn1⟩ := valR_ok HRY.out
          have hty3 : (⟨(vTextL k2 n2 ly).toArray⟩ : ByteArray) = ty := by rw [hty2]
          have HTY := hid hty3
          clear hty2 hty3
          go_wp2_with fail
          have t0_14 : (w13.alloc (.cells #[.int .i64 n3, .slice to' lt.length tc] 35)).cell? ⟨w13.heap.size, 0, none⟩ = some (.int .i64 n3) := by go_cell
          have t1_14 : (w13.alloc (.cells #[.int .i64 n3, .slice to' lt.length tc] 35)).cell? ⟨w13.heap.size, 1, none⟩ = some (.slice to' lt.length tc) := by go_cell
          have tl_14 : w13.heap.size < (w13.alloc (.cells #[.int .i64 n3, .slice to' lt.length tc] 35)).heap.size := by simp
          have d14 : Below w13.heap.size w13 (w13.alloc (.cells #[.int .i64 n3, .slice to' lt.length tc] 35)) := by go_grown
          generalize (w13.alloc (.cells #[.int .i64 n3, .slice to' lt.length tc] 35)) = w14 at t0_14 t1_14 tl_14 d14 ⊢
          have c14 : Below w.heap.size w w14 := c13.trans (d14.mono c13.size)
          have y0_14 : w14.cell? ⟨w11.heap.size, 0, none⟩ = some (.int .i64 n2) := (by rw [d14.cell (by first | omega | (simp; done) | (simp; omega))]; go_cell)
          have y1_14 : w14.cell? ⟨w11.heap.size, 1, none⟩ = some (.slice yo ly.length yc) := (by rw [d14.cell (by first | omega | (simp; done) | (simp; omega))]; go_cell)
          have yl_14 : w11.heap.size < w14.heap.size := (by have := d14.size; omega)
          clear y0_13 y1_13 yl_13
          have HY14 := hid (HY13.out.later d14)
          clear d14 HY13
          refine (implOkV_any k2 n2 _ ly _ HY14.out.rd).mono ?_
          rintro e w15 ⟨rfl, b15⟩
          rw [hoy]
          have d15 : Below w14.heap.size w14 w15 := (Below.trans (by go_grown) (b15.mono (by first | omega | (simp; done) | (simp; omega))))
          have c15 : Below w.heap.size w w15 := c14.trans (d15.mono c14.size)
          have y0_15 : w15.cell? ⟨w11.heap.size, 0, none⟩ = some (.int .i64 n2) := (by rw [b15.cell (by first | omega | (simp; done) | (simp; omega))]; go_cell)
          have y1_15 : w15.cell? ⟨w11.heap.size, 1, none⟩ = some (.slice yo ly.length yc) := (by rw [b15.cell (by first | omega | (simp; done) | (simp; omega))]; go_cell)
          have yl_15 : w11.heap.size < w15.heap.size := (by have := b15.size; first | omega | (revert this; simp; done) | (revert this; simp; omega))
          clear y0_14 y1_14 yl_14
          have HY15 := hid (HY14.out.later d15)
          clear b15 d15 HY14
          go_wp2_with fail
          refine (implVText_any k2 n2 _ ly _ HY15.out.rd (by omega) hwy (by omega) (by omega) (HL.out.tab.below c15)).mono ?_
          rintro e w16 ⟨rfl, b16⟩
          rw [HTY.out]
          have c16 := c15.trans (b16.mono c15.size)
          clear b16
          go_wp2
          go_ret
          exact ⟨by simp, c16⟩
end Go.Proofs.YtdjonplcgmfmgaaGreatDoor

/- Part: What a row gives a walk: the laid variables and the world's shape together; the number and the errors that the library reads. -/
namespace Go.Proofs.YtdjonplcgmfmgaaGreatDoor
open Go.RowKit

/-- The frame of a row, at a condition X of the first world, its shape besides. -/
theorem handed_both {H : Type} {enc : TypeId × Value → H} {C : Checked} {os : Os} {f : FuncId} {fn : Func} {s : ChangeSpec} {conds : List PathCond} {apart fresh handsOn again : Bool} {X : World → Array Value → Prop}
    (hX : ∀ (w w' : World) (args : Array Value), w.heap = w'.heap → X w args → X w' args)
    (own : ownKnob C.prog.godebug = none) (started : os.Started) (noInit : C.prog.inits.idxOf? f = none) (hfn : C.prog.funcs[f]? = some fn)
    (witness : ∃ (w : World) (tape : Tape) (i : Input), w.os = os ∧ (w.forCall tape i).Shaped C.prog ∧ i.vars = [] ∧ Input.okWide C.prog (w.forCall tape i) .any w.heap.size f i ∧
      ((s.pre enc C.prog fn conds apart (w.forCall tape i).memory i.args ∧ X (w.forCall tape i).memory i.args) ∧ sizedMet enc C.prog fn (OpenSpec.ofChange s) apart (w.forCall tape i).memory i.args) ∧ ({} : Assume).holds C.prog (lone (Frame.enter C.prog f i.args .normal) [] (w.forCall tape i)))
    (contract : ∀ (W : World) (base : Nat) (args : Array Value) (ds gs : List (DataW H)) (before : List MemPlace),
      (∀ (j : Nat) t v, fn.params[j]? = some t → args[j]? = some v → Value.okWide C.prog W .any base t v) →
      DataW.Whole enc C.prog fn.params.toList s.vars apart W args.toList ds gs before → X W args → W.ShapedOpen C.prog →
      Calls C.prog f args W fun e W' => ∃ v, e = .returned v ∧ s.post enc C.prog fn apart fresh handsOn again W args v W') :
    ReturnsInHanded {} C os f .any (fun w args => (s.pre enc C.prog fn conds apart w args ∧ X w args) ∧ sizedMet enc C.prog fn (OpenSpec.ofChange s) apart w args) (s.post enc C.prog fn apart fresh handsOn again) := by
  refine returnsInHanded_of_calls own started noInit witness fun w tape i _ hshape _ hok ⟨⟨⟨ds, gs, before, hw, _⟩, hx⟩, _⟩ _ => ?_
  obtain ⟨_, _, _, fn', hfn', _, _, _, _, hval⟩ := hok
  obtain rfl : fn' = fn := Option.some.inj (hfn'.symm.trans hfn)
  refine (contract (w.forCall tape i) w.heap.size i.args ds gs before hval (hw.of_heap (by rfl)) (hX _ _ _ (by rfl) hx) hshape).mono ?_
  rintro e W' ⟨v, rfl, hp⟩
  exact ChangeSpec.post_blind hp

theorem max_of_shape {W : World} (h : W.ShapedOpen Tryz.prog) : MaxVar W :=
  cell_of_shapedOpen_int (g := 1) (t := 3) (zero := #[.int .i64 0]) h (of_decide_eq_true (by kernel_rfl)) (by kernel_rfl) rfl (by kernel_rfl) (by kernel_rfl) Tryz.underlying3

theorem Tryz.star : "*" ++ "errors.errorString" = "*errors.errorString" := by decide
theorem Tryz.rowErr (u : TypeId) (h : Tryz.prog.typeName? 3 u = some "*errors.errorString") : u = 152 :=
  typeName_ptr_named (nm := "errors.errorString") (by rw [Tryz.star]; kernel_rfl) (by kernel_rfl) (by decide) u (by rw [Tryz.star]; exact h)
theorem err_of_head {n : String} {g : Nat} {text : List UInt8} {r : List (String × DataW Unit)} {W : World} (hg : Tryz.prog.globalNamed n = some g) (ht : (Tryz.prog.globals[g]?).map (·.type) = some 87)
    (h : laidMet Tryz.prog ((n, .iface "*errors.errorString" (.ptr (.agg [.lit (.string text)]))) :: r) W) : ∃ tp p, W.var? Tryz.prog n = some #[.iface tp p] := by
  obtain ⟨a, s, hv, _⟩ := laid_sentinel h hg ht Tryz.underlying87 Tryz.rowErr Tryz.underlying152 Tryz.underlying154 rfl rfl Tryz.underlying9 (by kernel_rfl) (by kernel_rfl)
  exact ⟨_, _, hv⟩
end Go.Proofs.YtdjonplcgmfmgaaGreatDoor

/- Part: What every row here asks of the program: two closed facts. -/
namespace Go.Proofs.YtdjonplcgmfmgaaGreatDoor
open Go.ChangeShapes Go.WideShapes Go.ChangeAt Go.RowKit
theorem Tryz.own : ownKnob Tryz.prog.godebug = none := by kernel_rfl
theorem Tryz.laidOut : laidOutB Tryz.prog = true := by kernel_rfl
end Go.Proofs.YtdjonplcgmfmgaaGreatDoor

/- Part: An argument that is a slice of bytes. -/
namespace Go.Proofs.YtdjonplcgmfmgaaGreatDoor
open Go.ChangeShapes Go.WideShapes Go.ChangeAt Go.RowKit Go.Deep

theorem Tryz.cells5 : Tryz.prog.cellsOf 5 = 1 := by kernel_rfl

set_option maxRecDepth 100000 in
theorem by_of {H : Type} {enc : TypeId × Value → H} {W : World} {base : Nat} {v : Value} {d : DataW H} {p : List MemPlace} (hv : Value.okWide Tryz.prog W .any base 22 v)
    (h : DataW.Trod enc Tryz.prog W 0 (fun _ => true) true 22 v d p) (hlt : ∀ x ∈ p, x.block < W.heap.size) : ∃ n, Bs W v n := by
  obtain ⟨a0, len, cap, rfl⟩ := okWide_slice Tryz.underlying22 hv
  obtain ⟨fuel, hf⟩ := h
  rcases open_ints Tryz.underlying22 Tryz.underlying5 Tryz.cells5 hf with ⟨hcs, _⟩ | ⟨a, len', cap', zs, hcs, hh, hl, hm, hz, hx, hcell, hwz⟩
  · simp [Value.cells] at hcs
    obtain ⟨rfl, rfl, rfl⟩ := hcs
    exact ⟨0, none, 0, rfl, Nat.zero_le _, Nat.le_refl _, Nat.zero_le _, fun h0 => absurd h0 (Nat.lt_irrefl 0)⟩
  · simp [Value.cells] at hcs
    obtain ⟨rfl, rfl, rfl⟩ := hcs
    simp only [if_true] at hz
    refine ⟨len, some a, cap, rfl, Nat.le_trans hl hm, hl, hm, fun h0 => ?_⟩
    obtain ⟨b, off, spot⟩ := a
    have hs : spot = none := by
      have := hcell 0 (by omega)
      simpa [Addr.add] using World.cell?_spot this
    subst hs
    refine ⟨b, off, rfl, ?_, fun i hi => ?_⟩
    · simp only [Prod.mk.injEq] at hx
      exact hlt (.cell b off) (by rw [hx.2]; exact MemPlace.mem_row.2 ⟨0, by omega, by simp⟩)
    · have hc := hcell i (by omega)
      rw [add_plain] at hc
      have hw := bounds_u8 (hwz (zs.getD i 0) (by rw [List.getD_eq_getElem?_getD, List.getElem?_eq_getElem (by omega)]; exact List.getElem_mem _))
      exact ⟨_, hc, hw.1, by omega⟩
end Go.Proofs.YtdjonplcgmfmgaaGreatDoor

/- Part: Proved here: FnVal returns true for every two slices of bytes (no condition on them; the library's tables and errors hold what start-up lays: the card ties them); what it was handed reads as before. -/
namespace Go.Proofs.YtdjonplcgmfmgaaGreatDoor
open Go.ChangeShapes Go.WideShapes Go.ChangeAt Go.RowKit

/-- The door's own heap meets the condition. -/
theorem door_met (os : Os) (args : Array Value) : laidMetH Tryz.prog Rows.fnValRow.laid ((World.laidAll Tryz.prog os Rows.fnValRow.laid).forCall (fun _ _ => 0) ⟨#[], args, []⟩).memory := by
  rw [MakeChecks.laidMetH_plain _ _ _ (by kernel_rfl)]; exact laidMet_laidAll _ (by kernel_rfl) (by kernel_rfl)
theorem tab_of_laid {W : World} (h : laidMetH Tryz.prog Rows.fnValRow.laid W) : Tab W := by
  rw [MakeChecks.laidMetH_plain _ _ _ (by kernel_rfl)] at h
  exact Lib.tabIs_of_head (g := 0) (by kernel_rfl) (by kernel_rfl) Tryz.underlying135 Tryz.underlying115 (by kernel_rfl) (by kernel_rfl) h.tail.tail

theorem lib_of {W : World} (h : laidMetH Tryz.prog Rows.fnValRow.laid W) (hS : W.ShapedOpen Tryz.prog) : Lib4 W := by
  have hT := tab_of_laid h
  rw [MakeChecks.laidMetH_plain _ _ _ (by kernel_rfl)] at h
  exact ⟨hT, ⟨err_of_head (g := 2) (by kernel_rfl) (by kernel_rfl) h.tail.tail.tail.tail.tail, err_of_head (g := 3) (by kernel_rfl) (by kernel_rfl) h.tail.tail.tail.tail⟩, max_of_shape hS⟩

set_option maxRecDepth 100000 in
theorem fVal_lifted (os : Os) (started : os.Started) (H : Type) (enc : TypeId × Value → H) :
    ReturnsInHanded {} Tryz.checked os 4 .any (fun w args => (Rows.fnValSpec.pre enc Tryz.prog Tryz.f4 Rows.fnValRow.domain false w args ∧ laidMetH Tryz.prog Rows.fnValRow.laid w) ∧ sizedMet enc Tryz.prog Tryz.f4 (OpenSpec.ofChange Rows.fnValSpec) false w args) (Rows.fnValSpec.post enc Tryz.prog Tryz.f4 false true false false) := by
  refine handed_both (C := Tryz.checked) (X := fun w _ => laidMetH Tryz.prog Rows.fnValRow.laid w) (fun _ _ _ hh h => h.of_heap hh) Tryz.own started (by kernel_rfl) Tryz.func4
    (ChangeSpec.witness_shaped (enc := enc) (C := Tryz.checked) (os := os) (X := fun w _ => laidMetH Tryz.prog Rows.fnValRow.laid w) false (World.laidAll Tryz.prog os Rows.fnValRow.laid) #[.slice none 0 0, .slice none 0 0] 8 (World.laidAll_os _ _ _) (World.shaped_of_ZipB (by kernel_rfl) (by kernel_rfl)) (by kernel_rfl) (by kernel_rfl) (by kernel_rfl) (door_met os _)) ?_
  intro W base args ds gs before hval0 hW hL hS
  have htab := lib_of hL hS
  have hval : ∀ (j : Nat) t v, Tryz.f4.params[j]? = some t → args[j]? = some v → Value.okWide Tryz.prog W .any base t v := hval0
  have hW' := hW
  obtain ⟨p, q, hA0, hV, rfl, _, _⟩ := hW
  have hA : DataW.TrodAll enc Tryz.prog W 0 (fun _ => true) true Tryz.f4.params.toList args.toList ds p := hA0
  rw [Tryz.params4] at hA hval
  obtain ⟨v0, v1, d0, d1, p0, p1, rfl, rfl, rfl, h0, h1⟩ := trodAll_two hA
  obtain ⟨rfl, rfl⟩ := trodVars_none hV
  clear hA0 hval0
  simp only [List.append_nil] at hW'
  have hlt0 : ∀ x ∈ p0, x.block < W.heap.size := fun x hx => by have := hW'.lt x (by first | exact hx | (simp; first | exact hx | exact Or.inl hx | exact Or.inr hx | exact Or.inr (Or.inl hx))); exact this
  obtain ⟨l0, hl0⟩ := by_of (hval 0 22 v0 rfl rfl) h0 hlt0
  have hargs0 : ∀ (W' : World), Below W.heap.size W W' → DataW.Trod enc Tryz.prog W' 0 (fun b => decide (b < W.heap.size)) true 22 v0 d0 p0 :=
    fun W' hn => Below.trod Tryz.laidOut (by kernel_rfl) (of_decide_eq_true (by kernel_rfl)) h0 hn hlt0
  have hlt1 : ∀ x ∈ p1, x.block < W.heap.size := fun x hx => by have := hW'.lt x (by first | exact hx | (simp; first | exact hx | exact Or.inl hx | exact Or.inr hx | exact Or.inr (Or.inl hx))); exact this
  obtain ⟨l1, hl1⟩ := by_of (hval 1 22 v1 rfl rfl) h1 hlt1
  have hargs1 : ∀ (W' : World), Below W.heap.size W W' → DataW.Trod enc Tryz.prog W' 0 (fun b => decide (b < W.heap.size)) true 22 v1 d1 p1 :=
    fun W' hn => Below.trod Tryz.laidOut (by kernel_rfl) (of_decide_eq_true (by kernel_rfl)) h1 hn hlt1
  refine (lawFVal_any v0 l0 v1 l1 W hl0 hl1 htab).mono fun e W' ⟨he, hnx⟩ => ?_
  subst he
  exact ⟨_, rfl, _, _, _, [], p0 ++ (p1), [], hW', trodAll_mk1 (shut_bool Tryz.underlying4 _), trodAll_mk2 (hargs0 _ hnx) (hargs1 _ hnx), rfl, hnx.frame _, fun h => by cases h⟩

theorem fVal_holds : Rows.FnValSaid :=
  OpenClaim.holds_of_wide 4 Tryz.f4 rfl rfl rfl rfl rfl rfl rfl ⟨rfl, rfl, rfl, rfl, rfl⟩ rfl rfl rfl rfl rfl (by kernel_rfl) Tryz.func4 (by kernel_rfl)
    (of_decide_eq_true (by kernel_rfl)) (by unfold Func.isWrapper; first | (rw [if_pos (by decide +kernel)]; kernel_rfl) | (rw [if_neg (by decide +kernel)]; exact ⟨rfl, rfl⟩))
    (fun os started H enc _ => fVal_lifted os started H enc)
#print axioms fVal_holds
theorem fVal_card : Rows.FnValCardSaid :=
  Claim7.holds_tied_plain_at .later [] [.data, .data, .data, .data, .sentinel, .sentinel, .pinned] true (true, "060c0ab2dd3319b8fcf83532e5fe3cea8aff29b0639748d82347ba918030b1c0") true
    fVal_holds (fun _ h => by cases h) (by kernel_rfl) (fun _ h => by cases h) fnVal_row_tie rfl ⟨rfl, rfl⟩ (by kernel_rfl) rfl
    (fun f fn hf hfn => by
      obtain rfl : f = 4 := Option.some.inj ((show Tryz.prog.funcNamed "loop.example/kith/laws.FnVal" = some 4 by kernel_rfl).symm.trans hf) |>.symm
      obtain rfl : fn = Tryz.f4 := (Option.some.inj (Tryz.func4.symm.trans hfn)).symm
      exact ⟨by kernel_rfl, fun j t ht => by
        rw [Tryz.params4] at ht
        have hm : t ∈ [22, 22] := by simpa using Array.mem_of_getElem? ht
        have hall : ([22, 22].all fun u => !Tryz.prog.wantsStandIn u) = true := by kernel_rfl
        exact (show Tryz.prog.wantsStandIn t = false by simpa using List.all_eq_true.1 hall t hm)⟩)
    (by kernel_rfl)
#print axioms fVal_card

end Go.Proofs.YtdjonplcgmfmgaaGreatDoor
