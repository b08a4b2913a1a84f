/- Proved here: FnGraphOpen returns true for every slice of bytes (no condition); what it was handed reads as before. -/
import Derived.Test.YtpdfhffmhlgcmaaOz
import Derived.Test.YtpdfhffmhlgcmaaLo
import Derived.Test.YtpdfhffmhlgcmaaPb
import Derived.Deep.Cut
import Derived.Test.YtpdfhffmhlgcmaaPl
import Derived.Deep.RegionHeld3
import Derived.Deep.DrawnRows
import Derived.Test.YtpdfhffmhlgcmaaTo
import Derived.Test.YtpdfhffmhlgcmaaGv
import Derived.BigQuiet
import Derived.Lib.QuietBelow
import Derived.Test.YtpdfhffmhlgcmaaVs
import Derived.Test.YtpdfhffmhlgcmaaMark
import Derived.Test.YtpdfhffmhlgcmaaItP
import Derived.Test.YtpdfhffmhlgcmaaAz
import Derived.Test.YtpdfhffmhlgcmaaRows
import Derived.WalkKit
import Derived.ProofKit
import Derived.Test.YtpdfhffmhlgcmaaDk
import Derived.OpenShut
import Derived.Deep.SlicePairs
/- Part: The law FnExactOpOther: its walk. -/
namespace Go.Proofs.Ytpdfhffmhlgcmaa
open Go.RowKit
attribute [local go_sem ↓] Go.wp_at_zero Go.wp_at_succ

end Go.Proofs.Ytpdfhffmhlgcmaa

/- Part: The draws of a write and of what a key has: contracts. -/
namespace Go.Proofs.Ytpdfhffmhlgcmaa
open Go.RowKit
attribute [local go_sem ↓] Go.wp_at_zero Go.wp_at_succ

/-- A write's variable in block b. -/
structure V4 (wr : World) (b : Nat) (k a c n : Int) : Prop where
  c0 : wr.cell? ⟨b, 0, none⟩ = some (.int .i64 k)
  c1 : wr.cell? ⟨b, 1, none⟩ = some (.int .i64 a)
  c2 : wr.cell? ⟨b, 2, none⟩ = some (.int .i64 c)
  c3 : wr.cell? ⟨b, 3, none⟩ = some (.int .i64 n)
  fr : ∀ o, wr.frozen? ⟨b, o, none⟩ = false
  lt : b < wr.heap.size
theorem V4.kept {wr w' : World} {b g : Nat} {k a c n : Int} (h : V4 wr b k a c n) (hg : wr.grownBy w' (some g)) (hne : b ≠ g) : V4 w' b k a c n :=
  ⟨hg.cell h.c0 (fun e => hne (Option.some.inj e)), hg.cell h.c1 (fun e => hne (Option.some.inj e)), hg.cell h.c2 (fun e => hne (Option.some.inj e)), hg.cell h.c3 (fun e => hne (Option.some.inj e)),
    fun o => (hg.frozen_far ⟨b, o, none⟩ h.lt (fun e => hne (Option.some.inj e))).trans (h.fr o), Nat.lt_of_lt_of_le h.lt hg.size⟩
theorem V4.below {wr w' : World} {b : Nat} {k a c n : Int} (h : V4 wr b k a c n) (hb : Below wr.heap.size wr w') : V4 w' b k a c n :=
  ⟨(hb.cell (p := ⟨b, 0, none⟩) h.lt).trans h.c0, (hb.cell (p := ⟨b, 1, none⟩) h.lt).trans h.c1, (hb.cell (p := ⟨b, 2, none⟩) h.lt).trans h.c2, (hb.cell (p := ⟨b, 3, none⟩) h.lt).trans h.c3,
    fun o => (hb.frozen (p := ⟨b, o, none⟩) h.lt).trans (h.fr o), Nat.lt_of_lt_of_le h.lt hb.size⟩
theorem V4.new (w : World) (k a c n : Int) : V4 (w.alloc (.cells #[.int .i64 k, .int .i64 a, .int .i64 c, .int .i64 n] 24)) w.heap.size k a c n :=
  ⟨by go_cell, by go_cell, by go_cell, by go_cell, fun o => by (first | go_cell | (simp [World.frozen?, World.alloc]; done) | rfl), by simp⟩



end Go.Proofs.Ytpdfhffmhlgcmaa

/- Part: The draw of a write alone: contract. -/
namespace Go.Proofs.Ytpdfhffmhlgcmaa
open Go.RowKit
attribute [local go_sem ↓] Go.wp_at_zero Go.wp_at_succ

set_option maxRecDepth 100000 in
set_option maxHeartbeats 1000000 in
theorem drawOpOk_any (v : Value) (n : Nat) (w : World) (h : Bs w v n) :
    Calls Try.prog 4 #[v] w fun e w' => ∃ k a c z, e = .returned (.agg #[.int .i64 k, .int .i64 a, .int .i64 c, .int .i64 z]) ∧ OpB k a c z ∧ Below w.heap.size w w' := by
  have hA1 := hid (V4.new w 0 0 0 0)
  have hW0 := hid (show Below w.heap.size w (w.alloc (.cells #[.int .i64 0, .int .i64 0, .int .i64 0, .int .i64 0] 24)) from by go_grown)
  have hWs : w.heap.size < (w.alloc (.cells #[.int .i64 0, .int .i64 0, .int .i64 0, .int .i64 0] 24)).heap.size := by simp
  have hbs := hid (h.later hW0.out)
  obtain ⟨ao, cap, rfl, h0, h1, h2, h3⟩ := h
  go_enter Try.func4, Try.ntmps4
  go_wp2_with fail
  generalize w.alloc (.cells #[.int .i64 0, .int .i64 0, .int .i64 0, .int .i64 0] 24) = W at hA1 hW0 hWs hbs ⊢
  obtain ⟨ao', cap', hv', _, _, _, h3'⟩ := hbs.out
  cases hv'
  refine (open_any ao n cap _ h0 h1 h2 h3').mono ?_
  rintro e w1 ⟨g, rfl, R1, b1⟩
  have hne : w.heap.size ≠ g := by have := R1.1; omega
  have hA := hid (hA1.out.below b1)
  have c1 := hW0.out.trans (b1.mono hW0.out.size)
  have HR1 := hid R1
  clear b1
  go_wp2_with fail
  refine (l3Op_any g 0 _ _ HR1.out (by omega)).mono ?_
  rintro e w2 ⟨k, a, c, z, q, rfl, hB, hq, R2, g2⟩
  have hC := hid (hA.out.kept g2 hne)
  have hB := hid hB
  have c2 : Below w.heap.size w w2 := c1.grown g2 c1.size (fun j e => by have : g = j := Option.some.inj e; have := R1.1; omega)
  have k0 := hC.out.c0
  have k1 := hC.out.c1
  have k2 := hC.out.c2
  have k3 := hC.out.c3
  have j0 := hC.out.fr 0
  have j1 := hC.out.fr 1
  have j2 := hC.out.fr 2
  have j3 := hC.out.fr 3
  clear hA HR1 g2 R2
  have e0 : ((((w2.setCell ⟨w.heap.size, 0, none⟩ (.int .i64 k)).setCell ⟨w.heap.size, 1, none⟩ (.int .i64 a)).setCell ⟨w.heap.size, 2, none⟩ (.int .i64 c)).setCell ⟨w.heap.size, 3, none⟩ (.int .i64 z)).cell? ⟨w.heap.size, 0, none⟩ = some (.int .i64 k) := by go_cell
  have e1 : ((((w2.setCell ⟨w.heap.size, 0, none⟩ (.int .i64 k)).setCell ⟨w.heap.size, 1, none⟩ (.int .i64 a)).setCell ⟨w.heap.size, 2, none⟩ (.int .i64 c)).setCell ⟨w.heap.size, 3, none⟩ (.int .i64 z)).cell? ⟨w.heap.size, 1, none⟩ = some (.int .i64 a) := by go_cell
  have e2 : ((((w2.setCell ⟨w.heap.size, 0, none⟩ (.int .i64 k)).setCell ⟨w.heap.size, 1, none⟩ (.int .i64 a)).setCell ⟨w.heap.size, 2, none⟩ (.int .i64 c)).setCell ⟨w.heap.size, 3, none⟩ (.int .i64 z)).cell? ⟨w.heap.size, 2, none⟩ = some (.int .i64 c) := by go_cell
  have e3 : ((((w2.setCell ⟨w.heap.size, 0, none⟩ (.int .i64 k)).setCell ⟨w.heap.size, 1, none⟩ (.int .i64 a)).setCell ⟨w.heap.size, 2, none⟩ (.int .i64 c)).setCell ⟨w.heap.size, 3, none⟩ (.int .i64 z)).cell? ⟨w.heap.size, 3, none⟩ = some (.int .i64 z) := by go_cell
  have HL := hid ((((c2.setCell (p := ⟨w.heap.size, 0, none⟩) (Nat.le_refl _) (.int .i64 k)).setCell (p := ⟨w.heap.size, 1, none⟩) (Nat.le_refl _) (.int .i64 a)).setCell (p := ⟨w.heap.size, 2, none⟩) (Nat.le_refl _) (.int .i64 c)).setCell (p := ⟨w.heap.size, 3, none⟩) (Nat.le_refl _) (.int .i64 z))
  go_wp2
  refine bodyPost_ret (v := .agg #[.int .i64 k, .int .i64 a, .int .i64 c, .int .i64 z]) (by simp [results, Try.results4, go_sem, e0, e1, e2, e3]) rfl ⟨_, _, _, _, rfl, hB.out, HL.out⟩
end Go.Proofs.Ytpdfhffmhlgcmaa

/- Part: The law's own helpers szEdgeS, eqEdge, eqEdgeS: contracts. -/
namespace Go.Proofs.Ytpdfhffmhlgcmaa
open Go.RowKit
attribute [local go_sem ↓] Go.wp_at_zero Go.wp_at_succ

end Go.Proofs.Ytpdfhffmhlgcmaa

/- Part: The law's own helpers szVal, toVal, eqVal: contracts. -/
namespace Go.Proofs.Ytpdfhffmhlgcmaa
open Go.RowKit
attribute [local go_sem ↓] Go.wp_at_zero Go.wp_at_succ

theorem Own.apartSet {w : World} {B : Nat} {v : Value} {l : List (Int × Int)} {p : Addr} (h : Own w B v l) (hp : p.block < B) (u : Value) : Own (w.setCell p u) B v l := by
  refine ⟨h.1, ?_⟩
  rcases h.2 with hn | ⟨g, cap, cur, rfl, hbg, hgg, rest⟩
  · exact .inl hn
  · exact .inr ⟨g, cap, cur, rfl, hbg, (Below.heap_setCell w p u g (by omega)).trans hgg, rest⟩

end Go.Proofs.Ytpdfhffmhlgcmaa

/- Part: Lists of values (a number and kin each): what it means that a slice reads as one; eqValS, eqGraph: contracts. -/
namespace Go.Proofs.Ytpdfhffmhlgcmaa
open Go.RowKit
attribute [local go_sem ↓] Go.wp_at_zero Go.wp_at_succ

end Go.Proofs.Ytpdfhffmhlgcmaa

/- Part: szValS, szGraph, toValS, toGraph, eqGraph: contracts. -/
namespace Go.Proofs.Ytpdfhffmhlgcmaa
open Go.RowKit
attribute [local go_sem ↓] Go.wp_at_zero Go.wp_at_succ

/-- How much a list of values weighs. -/
def bulkG (L : List ValD) : Nat := (L.map fun x => x.2.length).sum
theorem bulk_step (L : List ValD) (k : Nat) (h : k < L.length) : bulkG (L.take (k + 1)) = bulkG (L.take k) + (L.getD k valD0).2.length := by
  rw [bulkG, bulkG, List.take_succ_eq_append_getElem h, List.map_append, List.sum_append, List.getD_eq_getElem?_getD, List.getElem?_eq_getElem h]
  simp only [List.map_cons, List.map_nil, List.sum_cons, List.sum_nil, Option.getD_some, Nat.add_zero]
theorem bulk_take (L : List ValD) (k : Nat) : bulkG (L.take k) ≤ bulkG L := by
  have h : bulkG L = bulkG (L.take k) + bulkG (L.drop k) := by
    rw [bulkG, bulkG, bulkG, ← List.sum_append, ← List.map_append, List.take_append_drop]
  omega
theorem bulk_get (L : List ValD) (k : Nat) (h : k < L.length) : (L.getD k valD0).2.length ≤ bulkG L := by
  have := bulk_step L k h
  have := bulk_take L (k + 1)
  omega
/-- What szValS answers. -/
def SzG (L : List ValD) (left : Int) (e : Ending) : Prop := (e = .returned (.int .i64 (left - L.length - bulkG L)) ∧ 0 ≤ left - L.length - bulkG L) ∨ (e = .returned (.int .i64 (-1)) ∧ left - L.length - bulkG L < 0)

theorem Try.info37 : (Try.prog.info? 37).map (fun i => (i.zero, i.size, i.bytes)) = some (some (.agg #[.int .i64 0, .slice none 0 0]), 2, 32) := by kernel_rfl
/-- The first k elements' cells are those of L; their kin lie apart, from block B on. -/
def FilledV (w : World) (B : Nat) (xs : List Value) (L : List ValD) (k : Nat) : Prop :=
  ∀ i, i < k → xs[i * 2]? = some (.int .i64 (L.getD i valD0).1) ∧ ∃ u, xs[i * 2 + 1]? = some u ∧ Own w B u (L.getD i valD0).2
theorem FilledV.zero (w : World) (B : Nat) (xs : List Value) (L : List ValD) : FilledV w B xs L 0 := fun _ h => absurd h (Nat.not_lt_zero _)
theorem FilledV.later {w w' : World} {B : Nat} {xs : List Value} {L : List ValD} {k : Nat} (h : FilledV w B xs L k) (hb : Below w.heap.size w w') : FilledV w' B xs L k := fun i hi => by
  obtain ⟨c0, u, c1, hu⟩ := h i hi
  exact ⟨c0, u, c1, hu.later hb⟩
theorem FilledV.set {w : World} {B : Nat} {xs : List Value} {L : List ValD} {k : Nat} (h : FilledV w B xs L k) {p : Addr} (hp : p.block < B) (z : Value) : FilledV (w.setCell p z) B xs L k := fun i hi => by
  obtain ⟨c0, u, c1, hu⟩ := h i hi
  exact ⟨c0, u, c1, hu.apartSet hp z⟩
theorem FilledV.step {w : World} {B : Nat} {xs : List Value} {L : List ValD} {k : Nat} (h : FilledV w B xs L k) (hx : k * 2 + 1 < xs.length) {u : Value} (hu : Own w B u (L.getD k valD0).2) :
    FilledV w B ((xs.set (k * 2) (.int .i64 (L.getD k valD0).1)).set (k * 2 + 1) u) L (k + 1) := by
  intro i hi
  by_cases e : i = k
  · subst e
    rw [List.getElem?_set_ne (by omega), List.getElem?_set_self (by omega), List.getElem?_set_self (by rw [List.length_set]; omega)]
    exact ⟨rfl, u, rfl, hu⟩
  · rw [List.getElem?_set_ne (by omega), List.getElem?_set_ne (by omega), List.getElem?_set_ne (by omega), List.getElem?_set_ne (by omega)]
    exact h i (by omega)
theorem row_same {w w' : World} {B : Nat} {e : TypeId} {size : Nat} {v : Value} {n : Nat} {xs : List Value} (h : w.ownsRow B e size v n xs) (hs : ∀ k, B ≤ k → k < w.heap.size → w'.heap[k]? = w.heap[k]?) : w'.ownsRow B e size v n xs := by
  refine ⟨h.1, ?_⟩
  rcases h.2 with hn | ⟨g, cap, cur, rfl, hbg, hgg, rest⟩
  · exact .inl hn
  · exact .inr ⟨g, cap, cur, rfl, hbg, (hs g hbg (Array.getElem?_eq_some_iff.1 hgg).1).trans hgg, rest⟩
/-- It reads as L in memory from block B on alone. -/
def FromG (B : Nat) (w : World) (v : Value) (L : List ValD) : Prop := ∀ w' : World, w.heap.size ≤ w'.heap.size → (∀ k, B ≤ k → k < w.heap.size → w'.heap[k]? = w.heap[k]?) → RdG w' v L
theorem FromG.rd {B : Nat} {w : World} {v : Value} {L : List ValD} (h : FromG B w v L) : RdG w v L := h w (Nat.le_refl _) (fun _ _ _ => rfl)
theorem FromG.later {B : Nat} {w w' : World} {v : Value} {L : List ValD} (h : FromG B w v L) (hb : Below w.heap.size w w') : FromG B w' v L := fun w'' hz hs =>
  h w'' (Nat.le_trans hb.size hz) (fun k hk hl => (hs k hk (Nat.lt_of_lt_of_le hl hb.size)).trans (hb.block k hl))
theorem FromG.set {B : Nat} {w : World} {v : Value} {L : List ValD} (h : FromG B w v L) {p : Addr} (hp : p.block < B) (u : Value) : FromG B (w.setCell p u) v L := fun w'' hz hs =>
  h w'' (by simpa using hz) (fun k hk hl => (hs k hk (by simpa using hl)).trans (Below.heap_setCell _ _ _ _ (by omega)))
theorem FromG.mono {B B' : Nat} {w : World} {v : Value} {L : List ValD} (h : FromG B w v L) (hB : B' ≤ B) : FromG B' w v L := fun w' hz hs => h w' hz (fun k hk => hs k (Nat.le_trans hB hk))
theorem FilledV.rdG {w : World} {B g : Nat} {xs : List Value} {L : List ValD} {n cap : Nat} (h : FilledV w B xs L n) (hn : n = L.length) (hrow : w.ownsRow g 37 2 (.slice (some ⟨g, 0, none⟩) n cap) n xs) (hm : n ≤ maxLen) :
    RdG w (.slice (some ⟨g, 0, none⟩) n cap) L := by
  subst hn
  refine ⟨_, _, rfl, hm, fun h0 => ⟨g, 0, rfl, (hrow.lt g rfl).2, fun i hi => ?_⟩⟩
  obtain ⟨c0, u, c1, hu⟩ := h i hi
  rw [Nat.zero_add]
  exact ⟨(hrow.cellAt _ (by omega)).trans c0, u, (hrow.cellAt _ (by omega)).trans c1, hu.rd⟩

theorem FilledV.fromG {w : World} {g : Nat} {xs : List Value} {L : List ValD} {n cap : Nat} (h : FilledV w (g + 1) xs L n) (hn : n = L.length) (hrow : w.ownsRow g 37 2 (.slice (some ⟨g, 0, none⟩) n cap) n xs) (hm : n ≤ maxLen) :
    FromG g w (.slice (some ⟨g, 0, none⟩) n cap) L := fun _ _ hs =>
  FilledV.rdG (B := g + 1) (fun i hi => by
    obtain ⟨c0, u, c1, hu⟩ := h i hi
    exact ⟨c0, u, c1, row_same hu (fun k hk hl => hs k (by omega) hl)⟩) hn (row_same hrow hs) hm

end Go.Proofs.Ytpdfhffmhlgcmaa

/- Part: The graphs' own: szGraph, toGraph, eqGraph; both GraphSame: contracts. -/
namespace Go.Proofs.Ytpdfhffmhlgcmaa
open Go.RowKit
attribute [local go_sem ↓] Go.wp_at_zero Go.wp_at_succ

theorem isame_two (x y : ValD) (u v : Value) (w : World) (hu : Rd w u x.2) (hv : Rd w v y.2) :
    Calls Try.prog 18 #[.agg #[.int .i64 x.1, u], .agg #[.int .i64 y.1, v]] w fun e w' => e = .returned (.bool (eqD x y)) ∧ Below w.heap.size w w' := implVSame_any _ _ _ _ _ _ _ hu hv

set_option maxRecDepth 100000 in
set_option maxHeartbeats 1000000 in
theorem equalF_any (va vb : Value) (la lb : List ValD) (w : World) (ha : RdG w va la) (hb : RdG w vb lb) :
    Calls Try.prog 17 #[va, vb, .func (.func 18) #[] #[]] w fun e w' => e = .returned (.bool (eqG la lb)) ∧ Below w.heap.size w w' := by
  obtain ⟨aa, ca, rfl, hla, hca⟩ := ha
  obtain ⟨ab, cb, rfl, hlb, hcb⟩ := hb
  unfold maxLen at hla hlb
  by_cases hne : ((la.length : Int) != (lb.length : Int)) = true
  · have : la ≠ lb := fun h => by simp [h] at hne
    go_enter Try.func17, Try.ntmps17
    go_wp2
    go_ret
    exact ⟨by simp [eqG_no this], by go_grown⟩
  · have hlen : la.length = lb.length := by simp at hne; omega
    have HL : Hid (la.length = lb.length) := hlen
    clear hlen
    go_enter Try.func17, Try.ntmps17
    go_wp2
    go_loopw [17] (fun i wr => ∃ k : Nat, k ≤ la.length ∧ i = .int .i64 k ∧ Hid (la.take k = lb.take k) ∧ Below w.heap.size w wr) (fun i _ => la.length - (intOf i).toNat)
    case atStart => exact ⟨0, Nat.zero_le _, rfl, rfl, Below.refl _ _⟩
    case round =>
      obtain ⟨k, hk, rfl, hpre, hbel⟩ := hrel
      have hsz := hbel.size
      by_cases hlt : k < la.length
      · obtain ⟨ba, oa, rfl, hba, hcca⟩ := hca (by omega)
        obtain ⟨bb, ob, rfl, hbb, hccb⟩ := hcb (by have := HL.out; omega)
        obtain ⟨c0, ua, c1', hua⟩ := hcca k hlt
        obtain ⟨d0, ub, d1, hub⟩ := hccb k (by have := HL.out; omega)
        rw [← hbel.cell (p := ⟨ba, oa + k * 2, none⟩) hba] at c0
        rw [← hbel.cell (p := ⟨ba, oa + k * 2 + 1, none⟩) hba] at c1'
        rw [← hbel.cell (p := ⟨bb, ob + k * 2, none⟩) hbb] at d0
        rw [← hbel.cell (p := ⟨bb, ob + k * 2 + 1, none⟩) hbb] at d1
        have hkb : (k : Int) < (lb.length : Int) := by have := HL.out; omega
        have HUA := hid (hua.later hbel)
        have HUB := hid (hub.later hbel)
        have hba' : ba < wr.heap.size := by omega
        have hbb' : bb < wr.heap.size := by omega
        have hnext : Hid (la.getD k valD0 = lb.getD k valD0 → la.take (k + 1) = lb.take (k + 1)) := hid (fun h => take_more la lb valD0 k hlt (by have := HL.out; omega) hpre h)
        have hdiff : Hid (¬ la.getD k valD0 = lb.getD k valD0 → eqG la lb = false) := hid (fun h => eqG_no (fun e => h (by rw [e])))
        obtain ⟨uao, uac, huav, _⟩ := HUA.out
        obtain ⟨ubo, ubc, hubv, _⟩ := HUB.out
        subst huav
        subst hubv
        clear hcca hccb hca hcb hua hub
        generalize la.getD k valD0 = x at *
        generalize lb.getD k valD0 = y at *
        go_wp2_with fail
        refine (isame_two x y _ _ _ (HUA.out.later (by go_grown)) (HUB.out.later (by go_grown))).mono ?_
        rintro e w2 ⟨rfl, b2⟩
        have d2 : Below wr.heap.size wr w2 := (Below.trans (by go_grown) (b2.mono (by first | omega | (simp; done) | (simp; omega))))
        have c2 := hbel.trans (d2.mono hsz)
        clear b2 d2
        cases hxy : eqD x y with
        | true =>
          have hN := hid (hnext.out (eqD_iff.1 hxy))
          clear hnext hdiff
          go_wp2
          go_roundw
          case rel => exact ⟨k + 1, by omega, by go_num, hN, c2⟩
          case measure => simp [intOf]; omega
        | false =>
          have hN := hid (hdiff.out (fun e => by rw [eqD_iff.2 e] at hxy; cases hxy))
          clear hnext hdiff
          go_wp2
          go_ret
          exact ⟨by simp [hN.out], c2⟩
      · have hall : eqG la lb = true := eqG_yes (by have h1 := HL.out; have h2 := hpre.out; rwa [List.take_of_length_le (by omega), List.take_of_length_le (by omega)] at h2)
        go_wp2
        go_ret
        exact ⟨by simp [hall], hbel⟩

set_option maxHeartbeats 1000000 in
theorem implGSame_any (va vb : Value) (la lb : List ValD) (w : World) (ha : RdG w va la) (hb : RdG w vb lb) :
    Calls Try.prog 7 #[.agg #[va], .agg #[vb]] w fun e w' => e = .returned (.bool (eqG la lb)) ∧ Below w.heap.size w w' := by
  have HA := hid ha
  have HB := hid hb
  obtain ⟨ao, cap, hv, _⟩ := ha
  subst hv
  obtain ⟨bo, cbp, hv, _⟩ := hb
  subst hv
  go_enter Try.func7, Try.ntmps7
  go_wp2_with fail
  refine (equalF_any _ _ la lb _ (HA.out.later (by go_grown)) (HB.out.later (by go_grown))).mono ?_
  rintro e w1 ⟨rfl, b1⟩
  have c1 : Below w.heap.size w w1 := (Below.trans (by go_grown) (b1.mono (by first | omega | (simp; done) | (simp; omega))))
  go_wp2
  go_ret
  exact ⟨by simp, c1⟩
end Go.Proofs.Ytpdfhffmhlgcmaa

/- Part: A graph of 24 rows without kin: both GraphOpen, markGraph, heldGraph of such: contracts. -/
namespace Go.Proofs.Ytpdfhffmhlgcmaa
open Go.RowKit
attribute [local go_sem ↓] Go.wp_at_zero Go.wp_at_succ

/-- 24 values without kin lie in block g; their numbers are F's. -/
structure ZG (w : World) (g : Nat) (F : Nat → Int) : Prop where
  num : ∀ j, j < 24 → w.cell? ⟨g, j * 2, none⟩ = some (.int .i64 (F j))
  kin : ∀ j, j < 24 → w.cell? ⟨g, j * 2 + 1, none⟩ = some (.slice none 0 0)
  frz : ∀ o, w.frozen? ⟨g, o, none⟩ = false
  lt : g < w.heap.size
theorem ZG.later {w w' : World} {g : Nat} {F : Nat → Int} (h : ZG w g F) (hb : Below w.heap.size w w') : ZG w' g F :=
  ⟨fun j hj => (hb.cell (p := ⟨g, j * 2, none⟩) h.lt).trans (h.num j hj), fun j hj => (hb.cell (p := ⟨g, j * 2 + 1, none⟩) h.lt).trans (h.kin j hj), fun o => (hb.frozen (p := ⟨g, o, none⟩) h.lt).trans (h.frz o), Nat.lt_of_lt_of_le h.lt hb.size⟩
theorem ZG.kept {w w' : World} {g r : Nat} {F : Nat → Int} (h : ZG w g F) (hg : w.grownBy w' (some r)) (hne : g ≠ r) : ZG w' g F :=
  ⟨fun j hj => hg.cell (h.num j hj) (fun e => hne (Option.some.inj e)), fun j hj => hg.cell (h.kin j hj) (fun e => hne (Option.some.inj e)), fun o => (World.frozen?_of_block (w := w) (a := ⟨g, o, none⟩) (hg.block g h.lt (fun e => hne (Option.some.inj e)))).trans (h.frz o), Nat.lt_of_lt_of_le h.lt hg.size⟩
theorem grownZ {w w' w'' : World} {row : Option Nat} (h : w.grownBy w' row) (k : w'.grownBy w'' row) : w.grownBy w'' row :=
  ⟨k.os.trans h.os, k.tape.trans h.tape, k.output.trans h.output, Nat.le_trans h.size k.size, fun i hi hne => (k.block i (Nat.lt_of_lt_of_le hi h.size) hne).trans (h.block i hi hne)⟩
theorem grownN {w w' : World} {row : Option Nat} (h : w.grownBy w' none) : w.grownBy w' row := ⟨h.os, h.tape, h.output, h.size, fun k hk _ => h.block k hk (by simp)⟩
theorem grown_setZ (w : World) (a : Addr) (v : Value) : w.grownBy (w.setCell a v) (some a.block) :=
  ⟨rfl, rfl, rfl, by simp [World.setCell], fun k _ hne => Below.heap_setCell _ _ _ _ (fun e => hne (by rw [e]))⟩
def listZ (F : Nat → Int) : List ValD := (List.range 24).map fun j => (F j, [])
theorem ZG.rd {w : World} {g : Nat} {F : Nat → Int} (h : ZG w g F) (cap : Nat) : RdG w (.slice (some ⟨g, 0, none⟩) 24 cap) (listZ F) := by
  refine ⟨_, _, by simp [listZ]; rfl, by simp [listZ, maxLen], fun _ => ⟨g, 0, rfl, h.lt, fun i hi => ?_⟩⟩
  have hi' : i < 24 := by simpa [listZ] using hi
  have e : (listZ F).getD i valD0 = (F i, []) := by simp [listZ, List.getD_eq_getElem?_getD, hi']
  rw [e, Nat.zero_add]
  exact ⟨h.num i hi', _, h.kin i hi', Rd.nil _ _ _⟩
theorem listZ_eq {F G : Nat → Int} (h : ∀ j, j < 24 → F j = G j) : listZ F = listZ G := by
  unfold listZ
  exact List.map_congr_left fun j hj => by rw [h j (List.mem_range.1 hj)]
theorem ZG.set {w : World} {g : Nat} {F : Nat → Int} (h : ZG w g F) (i : Nat) (z : Int) : ZG (w.setCell ⟨g, i * 2, none⟩ (.int .i64 z)) g (fun j => if j = i then z else F j) := by
  refine ⟨fun j hj => ?_, fun j hj => ?_, fun o => by simpa using h.frz o, by simpa using h.lt⟩
  · by_cases e : j = i
    · subst e
      have h0 := h.num j hj
      simp only [if_true]
      go_cell
    · have h0 := h.num j hj
      rw [if_neg e]
      go_cell
  · have h0 := h.kin j hj
    go_cell

set_option maxRecDepth 100000 in
set_option maxHeartbeats 1000000 in
theorem specGOpen_any (w : World) : Calls Try.prog 8 #[] w fun e w' => (∃ g, e = .returned (.agg #[.slice (some ⟨g, 0, none⟩) 24 24]) ∧ w.heap.size ≤ g ∧ ZG w' g (fun _ => 0)) ∧ Below w.heap.size w w' := by
  obtain ⟨i0, hi, hz0, hz1, hz2⟩ := info_parts Try.info37
  have hby : i0.bytes * 24 ≤ 281474976710656 := by rw [hz2]; omega
  go_enter Try.func8, Try.ntmps8
  go_wp2_with (first | (at_make; refine wpList_make_full _ rfl (.const (.int .i64 24)) (.const (.int .i64 24)) 26 rfl (w.heap.size + 1) 37 i0 _ 2 Try.underlying26 hi hz0 hz1 .i64 .i64 _ _ 24 rfl rfl rfl rfl hby (by decide) (by simp) ?_; intro w1 hown hgrow; have r0 := hgrow.cell (show (w.alloc (.cells #[.slice none 0 0] 28)).cell? ⟨w.heap.size, 0, none⟩ = some (.slice none 0 0) by go_cell) (by simp); have r1 : w1.frozen? ⟨w.heap.size, 0, none⟩ = false := (World.frozen?_of_block (w := w.alloc (.cells #[.slice none 0 0] 28)) (a := ⟨w.heap.size, 0, none⟩) (hgrow.block w.heap.size (by simp) (by simp))).trans (by (first | go_cell | (simp [World.frozen?, World.alloc]; done) | rfl))))
  rw [World.size_alloc] at hown
  have hb1 : Below w.heap.size w w1 := ((Below.refl _ w).alloc (Nat.le_refl _) _).grown hgrow (by simp) (by simp)
  have z0 : (w1.setCell ⟨w.heap.size, 0, none⟩ (.slice (some ⟨w.heap.size + 1, 0, none⟩) 24 24)).cell? ⟨w.heap.size, 0, none⟩ = some (.slice (some ⟨w.heap.size + 1, 0, none⟩) 24 24) := by go_cell
  refine bodyPost_ret (v := .agg #[.slice (some ⟨w.heap.size + 1, 0, none⟩) 24 24]) (by simp [results, Try.results8, go_sem, z0]) rfl ⟨⟨w.heap.size + 1, rfl, by omega, ?_⟩, hb1.setCell (p := ⟨w.heap.size, 0, none⟩) (Nat.le_refl _) _⟩
  refine ⟨fun j hj => ?_, fun j hj => ?_, fun o => ?_, ?_⟩
  · rw [World.cell?_of_block (w := w1) (Below.heap_setCell _ _ _ _ (by show w.heap.size + 1 ≠ w.heap.size; omega)), hown.cellAt (j * 2) (by omega)]
    rcases j with _ | _ | _ | _ | _ | _ | _ | _ | _ | _ | _ | _ | _ | _ | _ | _ | _ | _ | _ | _ | _ | _ | _ | _ | j <;> first | omega | rfl | (simp [madeCells]; done) | (kernel_rfl)
  · rw [World.cell?_of_block (w := w1) (Below.heap_setCell _ _ _ _ (by show w.heap.size + 1 ≠ w.heap.size; omega)), hown.cellAt (j * 2 + 1) (by omega)]
    rcases j with _ | _ | _ | _ | _ | _ | _ | _ | _ | _ | _ | _ | _ | _ | _ | _ | _ | _ | _ | _ | _ | _ | _ | _ | j <;> first | omega | rfl | (simp [madeCells]; done) | (kernel_rfl)
  · rw [World.frozen?_of_block (w := w1) (Below.heap_setCell _ _ _ _ (by show w.heap.size + 1 ≠ w.heap.size; omega))]
    exact hown.frozenAt o
  · have := (hown.lt (w.heap.size + 1) rfl).2
    simpa using this
set_option maxRecDepth 100000 in
set_option maxHeartbeats 1000000 in
theorem implGOpen_any (w : World) : Calls Try.prog 5 #[] w fun e w' => (∃ g, e = .returned (.agg #[.slice (some ⟨g, 0, none⟩) 24 24]) ∧ w.heap.size ≤ g ∧ ZG w' g (fun _ => 0)) ∧ Below w.heap.size w w' := by
  go_enter Try.func5, Try.ntmps5
  go_wp2
  refine bodyPost_ret (v := .agg #[.slice (some ⟨w.heap.size + 1, 0, none⟩) 24 24]) (by simp [results, Try.results5, go_sem]) rfl ⟨⟨w.heap.size + 1, rfl, by omega, ?_⟩, by go_grown⟩
  refine ⟨fun j hj => ?_, fun j hj => ?_, fun o => by (first | go_cell | (simp [World.frozen?, World.alloc]; done) | rfl), by simp⟩
  · rcases j with _ | _ | _ | _ | _ | _ | _ | _ | _ | _ | _ | _ | _ | _ | _ | _ | _ | _ | _ | _ | _ | _ | _ | _ | j <;> first | omega | rfl | (simp; done) | go_cell
  · rcases j with _ | _ | _ | _ | _ | _ | _ | _ | _ | _ | _ | _ | _ | _ | _ | _ | _ | _ | _ | _ | _ | _ | _ | _ | j <;> first | omega | rfl | (simp; done) | go_cell

end Go.Proofs.Ytpdfhffmhlgcmaa

/- Part: The graph in which nobody has anything, behind one write: plain facts. -/
namespace Go.Proofs.Ytpdfhffmhlgcmaa
open Go.RowKit

theorem listZ_zero : listZ (fun _ => 0) = zeroG := by rfl
theorem okG_zero : okG zeroG = true := by decide
theorem zero_set (j : Nat) : zeroG.set j (0, []) = zeroG := by
  refine List.ext_getElem? fun i => ?_
  rw [List.getElem?_set]
  split
  · next h =>
    subst h
    split
    · next h => rw [zeroG, List.getElem?_replicate, if_pos (by simpa [zeroG] using h)]; rfl
    · next h => rw [zeroG, List.getElem?_replicate, if_neg (by simpa [zeroG] using h)]
  · rfl
theorem bulk_set (L : List ValD) (j : Nat) (hj : j < L.length) (x : ValD) : bulkG (L.set j x) + (L.getD j valD0).2.length = bulkG L + x.2.length := by
  unfold bulkG
  induction L generalizing j with
  | nil => simp at hj
  | cons y r ih =>
    cases j with
    | zero => simp; omega
    | succ j =>
      have := ih j (by simpa using hj)
      simp at this ⊢
      omega
theorem bulk_zero : bulkG zeroG = 0 := by rfl
theorem zeroG_len : zeroG.length = 24 := by rfl
theorem addL_empty {who at' : Int} (h : rightB (who, at') = true) : addL [] who at' = [(who, at')] := by
  rw [addL, if_pos (by rw [addB, h]; rfl)]
  rfl
theorem dropL_empty (who : Int) : dropL [] who = [] := by
  unfold dropL
  split <;> rfl
end Go.Proofs.Ytpdfhffmhlgcmaa

/- Part: impl.GraphDo of what is no write, and of any: contracts. -/
namespace Go.Proofs.Ytpdfhffmhlgcmaa
open Go.RowKit
attribute [local go_sem ↓] Go.wp_at_zero Go.wp_at_succ
attribute [local go_sem ↓] ldS_open stS_open ixS_open zeroR

set_option maxRecDepth 100000 in
set_option maxHeartbeats 4000000 in
theorem implGDo_no (va : Value) (L : List ValD) (k a b n : Int) (w : World) (h : RdG w va L) (hok : okG L = true) (h1 : ¬ setOk k a b n) (h2 : ¬ bindOk k a b n) (h3 : ¬ partOk k a b n) :
    Calls Try.prog 9 #[.agg #[va], .agg #[.int .i64 k, .int .i64 a, .int .i64 b, .int .i64 n]] w fun e w' => (∃ g ds, e = .returned (.tuple #[.agg #[.slice (some ⟨g, 0, none⟩) 24 24], .bool false]) ∧ BackN w' w.heap.size g (L) ds ∧ w.heap.size ≤ g) ∧ Below w.heap.size w w' := by
  have hmf : ∀ (fn : Fn) (first cap : Array Value) (w : World), (Instr.makeFunc fn first cap).run Try.prog w = .ok (.func fn first cap) w := fun _ _ _ _ => rfl
  have HW := fun w => writeOf_no h1 h2 h3 w
  have hm1 := method_noKey
  have hm2 := method_noOther
  have hm3 := method_noRight
  clear h1 h2 h3
  have hlen := hid (okG_true hok).1
  have hRT := hid (okG_true hok).2.1
  have HG := fun (v : Value) (W : World) (hr : RdG W v L) => implGOk_is (c := true) hok v W hr
  clear hok
  have HR := hid h
  obtain ⟨ao, cap, hv, -⟩ := h
  subst hv
  go_enter Try.func9, Try.ntmps9
  go_wp2_with fail
  have x0_1 : (((w.alloc (.cells #[.slice ao L.length cap] 28)).alloc (.cells #[.int .i64 k, .int .i64 a, .int .i64 b, .int .i64 n] 24)).alloc (.cells #[.slice none 0 0] 28)).cell? ⟨w.heap.size, 0, none⟩ = some (.slice ao L.length cap) := by go_cell
  have xl_1 : w.heap.size < (((w.alloc (.cells #[.slice ao L.length cap] 28)).alloc (.cells #[.int .i64 k, .int .i64 a, .int .i64 b, .int .i64 n] 24)).alloc (.cells #[.slice none 0 0] 28)).heap.size := by first | (simp; done) | (simp; omega)
  have o0_1 : (((w.alloc (.cells #[.slice ao L.length cap] 28)).alloc (.cells #[.int .i64 k, .int .i64 a, .int .i64 b, .int .i64 n] 24)).alloc (.cells #[.slice none 0 0] 28)).cell? ⟨w.heap.size + 1, 0, none⟩ = some (.int .i64 k) := by go_cell
  have o1_1 : (((w.alloc (.cells #[.slice ao L.length cap] 28)).alloc (.cells #[.int .i64 k, .int .i64 a, .int .i64 b, .int .i64 n] 24)).alloc (.cells #[.slice none 0 0] 28)).cell? ⟨w.heap.size + 1, 1, none⟩ = some (.int .i64 a) := by go_cell
  have o2_1 : (((w.alloc (.cells #[.slice ao L.length cap] 28)).alloc (.cells #[.int .i64 k, .int .i64 a, .int .i64 b, .int .i64 n] 24)).alloc (.cells #[.slice none 0 0] 28)).cell? ⟨w.heap.size + 1, 2, none⟩ = some (.int .i64 b) := by go_cell
  have o3_1 : (((w.alloc (.cells #[.slice ao L.length cap] 28)).alloc (.cells #[.int .i64 k, .int .i64 a, .int .i64 b, .int .i64 n] 24)).alloc (.cells #[.slice none 0 0] 28)).cell? ⟨w.heap.size + 1, 3, none⟩ = some (.int .i64 n) := by go_cell
  have ol_1 : w.heap.size + 1 < (((w.alloc (.cells #[.slice ao L.length cap] 28)).alloc (.cells #[.int .i64 k, .int .i64 a, .int .i64 b, .int .i64 n] 24)).alloc (.cells #[.slice none 0 0] 28)).heap.size := by first | (simp; done) | (simp; omega)
  have r0_1 : (((w.alloc (.cells #[.slice ao L.length cap] 28)).alloc (.cells #[.int .i64 k, .int .i64 a, .int .i64 b, .int .i64 n] 24)).alloc (.cells #[.slice none 0 0] 28)).cell? ⟨w.heap.size + 1 + 1, 0, none⟩ = some (.slice none 0 0) := by go_cell
  have rf0_1 : (((w.alloc (.cells #[.slice ao L.length cap] 28)).alloc (.cells #[.int .i64 k, .int .i64 a, .int .i64 b, .int .i64 n] 24)).alloc (.cells #[.slice none 0 0] 28)).frozen? ⟨w.heap.size + 1 + 1, 0, none⟩ = false := by (first | go_cell | (simp [World.frozen?, World.alloc]; done) | rfl)
  have rl_1 : w.heap.size + 1 + 1 < (((w.alloc (.cells #[.slice ao L.length cap] 28)).alloc (.cells #[.int .i64 k, .int .i64 a, .int .i64 b, .int .i64 n] 24)).alloc (.cells #[.slice none 0 0] 28)).heap.size := by first | (simp; done) | (simp; omega)
  have c1 : Below w.heap.size w (((w.alloc (.cells #[.slice ao L.length cap] 28)).alloc (.cells #[.int .i64 k, .int .i64 a, .int .i64 b, .int .i64 n] 24)).alloc (.cells #[.slice none 0 0] 28)) := by go_grown
  have s1 : (((w.alloc (.cells #[.slice ao L.length cap] 28)).alloc (.cells #[.int .i64 k, .int .i64 a, .int .i64 b, .int .i64 n] 24)).alloc (.cells #[.slice none 0 0] 28)).heap.size = w.heap.size + 3 := by simp
  generalize (((w.alloc (.cells #[.slice ao L.length cap] 28)).alloc (.cells #[.int .i64 k, .int .i64 a, .int .i64 b, .int .i64 n] 24)).alloc (.cells #[.slice none 0 0] 28)) = w1 at x0_1 xl_1 o0_1 o1_1 o2_1 o3_1 ol_1 r0_1 rf0_1 rl_1 c1 s1 ⊢
  have qx0_1 := cell_regrown x0_1
  have qo0_1 := cell_regrown o0_1
  have qo1_1 := cell_regrown o1_1
  have qo2_1 := cell_regrown o2_1
  have qo3_1 := cell_regrown o3_1
  have qr0_1 := cell_regrown r0_1
  refine (HG _ _ (HR.out.later c1)).mono ?_
  rintro e w2 ⟨rfl, b2⟩
  have d2 : Below w1.heap.size w1 w2 := (Below.trans (by go_grown) (b2.mono (by first | omega | (simp; done) | (simp; omega))))
  have c2 : Below w.heap.size w w2 := c1.trans (d2.mono c1.size)
  have x0_2 : w2.cell? ⟨w.heap.size, 0, none⟩ = some (.slice ao L.length cap) := (by rw [b2.cell (by first | omega | (simp; done) | (simp; omega))]; go_cell)
  have xl_2 : w.heap.size < w2.heap.size := (by have := b2.size; first | omega | (revert this; simp; done) | (revert this; simp; omega))
  have o0_2 : w2.cell? ⟨w.heap.size + 1, 0, none⟩ = some (.int .i64 k) := (by rw [b2.cell (by first | omega | (simp; done) | (simp; omega))]; go_cell)
  have o1_2 : w2.cell? ⟨w.heap.size + 1, 1, none⟩ = some (.int .i64 a) := (by rw [b2.cell (by first | omega | (simp; done) | (simp; omega))]; go_cell)
  have o2_2 : w2.cell? ⟨w.heap.size + 1, 2, none⟩ = some (.int .i64 b) := (by rw [b2.cell (by first | omega | (simp; done) | (simp; omega))]; go_cell)
  have o3_2 : w2.cell? ⟨w.heap.size + 1, 3, none⟩ = some (.int .i64 n) := (by rw [b2.cell (by first | omega | (simp; done) | (simp; omega))]; go_cell)
  have ol_2 : w.heap.size + 1 < w2.heap.size := (by have := b2.size; first | omega | (revert this; simp; done) | (revert this; simp; omega))
  have r0_2 : w2.cell? ⟨w.heap.size + 1 + 1, 0, none⟩ = some (.slice none 0 0) := (by rw [b2.cell (by first | omega | (simp; done) | (simp; omega))]; go_cell)
  have rf0_2 : w2.frozen? ⟨w.heap.size + 1 + 1, 0, none⟩ = false := (by rw [b2.frozen (by first | omega | (simp; done) | (simp; omega))]; (first | go_cell | (simp [World.frozen?, World.alloc]; done) | rfl))
  have rl_2 : w.heap.size + 1 + 1 < w2.heap.size := (by have := b2.size; first | omega | (revert this; simp; done) | (revert this; simp; omega))
  clear x0_1 xl_1 o0_1 o1_1 o2_1 o3_1 ol_1 r0_1 rf0_1 rl_1
  clear b2 d2
  go_wp2_with fail
  refine (HW _).mono ?_
  rintro e w3 ⟨rfl, b3⟩
  have d3 : Below w2.heap.size w2 w3 := (Below.trans (by go_grown) (b3.mono (by first | omega | (simp; done) | (simp; omega))))
  have c3 : Below w.heap.size w w3 := c2.trans (d3.mono c2.size)
  have x0_3 : w3.cell? ⟨w.heap.size, 0, none⟩ = some (.slice ao L.length cap) := (by rw [b3.cell (by first | omega | (simp; done) | (simp; omega))]; go_cell)
  have xl_3 : w.heap.size < w3.heap.size := (by have := b3.size; first | omega | (revert this; simp; done) | (revert this; simp; omega))
  have r0_3 : w3.cell? ⟨w.heap.size + 1 + 1, 0, none⟩ = some (.slice none 0 0) := (by rw [b3.cell (by first | omega | (simp; done) | (simp; omega))]; go_cell)
  have rf0_3 : w3.frozen? ⟨w.heap.size + 1 + 1, 0, none⟩ = false := (by rw [b3.frozen (by first | omega | (simp; done) | (simp; omega))]; (first | go_cell | (simp [World.frozen?, World.alloc]; done) | rfl))
  have rl_3 : w.heap.size + 1 + 1 < w3.heap.size := (by have := b3.size; first | omega | (revert this; simp; done) | (revert this; simp; omega))
  clear x0_2 xl_2 r0_2 rf0_2 rl_2
  clear b3 d3
  go_wp2_with fail
  have hrB := rl_3
  refine (rowsApart_any _ L _ (HR.out.later c3) hlen.out (fun k hk => by have := okL_le (hRT.out.ok hk); omega)).mono ?_
  rintro e w4 ⟨ds, rfl, hO, b4⟩
  have d4 : Below w3.heap.size w3 w4 := (Below.trans (by go_grown) (b4.mono (by first | omega | (simp; done) | (simp; omega))))
  have c4 : Below w.heap.size w w4 := c3.trans (d4.mono c3.size)
  have r0_4 : w4.cell? ⟨w.heap.size + 1 + 1, 0, none⟩ = some (.slice none 0 0) := (by rw [b4.cell (by first | omega | (simp; done) | (simp; omega))]; go_cell)
  have rf0_4 : w4.frozen? ⟨w.heap.size + 1 + 1, 0, none⟩ = false := (by rw [b4.frozen (by first | omega | (simp; done) | (simp; omega))]; (first | go_cell | (simp [World.frozen?, World.alloc]; done) | rfl))
  have rl_4 : w.heap.size + 1 + 1 < w4.heap.size := (by have := b4.size; first | omega | (revert this; simp; done) | (revert this; simp; omega))
  clear r0_3 rf0_3 rl_3
  have hO4 := hid hO
  have hBg : w3.heap.size ≤ w4.heap.size := b4.size
  have hB0 : w.heap.size ≤ w3.heap.size := c3.size
  clear b4 d4 hO
  have hs := stS_row (w := w4.alloc (.cells zeroV 43)) (g := w4.heap.size) (cs := ds) (heap_alloc_new w4 _) (by simp [zeroV]) hO4.out.size hO4.out.one
  have hB5 := hid (BackN.start hO4.out)
  have d5 := below_setRow (B := w4.heap.size) ((Below.refl _ w4).alloc (Nat.le_refl _) (.cells zeroV 43)) (g := w4.heap.size) (Nat.le_refl _) ds
  go_upto_region 5 with fail
  clear hs
  generalize ((w4.alloc (.cells zeroV 43)).setRow w4.heap.size ds) = w5 at *
  have hrg : w.heap.size + 1 + 1 < w4.heap.size := rl_4
  have r0_5 := (d5.cell (p := ⟨w.heap.size + 1 + 1, 0, none⟩) hrg).trans r0_4
  have rf0_5 := (d5.frozen (p := ⟨w.heap.size + 1 + 1, 0, none⟩) hrg).trans rf0_4
  have c5 : Below w.heap.size w w5 := c4.trans (d5.mono c4.size)
  have rl_5 : w.heap.size + 1 + 1 < w5.heap.size := by have := d5.size; omega
  have hg0 : w.heap.size ≤ w4.heap.size := c4.size
  clear r0_4 rf0_4 rl_4 d5 hO4 c4 c3
  generalize w4.heap.size = g at *
  generalize w3.heap.size = B at *
  go_region_with (first
    | (go_at_call 77; refine (noKey_any _).mono ?_; rintro e w6 ⟨rfl, b6⟩; have d6 : Below w5.heap.size w5 w6 := (Below.trans (by go_grown) (b6.mono (by first | omega | (simp; done) | (simp; omega)))); have c6 : Below w.heap.size w w6 := c5.trans (d6.mono c5.size); have r0_6 : w6.cell? ⟨w.heap.size + 1 + 1, 0, none⟩ = some (.slice none 0 0) := (by rw [b6.cell (by first | omega | (simp; done) | (simp; omega))]; go_cell); have rf0_6 : w6.frozen? ⟨w.heap.size + 1 + 1, 0, none⟩ = false := (by rw [b6.frozen (by first | omega | (simp; done) | (simp; omega))]; (first | go_cell | (simp [World.frozen?, World.alloc]; done) | rfl)); have rl_6 : w.heap.size + 1 + 1 < w6.heap.size := (by have := b6.size; first | omega | (revert this; simp; done) | (revert this; simp; omega)); clear r0_5 rf0_5 rl_5; have hB6 := hid (hB5.out.later d6))
    | (go_at_call 21; refine (change_no _ g (-1) _ (by omega)).mono ?_; rintro e w7 ⟨rfl, b7⟩; have hB7 := hid (hB6.out.later b7)))
  all_goals
    have HB7 := hB7
    have r0_7 := (b7.cell (p := ⟨w.heap.size + 1 + 1, 0, none⟩) rl_6).trans r0_6
    have rf0_7 := (b7.frozen (p := ⟨w.heap.size + 1 + 1, 0, none⟩) rl_6).trans rf0_6
    have c7 : Below w.heap.size w w7 := c6.trans (b7.mono (by omega))
    have rl_7 : w.heap.size + 1 + 1 < w7.heap.size := Nat.lt_of_lt_of_le rl_6 b7.size
    clear hB7 b7 r0_6 rf0_6 rl_6 hB6 c6 b6 d6 c5 hB5
    go_upto_region 6 with fail
    go_region_with (first
      | (go_at_call 78; refine (noOther_any _).mono ?_; rintro e w8 ⟨rfl, b8⟩; have d8 : Below w7.heap.size w7 w8 := (Below.trans (by go_grown) (b8.mono (by first | omega | (simp; done) | (simp; omega)))); have c8 : Below w.heap.size w w8 := c7.trans (d8.mono c7.size); have r0_8 : w8.cell? ⟨w.heap.size + 1 + 1, 0, none⟩ = some (.slice none 0 0) := (by rw [b8.cell (by first | omega | (simp; done) | (simp; omega))]; go_cell); have rf0_8 : w8.frozen? ⟨w.heap.size + 1 + 1, 0, none⟩ = false := (by rw [b8.frozen (by first | omega | (simp; done) | (simp; omega))]; (first | go_cell | (simp [World.frozen?, World.alloc]; done) | rfl)); have rl_8 : w.heap.size + 1 + 1 < w8.heap.size := (by have := b8.size; first | omega | (revert this; simp; done) | (revert this; simp; omega)); clear r0_7 rf0_7 rl_7; have hB8 := hid (HB7.out.later d8))
      | (go_at_call 21; refine (change_no _ g (-1) _ (by omega)).mono ?_; rintro e w9 ⟨rfl, b9⟩; have HB9 := hid (hB8.out.later b9)))
    all_goals
      have r0_9 := (b9.cell (p := ⟨w.heap.size + 1 + 1, 0, none⟩) rl_8).trans r0_8
      have rf0_9 := (b9.frozen (p := ⟨w.heap.size + 1 + 1, 0, none⟩) rl_8).trans rf0_8
      have c9 : Below w.heap.size w w9 := c8.trans (b9.mono (by omega))
      have rl_9 : w.heap.size + 1 + 1 < w9.heap.size := Nat.lt_of_lt_of_le rl_8 b9.size
      clear b9 r0_8 rf0_8 rl_8 hB8 c8 b8 d8 c7 HB7
      go_upto_region 7 with fail
      go_region_with (first
        | (go_at_call 79; refine (noRight_any _).mono ?_; rintro e w10 ⟨rfl, b10⟩; have d10 : Below w9.heap.size w9 w10 := (Below.trans (by go_grown) (b10.mono (by first | omega | (simp; done) | (simp; omega)))); have c10 : Below w.heap.size w w10 := c9.trans (d10.mono c9.size); have r0_10 : w10.cell? ⟨w.heap.size + 1 + 1, 0, none⟩ = some (.slice none 0 0) := (by rw [b10.cell (by first | omega | (simp; done) | (simp; omega))]; go_cell); have rf0_10 : w10.frozen? ⟨w.heap.size + 1 + 1, 0, none⟩ = false := (by rw [b10.frozen (by first | omega | (simp; done) | (simp; omega))]; (first | go_cell | (simp [World.frozen?, World.alloc]; done) | rfl)); have rl_10 : w.heap.size + 1 + 1 < w10.heap.size := (by have := b10.size; first | omega | (revert this; simp; done) | (revert this; simp; omega)); clear r0_9 rf0_9 rl_9; have hB10 := hid (HB9.out.later d10)))
      all_goals
        have hF := hid ((hB10.out.other (p := ⟨w.heap.size + 1 + 1, 0, none⟩) (by show w.heap.size + 1 + 1 < B; omega) (by show w.heap.size + 1 + 1 ≠ g; omega) (.slice (some ⟨g, 0, none⟩) 24 24)).mono hB0)
        have e0 : (w10.setCell ⟨w.heap.size + 1 + 1, 0, none⟩ (.slice (some ⟨g, 0, none⟩) 24 24)).cell? ⟨w.heap.size + 1 + 1, 0, none⟩ = some (.slice (some ⟨g, 0, none⟩) 24 24) := by go_cell
        have c11 := hid (c10.setCell (p := ⟨w.heap.size + 1 + 1, 0, none⟩) (by show w.heap.size ≤ w.heap.size + 1 + 1; omega) (.slice (some ⟨g, 0, none⟩) 24 24))
        go_wp2
        refine bodyPost_ret (v := .tuple #[.agg #[.slice (some ⟨g, 0, none⟩) 24 24], .bool false]) (by simp [results, Try.results9, go_sem, e0]) rfl ⟨⟨g, _, rfl, hF.out, hg0⟩, c11.out⟩

/-- impl.GraphDo of a graph that is ok. -/
theorem implGDo_any (va : Value) (L : List ValD) (k a b n : Int) (w : World) (h : RdG w va L) (hok : okG L = true) :
    Calls Try.prog 9 #[.agg #[va], .agg #[.int .i64 k, .int .i64 a, .int .i64 b, .int .i64 n]] w fun e w' => (∃ g ds, e = .returned (.tuple #[.agg #[.slice (some ⟨g, 0, none⟩) 24 24], .bool (opOk k a b n)]) ∧ BackN w' w.heap.size g (doG L k a b n) ds ∧ w.heap.size ≤ g) ∧ Below w.heap.size w w' := by
  rcases op_ways k a b n with ⟨hs, e, _⟩ | ⟨hs, e, _⟩ | ⟨hs, e, _⟩ | ⟨h1, h2, h3, e, _⟩
  · rw [e, doG, if_pos hs]
    exact implGDo_set va L k a b n w h hok hs
  · have h1 : ¬ setOk k a b n := fun h => by have := h.1; have := hs.1; omega
    rw [e, doG, if_neg h1, if_pos hs]
    exact implGDo_bind va L k a b n w h hok hs
  · have h1 : ¬ setOk k a b n := fun h => by have := h.1; have := hs.1; omega
    have h2 : ¬ bindOk k a b n := fun h => by have := h.1; have := hs.1; omega
    rw [e, doG, if_neg h1, if_neg h2, if_pos hs]
    exact implGDo_part va L k a b n w h hok hs
  · rw [e, doG, if_neg h1, if_neg h2, if_neg h3]
    exact implGDo_no va L k a b n w h hok h1 h2 h3
end Go.Proofs.Ytpdfhffmhlgcmaa

/- Part: The law FnGraphOpen: its walk. -/
namespace Go.Proofs.Ytpdfhffmhlgcmaa
open Go.RowKit
attribute [local go_sem ↓] Go.wp_at_zero Go.wp_at_succ

/-- What the law asks of the one write's kind. -/
theorem lawFGOpen_plain {k a c x : Int} (h : opOk k a c x = true) :
    (bindOk k a c x ∧ bulkG (doG zeroG k a c x) = 2) ∨ (partOk k a c x ∧ doG zeroG k a c x = zeroG) ∨ (setOk k a c x ∧ bulkG (doG zeroG k a c x) = 0 ∧ ((doG zeroG k a c x).getD a.toNat valD0).1 = x) := by
  rcases op_ways k a c x with ⟨hs, -⟩ | ⟨hs, -⟩ | ⟨hs, -⟩ | ⟨-, -, -, e, -⟩
  · refine .inr (.inr ⟨hs, ?_, ?_⟩)
    · rw [doG, if_pos hs]
      have := bulk_set zeroG a.toNat (by rw [zeroG_len]; have := hs.2.1; omega) (x, [])
      rw [zeroG_get, bulk_zero] at this
      simpa [valD0] using this
    · rw [doG, if_pos hs, getD_set (by rw [zeroG_len]; have := hs.2.1; omega), if_pos rfl]
  · have h1 : ¬ setOk k a c x := fun h => by have := h.1; have := hs.1; omega
    refine .inl ⟨hs, ?_⟩
    obtain ⟨_, ha, hb, hne, hn⟩ := id hs
    rw [doG, if_neg h1, if_pos hs, zeroG_get, zeroG_get]
    show bulkG ((zeroG.set _ (0, addL [] c x)).set _ (0, addL [] a x)) = 2
    rw [addL_empty (rightB_iff.2 ⟨hb.1, hb.2, hn.1, hn.2⟩), addL_empty (rightB_iff.2 ⟨ha.1, ha.2, hn.1, hn.2⟩)]
    have e1 := bulk_set zeroG (16 + a.toNat) (by rw [zeroG_len]; omega) (0, [(c, x)])
    rw [zeroG_get, bulk_zero] at e1
    have e2 := bulk_set (zeroG.set (16 + a.toNat) (0, [(c, x)])) (8 + c.toNat) (by rw [List.length_set, zeroG_len]; omega) (0, [(a, x)])
    rw [getD_set (by rw [zeroG_len]; omega), if_neg (by omega), zeroG_get] at e2
    simp [valD0] at e1 e2
    omega
  · have h1 : ¬ setOk k a c x := fun h => by have := h.1; have := hs.1; omega
    have h2 : ¬ bindOk k a c x := fun h => by have := h.1; have := hs.1; omega
    refine .inr (.inl ⟨hs, ?_⟩)
    rw [doG, if_neg h1, if_neg h2, if_pos hs, zeroG_get, zeroG_get]
    show (zeroG.set _ (0, dropL [] c)).set _ (0, dropL [] a) = zeroG
    rw [dropL_empty, dropL_empty, zero_set, zero_set]
  · rw [h] at e; cases e

set_option maxRecDepth 100000 in
set_option maxHeartbeats 8000000 in
theorem lawFGOpen_any (v : Value) (n : Nat) (w : World) (h : Bs w v n) :
    Calls Try.prog 3 #[v] w fun e w' => e = .returned (.bool true) ∧ Below w.heap.size w w' := by
  obtain ⟨ao, cap, hv, h0, _⟩ := id h
  subst hv
  unfold maxLen at h0
  by_cases hbig : 1048576 < n
  · go_enter Try.func3, Try.ntmps3
    go_wp2
    go_ret
    exact ⟨rfl, Below.refl _ _⟩
  · go_enter Try.func3, Try.ntmps3
    go_wp2_with fail
    refine (drawOpOk_any _ n _ h).mono ?_
    rintro e w1 ⟨k, a, c, x, rfl, -, c1⟩
    go_wp2_with fail
    have o0_2 : (w1.alloc (.cells #[.int .i64 k, .int .i64 a, .int .i64 c, .int .i64 x] 24)).cell? ⟨w1.heap.size, 0, none⟩ = some (.int .i64 k) := by go_cell
    have o1_2 : (w1.alloc (.cells #[.int .i64 k, .int .i64 a, .int .i64 c, .int .i64 x] 24)).cell? ⟨w1.heap.size, 1, none⟩ = some (.int .i64 a) := by go_cell
    have o2_2 : (w1.alloc (.cells #[.int .i64 k, .int .i64 a, .int .i64 c, .int .i64 x] 24)).cell? ⟨w1.heap.size, 2, none⟩ = some (.int .i64 c) := by go_cell
    have o3_2 : (w1.alloc (.cells #[.int .i64 k, .int .i64 a, .int .i64 c, .int .i64 x] 24)).cell? ⟨w1.heap.size, 3, none⟩ = some (.int .i64 x) := by go_cell
    have ol_2 : w1.heap.size < (w1.alloc (.cells #[.int .i64 k, .int .i64 a, .int .i64 c, .int .i64 x] 24)).heap.size := by simp
    have d2 : Below w1.heap.size w1 (w1.alloc (.cells #[.int .i64 k, .int .i64 a, .int .i64 c, .int .i64 x] 24)) := by go_grown
    generalize (w1.alloc (.cells #[.int .i64 k, .int .i64 a, .int .i64 c, .int .i64 x] 24)) = w2 at o0_2 o1_2 o2_2 o3_2 ol_2 d2 ⊢
    have c2 : Below w.heap.size w w2 := c1.trans (d2.mono c1.size)
    clear d2
    refine (implGOpen_any _).mono ?_
    rintro e w3 ⟨⟨g, rfl, -, zb⟩, b3⟩
    have HG3 := hid (zb.rd 24)
    rw [listZ_zero] at HG3
    have d3 : Below w2.heap.size w2 w3 := (Below.trans (by go_grown) (b3.mono (by first | omega | (simp; done) | (simp; omega))))
    have c3 : Below w.heap.size w w3 := c2.trans (d3.mono c2.size)
    have o0_3 : w3.cell? ⟨w1.heap.size, 0, none⟩ = some (.int .i64 k) := (by rw [b3.cell (by first | omega | (simp; done) | (simp; omega))]; go_cell)
    have o1_3 : w3.cell? ⟨w1.heap.size, 1, none⟩ = some (.int .i64 a) := (by rw [b3.cell (by first | omega | (simp; done) | (simp; omega))]; go_cell)
    have o2_3 : w3.cell? ⟨w1.heap.size, 2, none⟩ = some (.int .i64 c) := (by rw [b3.cell (by first | omega | (simp; done) | (simp; omega))]; go_cell)
    have o3_3 : w3.cell? ⟨w1.heap.size, 3, none⟩ = some (.int .i64 x) := (by rw [b3.cell (by first | omega | (simp; done) | (simp; omega))]; go_cell)
    have ol_3 : w1.heap.size < w3.heap.size := (by have := b3.size; first | omega | (revert this; simp; done) | (revert this; simp; omega))
    clear o0_2 o1_2 o2_2 o3_2 ol_2
    clear b3 d3 zb
    go_wp2_with fail
    have g0_4 : (w3.alloc (.cells #[.slice (some ⟨g, 0, none⟩) 24 24] 28)).cell? ⟨w3.heap.size, 0, none⟩ = some (.slice (some ⟨g, 0, none⟩) 24 24) := by go_cell
    have gl_4 : w3.heap.size < (w3.alloc (.cells #[.slice (some ⟨g, 0, none⟩) 24 24] 28)).heap.size := by simp
    have d4 : Below w3.heap.size w3 (w3.alloc (.cells #[.slice (some ⟨g, 0, none⟩) 24 24] 28)) := by go_grown
    generalize (w3.alloc (.cells #[.slice (some ⟨g, 0, none⟩) 24 24] 28)) = w4 at g0_4 gl_4 d4 ⊢
    have c4 : Below w.heap.size w w4 := c3.trans (d4.mono c3.size)
    have o0_4 : w4.cell? ⟨w1.heap.size, 0, none⟩ = some (.int .i64 k) := (by rw [d4.cell (by first | omega | (simp; done) | (simp; omega))]; go_cell)
    have o1_4 : w4.cell? ⟨w1.heap.size, 1, none⟩ = some (.int .i64 a) := (by rw [d4.cell (by first | omega | (simp; done) | (simp; omega))]; go_cell)
    have o2_4 : w4.cell? ⟨w1.heap.size, 2, none⟩ = some (.int .i64 c) := (by rw [d4.cell (by first | omega | (simp; done) | (simp; omega))]; go_cell)
    have o3_4 : w4.cell? ⟨w1.heap.size, 3, none⟩ = some (.int .i64 x) := (by rw [d4.cell (by first | omega | (simp; done) | (simp; omega))]; go_cell)
    have ol_4 : w1.heap.size < w4.heap.size := (by have := d4.size; omega)
    clear o0_3 o1_3 o2_3 o3_3 ol_3
    have HG4 := hid (HG3.out.later d4)
    clear d4 HG3
    go_upto_region 5 with fail
    go_cut [23] from 15 (fun s wx => s = .bool false ∧ Below w4.heap.size w4 wx)
    case first =>
      go_region_with (first
        | (go_at_call 6; refine (implGOk_is okG_zero _ _ (HG4.out.later (by go_grown))).mono ?_; rintro e w5 ⟨rfl, b5⟩; have d5 : Below w4.heap.size w4 w5 := (Below.trans (by go_grown) (b5.mono (by first | omega | (simp; done) | (simp; omega)))); have c5 : Below w.heap.size w w5 := c4.trans (d5.mono c4.size); have g0_5 : w5.cell? ⟨w3.heap.size, 0, none⟩ = some (.slice (some ⟨g, 0, none⟩) 24 24) := (by rw [b5.cell (by first | omega | (simp; done) | (simp; omega))]; go_cell); have gl_5 : w3.heap.size < w5.heap.size := (by have := b5.size; first | omega | (revert this; simp; done) | (revert this; simp; omega)); clear g0_4 gl_4; have HG5 := hid (HG4.out.later d5))
        | (go_at_call 8; refine (specGOpen_any _).mono ?_; rintro e w6 ⟨⟨g', rfl, -, zb⟩, b6⟩; have HH6 := hid (zb.rd 24); rw [listZ_zero] at HH6; have d6 : Below w5.heap.size w5 w6 := (Below.trans (by go_grown) (b6.mono (by first | omega | (simp; done) | (simp; omega)))); have c6 : Below w.heap.size w w6 := c5.trans (d6.mono c5.size); have g0_6 : w6.cell? ⟨w3.heap.size, 0, none⟩ = some (.slice (some ⟨g, 0, none⟩) 24 24) := (by rw [b6.cell (by first | omega | (simp; done) | (simp; omega))]; go_cell); have gl_6 : w3.heap.size < w6.heap.size := (by have := b6.size; first | omega | (revert this; simp; done) | (revert this; simp; omega)); clear g0_5 gl_5; have HG6 := hid (HG5.out.later d6))
        | (go_at_call 7; refine (implGSame_any _ _ zeroG zeroG _ HG6.out HH6.out).mono ?_; rintro e w7 ⟨rfl, b7⟩; rw [eqG_refl]; have d7 : Below w6.heap.size w6 w7 := (Below.trans (by go_grown) (b7.mono (by first | omega | (simp; done) | (simp; omega)))); have c7 : Below w.heap.size w w7 := c6.trans (d7.mono c6.size)))
      all_goals
        go_wp2_with fail
        go_meet
        exact ⟨by simp, (d5.trans (d6.mono d5.size)).trans (d7.mono (by have := d5.size; have := d6.size; omega))⟩
    case rest =>
      obtain ⟨rfl, b5⟩ := hcut
      obtain ⟨w5, hw5⟩ : ∃ y, y = wc := ⟨_, rfl⟩
      subst hw5
      have d5 : Below w4.heap.size w4 w5 := (Below.trans (by go_grown) (b5.mono (by first | omega | (simp; done) | (simp; omega))))
      have c5 : Below w.heap.size w w5 := c4.trans (d5.mono c4.size)
      have g0_5 : w5.cell? ⟨w3.heap.size, 0, none⟩ = some (.slice (some ⟨g, 0, none⟩) 24 24) := (by rw [b5.cell (by first | omega | (simp; done) | (simp; omega))]; go_cell)
      have gl_5 : w3.heap.size < w5.heap.size := (by have := b5.size; first | omega | (revert this; simp; done) | (revert this; simp; omega))
      have o0_5 : w5.cell? ⟨w1.heap.size, 0, none⟩ = some (.int .i64 k) := (by rw [b5.cell (by first | omega | (simp; done) | (simp; omega))]; go_cell)
      have o1_5 : w5.cell? ⟨w1.heap.size, 1, none⟩ = some (.int .i64 a) := (by rw [b5.cell (by first | omega | (simp; done) | (simp; omega))]; go_cell)
      have o2_5 : w5.cell? ⟨w1.heap.size, 2, none⟩ = some (.int .i64 c) := (by rw [b5.cell (by first | omega | (simp; done) | (simp; omega))]; go_cell)
      have o3_5 : w5.cell? ⟨w1.heap.size, 3, none⟩ = some (.int .i64 x) := (by rw [b5.cell (by first | omega | (simp; done) | (simp; omega))]; go_cell)
      have ol_5 : w1.heap.size < w5.heap.size := (by have := b5.size; first | omega | (revert this; simp; done) | (revert this; simp; omega))
      clear g0_4 gl_4 o0_4 o1_4 o2_4 o3_4 ol_4
      have HG5 := hid (HG4.out.later d5)
      clear b5 d5 HG4
      go_wp2_with fail
      refine (implGDo_any _ zeroG k a c x _ HG5.out okG_zero).mono ?_
      rintro e w6 ⟨⟨g2, ds, rfl, hB, -⟩, b6⟩
      have d6 : Below w5.heap.size w5 w6 := (Below.trans (by go_grown) (b6.mono (by first | omega | (simp; done) | (simp; omega))))
      have c6 : Below w.heap.size w w6 := c5.trans (d6.mono c5.size)
      have g0_6 : w6.cell? ⟨w3.heap.size, 0, none⟩ = some (.slice (some ⟨g, 0, none⟩) 24 24) := (by rw [b6.cell (by first | omega | (simp; done) | (simp; omega))]; go_cell)
      have gl_6 : w3.heap.size < w6.heap.size := (by have := b6.size; first | omega | (revert this; simp; done) | (revert this; simp; omega))
      have o0_6 : w6.cell? ⟨w1.heap.size, 0, none⟩ = some (.int .i64 k) := (by rw [b6.cell (by first | omega | (simp; done) | (simp; omega))]; go_cell)
      have o1_6 : w6.cell? ⟨w1.heap.size, 1, none⟩ = some (.int .i64 a) := (by rw [b6.cell (by first | omega | (simp; done) | (simp; omega))]; go_cell)
      have o2_6 : w6.cell? ⟨w1.heap.size, 2, none⟩ = some (.int .i64 c) := (by rw [b6.cell (by first | omega | (simp; done) | (simp; omega))]; go_cell)
      have o3_6 : w6.cell? ⟨w1.heap.size, 3, none⟩ = some (.int .i64 x) := (by rw [b6.cell (by first | omega | (simp; done) | (simp; omega))]; go_cell)
      have ol_6 : w1.heap.size < w6.heap.size := (by have := b6.size; first | omega | (revert this; simp; done) | (revert this; simp; omega))
      clear g0_5 gl_5 o0_5 o1_5 o2_5 o3_5 ol_5
      have HG6 := hid (HG5.out.later d6)
      have HB6 := hid hB
      clear b6 d6 HG5 hB
      go_wp2_with fail
      have y0_7 : (w6.alloc (.cells #[.slice (some ⟨g2, 0, none⟩) 24 24] 28)).cell? ⟨w6.heap.size, 0, none⟩ = some (.slice (some ⟨g2, 0, none⟩) 24 24) := by go_cell
      have yl_7 : w6.heap.size < (w6.alloc (.cells #[.slice (some ⟨g2, 0, none⟩) 24 24] 28)).heap.size := by simp
      have d7 : Below w6.heap.size w6 (w6.alloc (.cells #[.slice (some ⟨g2, 0, none⟩) 24 24] 28)) := by go_grown
      generalize (w6.alloc (.cells #[.slice (some ⟨g2, 0, none⟩) 24 24] 28)) = w7 at y0_7 yl_7 d7 ⊢
      have c7 : Below w.heap.size w w7 := c6.trans (d7.mono c6.size)
      have g0_7 : w7.cell? ⟨w3.heap.size, 0, none⟩ = some (.slice (some ⟨g, 0, none⟩) 24 24) := (by rw [d7.cell (by first | omega | (simp; done) | (simp; omega))]; go_cell)
      have gl_7 : w3.heap.size < w7.heap.size := (by have := d7.size; omega)
      have o0_7 : w7.cell? ⟨w1.heap.size, 0, none⟩ = some (.int .i64 k) := (by rw [d7.cell (by first | omega | (simp; done) | (simp; omega))]; go_cell)
      have o1_7 : w7.cell? ⟨w1.heap.size, 1, none⟩ = some (.int .i64 a) := (by rw [d7.cell (by first | omega | (simp; done) | (simp; omega))]; go_cell)
      have o2_7 : w7.cell? ⟨w1.heap.size, 2, none⟩ = some (.int .i64 c) := (by rw [d7.cell (by first | omega | (simp; done) | (simp; omega))]; go_cell)
      have o3_7 : w7.cell? ⟨w1.heap.size, 3, none⟩ = some (.int .i64 x) := (by rw [d7.cell (by first | omega | (simp; done) | (simp; omega))]; go_cell)
      have ol_7 : w1.heap.size < w7.heap.size := (by have := d7.size; omega)
      clear g0_6 gl_6 o0_6 o1_6 o2_6 o3_6 ol_6
      have HG7 := hid (HG6.out.later d7)
      have HB7 := hid (HB6.out.later d7)
      clear d7 HG6 HB6
      refine (specOpOk_any k a c x _).mono ?_
      rintro e w8 ⟨rfl, b8⟩
      have d8 : Below w7.heap.size w7 w8 := (Below.trans (by go_grown) (b8.mono (by first | omega | (simp; done) | (simp; omega))))
      have c8 : Below w.heap.size w w8 := c7.trans (d8.mono c7.size)
      have y0_8 : w8.cell? ⟨w6.heap.size, 0, none⟩ = some (.slice (some ⟨g2, 0, none⟩) 24 24) := (by rw [b8.cell (by first | omega | (simp; done) | (simp; omega))]; go_cell)
      have yl_8 : w6.heap.size < w8.heap.size := (by have := b8.size; first | omega | (revert this; simp; done) | (revert this; simp; omega))
      have g0_8 : w8.cell? ⟨w3.heap.size, 0, none⟩ = some (.slice (some ⟨g, 0, none⟩) 24 24) := (by rw [b8.cell (by first | omega | (simp; done) | (simp; omega))]; go_cell)
      have gl_8 : w3.heap.size < w8.heap.size := (by have := b8.size; first | omega | (revert this; simp; done) | (revert this; simp; omega))
      have o0_8 : w8.cell? ⟨w1.heap.size, 0, none⟩ = some (.int .i64 k) := (by rw [b8.cell (by first | omega | (simp; done) | (simp; omega))]; go_cell)
      have o1_8 : w8.cell? ⟨w1.heap.size, 1, none⟩ = some (.int .i64 a) := (by rw [b8.cell (by first | omega | (simp; done) | (simp; omega))]; go_cell)
      have o2_8 : w8.cell? ⟨w1.heap.size, 2, none⟩ = some (.int .i64 c) := (by rw [b8.cell (by first | omega | (simp; done) | (simp; omega))]; go_cell)
      have o3_8 : w8.cell? ⟨w1.heap.size, 3, none⟩ = some (.int .i64 x) := (by rw [b8.cell (by first | omega | (simp; done) | (simp; omega))]; go_cell)
      have ol_8 : w1.heap.size < w8.heap.size := (by have := b8.size; first | omega | (revert this; simp; done) | (revert this; simp; omega))
      clear y0_7 yl_7 g0_7 gl_7 o0_7 o1_7 o2_7 o3_7 ol_7
      have HG8 := hid (HG7.out.later d8)
      have HB8 := hid (HB7.out.later d8)
      clear b8 d8 HG7 HB7
      cases hO : opOk k a c x with
      | false =>
        go_wp2_with fail
        go_loopw [7, 8] (fun s i wr => s = .int .i64 0 ∧ i = .int .i64 0 ∧ wr = w8) (fun _ _ _ => 0)
        case atStart => exact ⟨rfl, rfl, rfl⟩
        case round =>
          obtain ⟨rfl, rfl, rfl⟩ := hrel
          go_wp2
          go_ret
          exact ⟨by simp, c8⟩
      | true =>
        have hP := hid (lawFGOpen_plain hO)
        generalize doG zeroG k a c x = M at *
        have hb2 : bulkG M ≤ 2 := by
          rcases hP.out with ⟨_, h⟩ | ⟨_, h⟩ | ⟨_, h, _⟩
          · omega
          · rw [h, bulk_zero]; omega
          · omega
        go_wp2_with fail
        go_loopw [7, 8] (fun s i wr => ∃ j : Nat, j ≤ 24 ∧ s = .int .i64 (bulkG (M.take j) : Nat) ∧ i = .int .i64 j ∧ Below w8.heap.size w8 wr) (fun _ i _ => 24 - (intOf i).toNat)
        case atStart => exact ⟨0, Nat.zero_le _, rfl, rfl, Below.refl _ _⟩
        case round =>
          obtain ⟨j, hj, rfl, rfl, hbel⟩ := hrel
          have y1 := (hbel.cell (p := ⟨w6.heap.size, 0, none⟩) yl_8).trans y0_8
          have HB9 := hid (HB8.out.later hbel)
          by_cases hlt : j < 24
          · obtain ⟨u, hu, hr⟩ := HB9.out.c1 hlt
            have hs1 := bulk_step M j (by rw [HB9.out.len]; exact hlt)
            have hs2 := bulk_take M (j + 1)
            obtain ⟨uo, uc, rfl, _⟩ := hr.rd
            obtain ⟨q, hq⟩ : ∃ q, (M.getD j valD0).2.length = q := ⟨_, rfl⟩
            rw [hq] at hu hs1
            clear hr hq
            have hS := hid hs1
            obtain ⟨r, hr⟩ : ∃ r, bulkG (M.take j) = r := ⟨_, rfl⟩
            rw [hr] at hS ⊢
            have hrq : r + q ≤ 2 := by have := hS.out; omega
            clear hs1 hs2 hr
            go_wp2
            go_roundw
            case rel => exact ⟨j + 1, by omega, by rw [hS.out]; simp, by go_num, hbel⟩
            case measure => simp [intOf]; omega
          · have hj24 : j = 24 := by omega
            subst hj24
            have hall : bulkG (M.take 24) = bulkG M := by rw [List.take_of_length_le (by rw [HB9.out.len]; exact Nat.le_refl _)]
            rw [hall]
            have c9 := c8.trans (hbel.mono c8.size)
            have g1 := (hbel.cell (p := ⟨w3.heap.size, 0, none⟩) gl_8).trans g0_8
            have o0 := (hbel.cell (p := ⟨w1.heap.size, 0, none⟩) ol_8).trans o0_8
            have o1 := (hbel.cell (p := ⟨w1.heap.size, 1, none⟩) ol_8).trans o1_8
            have o3 := (hbel.cell (p := ⟨w1.heap.size, 3, none⟩) ol_8).trans o3_8
            have HG9 := hid (HG8.out.later hbel)
            have r0 := cell_regrown o0
            have r1 := cell_regrown o1
            have r3 := cell_regrown o3
            have r4 := cell_regrown y1
            have r5 := cell_regrown g1
            clear hbel hall
            go_upto_region 17 with fail
            rcases hP.out with ⟨hs, hb⟩ | ⟨hs, hb⟩ | ⟨hs, hb, hx⟩
            · obtain rfl := hs.1
              rw [hb]
              refine wp_region_quiet_below (by kernel_rfl) (by kernel_rfl) ?_
              repeat (first | go_big_quiet_skip | (go_big_quiet_want; go_big_quiet_op; first | go_big_quiet_on | go_big_quiet_call (first | (fail))))
              refine wpQuiet_nil ?_
              rintro wq ⟨pq, hwq⟩
              have hq : Below wr.heap.size wr wq := by rw [hwq]; exact below_regrown _ _ _
              clear hwq pq
              go_wp2
              go_ret
              exact ⟨by simp, c9.trans (hq.mono c9.size)⟩
            · obtain rfl := hs.1
              rw [hb] at HB9
              rw [hb, bulk_zero]
              have hcal := fun (W : World) (h1 : RdG W (.slice (some ⟨g2, 0, none⟩) 24 24) zeroG) (h2 : RdG W (.slice (some ⟨g, 0, none⟩) 24 24) zeroG) => implGSame_any _ _ zeroG zeroG W h1 h2
              rw [eqG_refl] at hcal
              refine wp_region_quiet_below (by kernel_rfl) (by kernel_rfl) ?_
              repeat (first | go_big_quiet_skip | (go_big_quiet_want; go_big_quiet_op; first | go_big_quiet_on | go_big_quiet_call (first | (go_at_call 7; exact Calls.regrown_of (hcal _ ((HB9.out.rdG 24).later (below_regrown _ _ _)) (HG9.out.later (below_regrown _ _ _)))))))
              refine wpQuiet_nil ?_
              rintro wq ⟨pq, hwq⟩
              have hq : Below wr.heap.size wr wq := by rw [hwq]; exact below_regrown _ _ _
              clear hwq pq
              go_wp2
              go_ret
              exact ⟨by simp, c9.trans (hq.mono c9.size)⟩
            · obtain rfl := hs.1
              have ha := hs.2.1
              have ha24 : a.toNat < 24 := by omega
              have hc0 := HB9.out.c0 ha24
              rw [hx] at hc0
              have r6 := cell_regrown hc0
              have ha2 : a < 24 := by omega
              rw [hb]
              refine wp_region_quiet_below (by kernel_rfl) (by kernel_rfl) ?_
              repeat (first | go_big_quiet_skip | (go_big_quiet_want; go_big_quiet_op; first | go_big_quiet_on | go_big_quiet_call (first | (fail))))
              refine wpQuiet_nil ?_
              rintro wq ⟨pq, hwq⟩
              have hq : Below wr.heap.size wr wq := by rw [hwq]; exact below_regrown _ _ _
              clear hwq pq
              go_wp2
              go_ret
              exact ⟨by simp, c9.trans (hq.mono c9.size)⟩
end Go.Proofs.Ytpdfhffmhlgcmaa

/- Part: What every row here asks of the program: two closed facts. -/
namespace Go.Proofs.Ytpdfhffmhlgcmaa
open Go.ChangeShapes Go.WideShapes Go.ChangeAt Go.RowKit
theorem Try.own : ownKnob Try.prog.godebug = none := by kernel_rfl
theorem Try.laidOut : laidOutB Try.prog = true := by kernel_rfl
end Go.Proofs.Ytpdfhffmhlgcmaa

/- Part: An argument that is a slice of bytes. -/
namespace Go.Proofs.Ytpdfhffmhlgcmaa
open Go.ChangeShapes Go.WideShapes Go.ChangeAt Go.RowKit Go.Deep

theorem Try.cells5 : Try.prog.cellsOf 5 = 1 := by kernel_rfl

set_option maxRecDepth 100000 in
theorem by_of {H : Type} {enc : TypeId × Value → H} {W : World} {base : Nat} {v : Value} {d : DataW H} {p : List MemPlace} (hv : Value.okWide Try.prog W .any base 22 v)
    (h : DataW.Trod enc Try.prog W 0 (fun _ => true) true 22 v d p) (hlt : ∀ x ∈ p, x.block < W.heap.size) : ∃ n, Bs W v n := by
  obtain ⟨a0, len, cap, rfl⟩ := okWide_slice Try.underlying22 hv
  obtain ⟨fuel, hf⟩ := h
  rcases open_ints Try.underlying22 Try.underlying5 Try.cells5 hf with ⟨hcs, _⟩ | ⟨a, len', cap', zs, hcs, hh, hl, hm, hz, hx, hcell, hwz⟩
  · simp [Value.cells] at hcs
    obtain ⟨rfl, rfl, rfl⟩ := hcs
    exact ⟨0, none, 0, rfl, Nat.zero_le _, Nat.le_refl _, Nat.zero_le _, fun h0 => absurd h0 (Nat.lt_irrefl 0)⟩
  · simp [Value.cells] at hcs
    obtain ⟨rfl, rfl, rfl⟩ := hcs
    simp only [if_true] at hz
    refine ⟨len, some a, cap, rfl, Nat.le_trans hl hm, hl, hm, fun h0 => ?_⟩
    obtain ⟨b, off, spot⟩ := a
    have hs : spot = none := by
      have := hcell 0 (by omega)
      simpa [Addr.add] using World.cell?_spot this
    subst hs
    refine ⟨b, off, rfl, ?_, fun i hi => ?_⟩
    · simp only [Prod.mk.injEq] at hx
      exact hlt (.cell b off) (by rw [hx.2]; exact MemPlace.mem_row.2 ⟨0, by omega, by simp⟩)
    · have hc := hcell i (by omega)
      rw [add_plain] at hc
      have hw := bounds_u8 (hwz (zs.getD i 0) (by rw [List.getD_eq_getElem?_getD, List.getElem?_eq_getElem (by omega)]; exact List.getElem_mem _))
      exact ⟨_, hc, hw.1, by omega⟩
end Go.Proofs.Ytpdfhffmhlgcmaa

/- Part: Proved here: FnGraphOpen returns true for every slice of bytes (no condition); what it was handed reads as before. -/
namespace Go.Proofs.Ytpdfhffmhlgcmaa
open Go.ChangeShapes Go.WideShapes Go.ChangeAt Go.RowKit

set_option maxRecDepth 100000 in
theorem fGOpen_lifted (os : Os) (started : os.Started) (H : Type) (enc : TypeId × Value → H) :
    ReturnsInHanded {} Try.checked os 3 .any (Rows.fnGraphOpenSpec.pre6 enc Try.prog Try.f3 Rows.fnGraphOpenRow.domain false) (Rows.fnGraphOpenSpec.post enc Try.prog Try.f3 false true false false) := by
  refine returnsInHanded_of_change (C := Try.checked) Try.own started (by kernel_rfl) Try.func3
    (ChangeSpec.witness6 (enc := enc) (C := Try.checked) false ⟨#[], #[.slice none 0 0], []⟩ 8 (by kernel_rfl) (by kernel_rfl) (by kernel_rfl) (by kernel_rfl)) ?_
  intro W base args ds gs before hval0 hW _ _
  have hval : ∀ (j : Nat) t v, Try.f3.params[j]? = some t → args[j]? = some v → Value.okWide Try.prog W .any base t v := hval0
  have hW' := hW
  obtain ⟨p, q, hA0, hV, rfl, _, _⟩ := hW
  have hA : DataW.TrodAll enc Try.prog W 0 (fun _ => true) true Try.f3.params.toList args.toList ds p := hA0
  rw [Try.params3] at hA hval
  obtain ⟨v0, d0, rfl, rfl, h0⟩ := trodAll_one hA
  obtain ⟨rfl, rfl⟩ := trodVars_none hV
  clear hA0 hval0
  simp only [List.append_nil] at hW'
  have hlt0 : ∀ x ∈ p, x.block < W.heap.size := fun x hx => by have := hW'.lt x (by first | exact hx | (simp; first | exact hx | exact Or.inl hx | exact Or.inr hx | exact Or.inr (Or.inl hx))); exact this
  obtain ⟨l0, hl0⟩ := by_of (hval 0 22 v0 rfl rfl) h0 hlt0
  have hargs0 : ∀ (W' : World), Below W.heap.size W W' → DataW.Trod enc Try.prog W' 0 (fun b => decide (b < W.heap.size)) true 22 v0 d0 p :=
    fun W' hn => Below.trod Try.laidOut (by kernel_rfl) (of_decide_eq_true (by kernel_rfl)) h0 hn hlt0
  refine (lawFGOpen_any v0 l0 W hl0).mono fun e W' ⟨he, hnx⟩ => ?_
  subst he
  exact ⟨_, rfl, _, _, _, [], p, [], hW', trodAll_mk1 (shut_bool Try.underlying4 _), trodAll_mk1 (hargs0 _ hnx), rfl, hnx.frame _, fun h => by cases h⟩

theorem fGOpen_holds : Rows.FnGraphOpenSaid :=
  OpenClaim.holds_of_wide 3 Try.f3 rfl rfl rfl rfl rfl rfl rfl ⟨rfl, rfl, rfl, rfl, rfl⟩ rfl rfl rfl rfl rfl (by kernel_rfl) Try.func3 (by kernel_rfl)
    (of_decide_eq_true (by kernel_rfl)) (by unfold Func.isWrapper; first | (rw [if_pos (by decide +kernel)]; kernel_rfl) | (rw [if_neg (by decide +kernel)]; exact ⟨rfl, rfl⟩))
    (fun os started H enc _ => fGOpen_lifted os started H enc)
#print axioms fGOpen_holds

end Go.Proofs.Ytpdfhffmhlgcmaa
