/- Contracts and plain facts, several texts in one. -/
import Derived.Test.YtefhpbcdjgllnaaGreatGrA
import Derived.RangeFuncNested
import Derived.RangeFuncBound
import Derived.RangeFuncCalls
import Derived.RangeFuncLeaves
import Derived.RangeFuncBox
import Derived.Shelf.Abstract
import Derived.OwnWalkIn
import Derived.TacticsInMore
import Derived.LoopNIn
import Derived.LoopIn
import Derived.Maps.AppendAt
import Derived.Test.YtefhpbcdjgllnaaGreatGrC
import Derived.BigQuiet
import Derived.Lib.QuietBelow
import Derived.Test.YtefhpbcdjgllnaaGreatCp
import Derived.Lib.AppendZerosOnto
import Derived.Lib.Overlaps
import Derived.Deep.RegionLaw
import Derived.Deep.RegionWith
import Derived.Test.YtefhpbcdjgllnaaGreatAps
import Derived.Laws.AppendOwnNone
/- Part: Lists that are gathered from an iterator over a list: plain facts; the world's small steps. -/
namespace Go.Proofs.YtefhpbcdjgllnaaGreat
open Go.RowKit

theorem grown_of_below {W W' : World} (h : Below W.heap.size W W') : W.grownBy W' none := ⟨h.os, h.tape, h.output, h.size, fun k hk _ => h.block k hk⟩
theorem keeps_of_below {W W' : World} (h : Below W.heap.size W W') : KeepsOthers W W' :=
  ⟨h.size, fun k _ hk _ => (h.block k (Array.getElem?_eq_some_iff.1 hk).1).trans hk⟩

theorem row_form {w : World} {B : Nat} {e : TypeId} {size : Nat} {v : Value} {n : Nat} {xs : List Value} (h : w.ownsRow B e size v n xs) : ∃ ao cap, v = .slice ao n cap := by
  rcases h.2 with ⟨rfl, rfl⟩ | ⟨g, cap, cur, rfl, _⟩
  · exact ⟨none, 0, rfl⟩
  · exact ⟨_, cap, rfl⟩

theorem row_mono {w : World} {B B' : Nat} {e : TypeId} {size : Nat} {v : Value} {n : Nat} {xs : List Value} (h : w.ownsRow B e size v n xs) (hB : B' ≤ B) : w.ownsRow B' e size v n xs := by
  refine ⟨h.1, ?_⟩
  rcases h.2 with hn | ⟨g, cap, cur, rfl, hbg, rest⟩
  · exact .inl hn
  · exact .inr ⟨g, cap, cur, rfl, Nat.le_trans hB hbg, rest⟩

theorem filter_more (l : List (Int × Int)) (p : Int × Int → Bool) (k : Nat) (hk : k < l.length) : (l.take (k + 1)).filter p = if p (l.getD k (0, 0)) = true then (l.take k).filter p ++ [l.getD k (0, 0)] else (l.take k).filter p := by
  rw [List.take_succ_eq_append_getElem hk, List.filter_append]
  have e : l.getD k (0, 0) = l[k] := by simp [hk]
  rw [e]
  by_cases h : p l[k] = true <;> simp [h]
theorem filter_take_prefix (l : List (Int × Int)) (p : Int × Int → Bool) (k : Nat) : (l.take k).filter p <+: l.filter p := by
  have := (List.take_prefix k l).filter p
  exact this
theorem filter_take_lt (l : List (Int × Int)) (p : Int × Int → Bool) (k : Nat) (hk : k < l.length) : ((l.take k).filter p).length < l.length := by
  have := List.length_filter_le p (l.take k)
  rw [List.length_take] at this
  omega
/-- Below block m all but block B is as it was. -/
def BelowX (m B : Nat) (w w' : World) : Prop := w.heap.size ≤ w'.heap.size ∧ ∀ k, k < m → k ≠ B → w'.heap[k]? = w.heap[k]?
theorem BelowX.refl (m B : Nat) (w : World) : BelowX m B w w := ⟨Nat.le_refl _, fun _ _ _ => rfl⟩
theorem BelowX.trans {m B : Nat} {a b c : World} (h : BelowX m B a b) (k : BelowX m B b c) : BelowX m B a c := ⟨Nat.le_trans h.1 k.1, fun i hi hn => (k.2 i hi hn).trans (h.2 i hi hn)⟩
theorem BelowX.of {m B : Nat} {w w' : World} (h : Below m w w') : BelowX m B w w' := ⟨h.size, fun k hk _ => h.block k hk⟩
theorem BelowX.cell {m B : Nat} {w w' : World} (h : BelowX m B w w') {p : Addr} {v : Value} (hp : p.block < m) (hn : p.block ≠ B) (hc : w.cell? p = some v) : w'.cell? p = some v := (World.cell?_of_block (w := w) (h.2 p.block hp hn)).trans hc
theorem belowX_b {m B : Nat} {w : World} (hm : m ≤ w.heap.size) (W : World) (l : Nat) (o o' : Obj) (hl : w.heap.size ≤ l) (h : W.heap[l]? = some o) (_ : o.isCells = false) (_ : o.isWalk = false) : BelowX m B W (W.putObj l o') :=
  .of ((Below.refl m W).grown (grownBy_putObj' W l o') (by have := (Array.getElem?_eq_some_iff.1 h).1; omega) (fun k e => by cases e; omega))
theorem appendedX {W w1 : World} {m B : Nat} {t e : TypeId} {size : Nat} {v v' : Value} {k k' : Nat} {xs ys : List Value} {tmp : Obj}
    (hv : Boxed W B t v) (hte : t ≠ e) (hrow : W.ownsRow m e size v k xs) (hm : m ≤ W.heap.size) (hown' : w1.ownsRow m e size v' k' ys) (hgrow : (W.alloc tmp).grownBy w1 v.ownBlock) :
    Boxed w1 B t v ∧ Boxed (w1.setCell ⟨B, 0, none⟩ v') B t v' ∧ (w1.setCell ⟨B, 0, none⟩ v').ownsRow m e size v' k' ys ∧ KeepsOthers W (w1.setCell ⟨B, 0, none⟩ v') ∧ BelowX m B W (w1.setCell ⟨B, 0, none⟩ v') := by
  have hv1 : Boxed w1 B t v := (hv.alloc tmp).kept hgrow (hv.not_row hte hrow)
  refine ⟨hv1, hv1.set v', hown'.kept (grownBy_setCell' w1 B v') (.inr (hv1.not_row hte hown').symm), ?_, ?_⟩
  · refine ((KeepsOthers.alloc W tmp).trans (KeepsOthers.of_grownBy hgrow fun j o ej hj => ?_)).trans (KeepsOthers.setCell _ _ _)
    rcases (hrow.alloc tmp).2 with ⟨rfl, _⟩ | ⟨g, cap, cur, rfl, _, hgb, _⟩
    · simp [Value.ownBlock] at ej
    · obtain rfl : g = j := by simpa [Value.ownBlock] using ej
      rw [hgb] at hj; cases hj; rfl
  · refine ⟨?_, fun j hj hne => ?_⟩
    · have h1 := hgrow.size
      simp only [World.size_alloc] at h1
      simp only [World.size_setCell]
      omega
    · rw [Below.heap_setCell _ _ _ _ hne, hgrow.block j (by simp; omega) (fun e' => by have := (hrow.lt j e'.symm).1; omega)]
      exact Below.heap_alloc _ _ _ (by omega)

end Go.Proofs.YtefhpbcdjgllnaaGreat

/- Part: impl.edgesThat's iterator with the test of edgesWithout: contract. -/
namespace Go.Proofs.YtefhpbcdjgllnaaGreat
open Go.RowKit Go.Shelf

abbrev encE (x : Int × Int) : Array Value := #[.agg #[.int .i64 x.1, .int .i64 x.2]]

attribute [local go_sem] Oper.semAt_some

def notWho (who : Int) (x : Int × Int) : Bool := x.1 != who

end Go.Proofs.YtefhpbcdjgllnaaGreat

/- Part: impl.gatherEdges over an iterator that keeps its word: contract. -/
namespace Go.Proofs.YtefhpbcdjgllnaaGreat
open Go.RowKit Go.Shelf
attribute [local go_sem] Oper.semAt_some

theorem cells_two_new (w : World) (a b : Value) (t : TypeId) : ∀ j u, [a, b][j]? = some u → (w.alloc (.cells #[a, b] t)).cell? ((⟨w.heap.size, 0, none⟩ : Addr).add j) = some u := by
  intro j u h
  match j, h with
  | 0, h => simp at h; subst h; simp [Addr.add, go_sem]
  | 1, h => simp at h; subst h; simp [Addr.add, go_sem]
  | j + 2, h => simp at h

/-- A pair lies in a block. -/
def PairAt (W : World) (B : Nat) (x : Int × Int) : Prop := W.heap[B]? = some (.cells #[.int .i64 x.1, .int .i64 x.2] 124 (0, 0))
theorem PairAt.new (W : World) (x : Int × Int) : PairAt (W.alloc (.cells #[.int .i64 x.1, .int .i64 x.2] 124)) W.heap.size x := World.alloc_heap_new W _
theorem PairAt.c0 {W : World} {B : Nat} {x : Int × Int} (h : PairAt W B x) : W.cell? ⟨B, 0, none⟩ = some (.int .i64 x.1) := by simp [World.cell?, show W.heap[B]? = _ from h]
theorem PairAt.c1 {W : World} {B : Nat} {x : Int × Int} (h : PairAt W B x) : W.cell? ⟨B, 1, none⟩ = some (.int .i64 x.2) := by simp [World.cell?, show W.heap[B]? = _ from h]
theorem PairAt.ownFrom (B0 B : Nat) (x : Int × Int) : OwnFrom B0 (fun (_ : Unit) W => PairAt W B x) := by
  intro _ W W' row hs hg hr
  have hlt : B < W.heap.size := (Array.getElem?_eq_some_iff.1 hs).1
  refine (hg.block B hlt (fun e => ?_)).trans hs
  obtain ⟨_, o, ho, hc⟩ := hr B e.symm
  rw [show W.heap[B]? = _ from hs] at ho
  cases ho
  cases hc

theorem rowbox_ownFrom (B0 n0 B : Nat) (xs : List (Int × Int)) : OwnFrom B0 (fun (_ : Unit) W => ∃ v, Boxed W B 45 v ∧ W.ownsRow n0 124 2 v xs.length (ecells xs)) := by
  intro _ A A' row hs hg hr
  obtain ⟨v, h1, h2⟩ := hs
  obtain ⟨v', h1', h2', _⟩ := holdsRow_own n0 B 45 124 2 (fun pre => pre.length) ecells (fun _ _ => True) xs A A' row ⟨v, h1, h2, trivial⟩ hg (fun r e => (hr r e).2)
  exact ⟨v', h1', h2'⟩

end Go.Proofs.YtefhpbcdjgllnaaGreat

/- Part: impl.edgesThat, impl.edgesWithout, impl.EdgeDrop: contracts. -/
namespace Go.Proofs.YtefhpbcdjgllnaaGreat
open Go.RowKit Go.Shelf

end Go.Proofs.YtefhpbcdjgllnaaGreat

/- Part: spec.l1Drop, spec.EdgeDrop, impl.EdgeDrop: contracts. -/
namespace Go.Proofs.YtefhpbcdjgllnaaGreat
open Go.RowKit

/-- What EdgeDrop answers. -/
def dropL (l : List (Int × Int)) (who : Int) : List (Int × Int) := if okL l = true then l.filter (notWho who) else []
def dropB (l : List (Int × Int)) (who : Int) : Bool := okL l && decide ((l.filter (notWho who)).length < l.length)

theorem dropL_length (l : List (Int × Int)) (who : Int) : (dropL l who).length ≤ l.length := by
  unfold dropL
  split
  · exact List.length_filter_le _ _
  · simp


end Go.Proofs.YtefhpbcdjgllnaaGreat

/- Part: Plain: a list with an edge put in its place. -/
namespace Go.Proofs.YtefhpbcdjgllnaaGreat

/-- How many lie ahead of an edge, from the head on. -/
def placeN (l : List (Int × Int)) (e : Int × Int) : Nat := (l.takeWhile fun x => aheadB x e).length
def insAt (l : List (Int × Int)) (k : Nat) (e : Int × Int) : List (Int × Int) := l.take k ++ e :: l.drop k
def insL (l : List (Int × Int)) (e : Int × Int) : List (Int × Int) := insAt l (placeN l e) e
theorem placeN_le (l : List (Int × Int)) (e : Int × Int) : placeN l e ≤ l.length := (List.takeWhile_sublist _).length_le
theorem placeN_eq (l : List (Int × Int)) (e : Int × Int) : ∀ k, k ≤ l.length → (∀ i, i < k → aheadB (l.getD i (0, 0)) e = true) → (k < l.length → aheadB (l.getD k (0, 0)) e = false) → placeN l e = k := by
  induction l with
  | nil =>
    intro k hk _ _
    have : k = 0 := by simpa using hk
    subst this; rfl
  | cons x r ih =>
    intro k hk h1 h2
    cases k with
    | zero =>
      have := h2 (by simp)
      simp only [List.getD_cons_zero] at this
      simp [placeN, this]
    | succ k =>
      have h0 := h1 0 (by omega)
      simp only [List.getD_cons_zero] at h0
      have := ih k (by simpa using hk) (fun i hi => by simpa using h1 (i + 1) (by omega)) (fun hi => by simpa using h2 (by simpa using hi))
      simp only [placeN, List.takeWhile_cons, h0, if_true, List.length_cons] at this ⊢
      omega
theorem insL_length (l : List (Int × Int)) (e : Int × Int) : (insL l e).length = l.length + 1 := by
  have := placeN_le l e
  simp [insL, insAt]
  omega

/-- What EdgeAdd answers. -/
def addB (l : List (Int × Int)) (who at' : Int) : Bool := okL l && rightB (who, at')
def addL (l : List (Int × Int)) (who at' : Int) : List (Int × Int) := if addB l who at' = true then insL (l.filter (notWho who)) (who, at') else []
theorem addL_length (l : List (Int × Int)) (who at' : Int) : (addL l who at').length ≤ l.length + 1 := by
  unfold addL
  split
  · rw [insL_length]
    have := List.length_filter_le (notWho who) l
    omega
  · simp

theorem okL_filter (p : Int × Int → Bool) (l : List (Int × Int)) (h : okL l = true) : okL (l.filter p) = true := by
  induction l with
  | nil => rfl
  | cons e r ih =>
    simp only [okL, Bool.and_eq_true] at h
    have hr := ih h.2
    by_cases hp : p e = true
    · rw [List.filter_cons_of_pos hp]
      simp only [okL, Bool.and_eq_true]
      refine ⟨⟨h.1.1, ?_⟩, hr⟩
      rw [List.all_eq_true] at *
      exact fun f hf => h.1.2 f (List.mem_filter.1 hf).1
    · rw [List.filter_cons_of_neg hp]
      exact hr
/-- In a list that is in order, who lies ahead of an edge lies at the head. -/
theorem ahead_head {l : List (Int × Int)} {e : Int × Int} (h : GoodTo l l.length) {t m : Nat} (ht : t ≤ m) (hm : m < l.length) (hh : aheadB (l.getD m (0, 0)) e = true) : aheadB (l.getD t (0, 0)) e = true := by
  by_cases heq : t = m
  · rw [heq]; exact hh
  · exact aheadB_trans ((h m hm).2 t (by omega)).1 hh
theorem behind_tail {l : List (Int × Int)} {e : Int × Int} (h : GoodTo l l.length) {t m : Nat} (hm : m ≤ t) (ht : t < l.length) (hh : aheadB (l.getD m (0, 0)) e = false) : aheadB (l.getD t (0, 0)) e = false := by
  cases hc : aheadB (l.getD t (0, 0)) e with
  | false => rfl
  | true => rw [ahead_head h hm ht hc] at hh; exact absurd hh (by decide)
end Go.Proofs.YtefhpbcdjgllnaaGreat

/- Part: slices.BinarySearchFunc over edges in order: contract. -/
namespace Go.Proofs.YtefhpbcdjgllnaaGreat
open Go.RowKit Go.Shelf
attribute [local go_sem ↓] Go.wp_at_zero Go.wp_at_succ

end Go.Proofs.YtefhpbcdjgllnaaGreat

/- Part: slices.Insert of one edge into a list that is owned: contract. -/
namespace Go.Proofs.YtefhpbcdjgllnaaGreat
open Go.RowKit Go.Shelf

/-- What insert leaves in a row: two copies. -/
theorem splice_two (A X1 X2 Y Z : List Value) (hA : A = X1 ++ X2 ++ Z) (hZ : Y.length ≤ Z.length) :
    ∃ R, splice (splice A (X1.length + Y.length) X2) X1.length Y = X1 ++ Y ++ X2 ++ R := by
  subst hA
  have hP : ((X2 ++ Z).take Y.length).length = Y.length := by simp; omega
  have h1 : splice (X1 ++ X2 ++ Z) (X1.length + Y.length) X2 = X1 ++ ((X2 ++ Z).take Y.length ++ (X2 ++ (X1 ++ X2 ++ Z).drop (X1.length + Y.length + X2.length))) := by
    unfold splice
    rw [List.append_assoc X1 X2 Z, List.take_length_add_append, List.append_assoc X1]
  refine ⟨(X1 ++ X2 ++ Z).drop (X1.length + Y.length + X2.length), ?_⟩
  rw [h1]
  generalize (X1 ++ X2 ++ Z).drop (X1.length + Y.length + X2.length) = R
  generalize (X2 ++ Z).take Y.length = P at hP
  unfold splice
  rw [List.take_left', List.drop_append, List.drop_of_length_le (by omega), Nat.add_sub_cancel_left, List.nil_append, ← hP, List.drop_left]
  · simp only [List.append_assoc]
  · rfl
theorem splice_two' (A X1 X2 Y Z : List Value) (hA : A = X1 ++ Z) :
    ∃ R, splice (splice A X1.length Y) (X1.length + Y.length) X2 = X1 ++ Y ++ X2 ++ R := by
  subst hA
  have h1 : splice (X1 ++ Z) X1.length Y = (X1 ++ Y) ++ Z.drop Y.length := by
    unfold splice
    rw [List.take_left, List.drop_length_add_append, List.append_assoc]
  refine ⟨((X1 ++ Y) ++ Z.drop Y.length).drop (X1.length + Y.length + X2.length), ?_⟩
  rw [h1]
  generalize Z.drop Y.length = R
  unfold splice
  rw [List.take_left' (by simp)]
  simp only [List.append_assoc]

theorem pair_cells {w : World} {vb : Nat} {e : Int × Int} (hv2 : PairAt w vb e) : ∀ j u, [Value.int .i64 e.1, Value.int .i64 e.2][j]? = some u → w.cell? ((⟨vb, 0, none⟩ : Addr).add j) = some u := by
  intro j u h
  match j, h with
  | 0, h => simp at h; subst h; simp [Addr.add, hv2.c0]
  | 1, h => simp at h; subst h; simp [Addr.add, hv2.c1]
  | j + 2, h => simp at h
theorem copy_one {a b : Value} {n s : Nat} (hn : 1 ≤ n) (hs : s = 2) : [a, b].length = Nat.min 1 n * s := by
  rw [hs, show Nat.min 1 n = 1 from Nat.min_eq_left hn]; rfl

/-- A row that begins with the cells of what insert asks for owns it. -/
theorem own_insert {w : World} {B g cap k : Nat} {l : List (Int × Int)} {e : Int × Int} {X1 X2 L : List Value} (h1 : X1 = ecells (l.take k)) (h2 : X2 = ecells (l.drop k)) (l1 : X1.length = k * 2) (hk : k ≤ l.length)
    (hg : w.heap[g]? = some (.cells (splice (splice L ((k + 1) * 2) X2) (k * 2) [.int .i64 e.1, .int .i64 e.2]).toArray 124 (0, 0)))
    (hsp : ∃ R, splice (splice L (X1.length + 2) X2) X1.length [.int .i64 e.1, .int .i64 e.2] = X1 ++ [.int .i64 e.1, .int .i64 e.2] ++ X2 ++ R)
    (hb : B ≤ g) (hc : l.length + 1 ≤ cap) (hm : cap ≤ maxLen) (lL : L.length = cap * 2) : Own w B (.slice (some ⟨g, 0, none⟩) (l.length + 1) cap) (insAt l k e) := by
  obtain ⟨R, hR⟩ := hsp
  have l2 : X2.length = (l.length - k) * 2 := by rw [h2, ecells_length, List.length_drop]
  have hlen : (insAt l k e).length = l.length + 1 := by simp [insAt]; omega
  have hcells : ecells (insAt l k e) = X1 ++ [.int .i64 e.1, .int .i64 e.2] ++ X2 := by
    rw [insAt, ecells_append, h1, h2]
    simp [ecells]
  have hle : (splice (splice L ((k + 1) * 2) X2) (k * 2) [Value.int .i64 e.1, Value.int .i64 e.2]).length = cap * 2 := by
    have a1 : (splice L ((k + 1) * 2) X2).length = cap * 2 := (length_splice _ _ _ (by omega)).trans lL
    rw [length_splice _ _ _ (by rw [a1]; simp; omega), a1]
  rw [l1, show k * 2 + 2 = (k + 1) * 2 by omega] at hR
  refine ⟨by rw [ecells_length], .inr ⟨g, cap, _, by rw [hlen], hb, hg, by omega, hm, by simpa using hle, ?_⟩⟩
  rw [hlen, hcells]
  show List.take _ (splice _ _ _) = _
  rw [hR, List.take_left' (by simp [l1, l2]; omega)]

theorem own_grown {w : World} {B g cap k : Nat} {l : List (Int × Int)} {e : Int × Int} {X1 X2 L Z : List Value} (h1 : X1 = ecells (l.take k)) (h2 : X2 = ecells (l.drop k)) (l1 : X1.length = k * 2) (hk : k ≤ l.length)
    (hg : w.heap[g]? = some (.cells (splice (splice L (k * 2) [.int .i64 e.1, .int .i64 e.2]) ((k + 1) * 2) X2).toArray 124 (0, 0)))
    (hL : L = X1 ++ Z) (hb : B ≤ g) (hc : l.length + 1 ≤ cap) (hm : cap ≤ maxLen) (lL : L.length = cap * 2) : Own w B (.slice (some ⟨g, 0, none⟩) (l.length + 1) cap) (insAt l k e) := by
  have l2 : X2.length = (l.length - k) * 2 := by rw [h2, ecells_length, List.length_drop]
  obtain ⟨R, hR⟩ := splice_two' L X1 X2 [.int .i64 e.1, .int .i64 e.2] Z hL
  have hlen : (insAt l k e).length = l.length + 1 := by simp [insAt]; omega
  have hcells : ecells (insAt l k e) = X1 ++ [.int .i64 e.1, .int .i64 e.2] ++ X2 := by
    rw [insAt, ecells_append, h1, h2]
    simp [ecells]
  have hle : (splice (splice L (k * 2) [Value.int .i64 e.1, Value.int .i64 e.2]) ((k + 1) * 2) X2).length = cap * 2 := by
    have a1 : (splice L (k * 2) [Value.int .i64 e.1, Value.int .i64 e.2]).length = cap * 2 := (length_splice _ _ _ (by simp; omega)).trans lL
    rw [length_splice _ _ _ (by rw [a1]; omega), a1]
  rw [l1, show k * 2 + [Value.int .i64 e.1, Value.int .i64 e.2].length = (k + 1) * 2 by simp; omega] at hR
  refine ⟨by rw [ecells_length], .inr ⟨g, cap, _, by rw [hlen], hb, hg, by omega, hm, by simpa using hle, ?_⟩⟩
  rw [hlen, hcells]
  show List.take _ (splice _ _ _) = _
  rw [hR, List.take_left' (by simp [l1, l2]; omega)]

end Go.Proofs.YtefhpbcdjgllnaaGreat

/- Part: impl.EdgeAdd: contract. -/
namespace Go.Proofs.YtefhpbcdjgllnaaGreat
open Go.RowKit Go.Shelf

/-- What stays while the place is looked for. -/
structure KeepAdd (W w0 : World) (b0 : Nat) (v : Value) (rest : List (Int × Int)) (e : Int × Int) : Prop where
  pair : PairAt W b0 e
  own : Own W w0.heap.size v rest
  bel : Below w0.heap.size w0 W
theorem PairAt.past {W W' : World} {b : Nat} {e : Int × Int} (h : PairAt W b e) (hb : Below W.heap.size W W') : PairAt W' b e :=
  (hb.block _ (Array.getElem?_eq_some_iff.1 h).1).trans h
theorem KeepAdd.later {W W' w0 : World} {b0 : Nat} {v : Value} {rest : List (Int × Int)} {e : Int × Int} (h : KeepAdd W w0 b0 v rest e) (hb : Below W.heap.size W W') : KeepAdd W' w0 b0 v rest e :=
  ⟨h.pair.past hb, h.own.later hb, h.bel.trans (hb.mono h.bel.size)⟩
theorem KeepAdd.drew {W w0 : World} {b0 : Nat} {v : Value} {rest : List (Int × Int)} {e : Int × Int} (h : KeepAdd W w0 b0 v rest e) : KeepAdd W.drew w0 b0 v rest e := h.later ((Below.refl _ _).drew)
theorem KeepAdd.alloc {W w0 : World} {b0 : Nat} {v : Value} {rest : List (Int × Int)} {e : Int × Int} (h : KeepAdd W w0 b0 v rest e) (o : Obj) : KeepAdd (W.alloc o) w0 b0 v rest e := h.later ((Below.refl _ _).alloc (Nat.le_refl _) _)
theorem KeepAdd.ne {W w0 : World} {b0 : Nat} {v : Value} {rest : List (Int × Int)} {e : Int × Int} (h : KeepAdd W w0 b0 v rest e) : v.ownBlock ≠ some W.heap.size := fun hh => Nat.lt_irrefl _ (h.own.block _ hh).2

end Go.Proofs.YtefhpbcdjgllnaaGreat

/- Part: spec.l1Add, spec.EdgeAdd: contracts. -/
namespace Go.Proofs.YtefhpbcdjgllnaaGreat
open Go.RowKit Go.Shelf
attribute [local go_sem ↓] Go.wp_at_zero Go.wp_at_succ

/-- The first k of an owned list are owned. -/
theorem Own.take {w : World} {B g cap : Nat} {l : List (Int × Int)} (h : Own w B (.slice (some ⟨g, 0, none⟩) l.length cap) l) (k : Nat) (hk : k ≤ l.length) : Own w B (.slice (some ⟨g, 0, none⟩) k cap) (l.take k) := by
  have hl : (l.take k).length = k := by simp; omega
  rcases h.2 with ⟨hh, _⟩ | ⟨g', cap', cur, hh, hb, hg, hnc, hcm, hcs, ht⟩
  · cases hh
  · cases hh
    refine ⟨by rw [ecells_length], .inr ⟨g, cap, cur, by rw [hl], hb, hg, by omega, hcm, hcs, ?_⟩⟩
    have e1 : ecells l = ecells (l.take k) ++ ecells (l.drop k) := by rw [← ecells_append, List.take_append_drop]
    rw [hl]
    have : cur.toList.take (k * 2) = (cur.toList.take (l.length * 2)).take (k * 2) := by rw [List.take_take, Nat.min_eq_left (by omega)]
    rw [this, ht, e1, List.take_left' (by rw [ecells_length, hl])]

theorem Own.at {w : World} {B g n cap : Nat} {l : List (Int × Int)} (h : Own w B (.slice (some ⟨g, 0, none⟩) n cap) l) {k : Nat} (hk : k < l.length) :
    w.cell? ⟨g, k * 2, none⟩ = some (.int .i64 (l.getD k (0, 0)).1) ∧ w.cell? ⟨g, k * 2 + 1, none⟩ = some (.int .i64 (l.getD k (0, 0)).2) := by
  obtain ⟨ao, cap', hv, _, hc⟩ := h.rd
  cases hv
  obtain ⟨b, off, he, _, hcc⟩ := hc (by omega)
  cases he
  simpa using hcc k hk

theorem Own.from {w : World} {B g cap : Nat} {l : List (Int × Int)} (h : Own w B (.slice (some ⟨g, 0, none⟩) l.length cap) l) (k : Nat) : Rd w (.slice (some ⟨g, k * 2, none⟩) (l.drop k).length (cap - k)) (l.drop k) := by
  have hb := h.block g rfl
  have hm : l.length ≤ maxLen := by
    obtain ⟨_, _, _, hm, _⟩ := h.rd
    exact hm
  refine ⟨_, _, rfl, by simp; omega, fun h0 => ⟨g, k * 2, rfl, hb.2, fun i hi => ?_⟩⟩
  rw [List.length_drop] at hi
  obtain ⟨c0, c1⟩ := h.at (k := k + i) (by omega)
  have e : (l.drop k).getD i (0, 0) = l.getD (k + i) (0, 0) := by simp [List.getD_eq_getElem?_getD]
  rw [e, show k * 2 + i * 2 = (k + i) * 2 by omega]
  exact ⟨c0, c1⟩

/-- A slice value that reads as a list is copied: onto nothing. -/
theorem Rd.cells {w : World} {b off n cap : Nat} {l : List (Int × Int)} (h : Rd w (.slice (some ⟨b, off, none⟩) n cap) l) : ∀ j u, (ecells l)[j]? = some u → w.cell? ((⟨b, off, none⟩ : Addr).add j) = some u := by
  obtain ⟨ao, cap', hv, hl, hc⟩ := h
  cases hv
  intro j u hu
  have hj : j < l.length * 2 := by rw [← ecells_length]; exact (List.getElem?_eq_some_iff.1 hu).1
  obtain ⟨b', off', he, hlt, hcc⟩ := hc (by omega)
  cases he
  obtain ⟨c0, c1⟩ := hcc (j / 2) (by omega)
  have g := ecells_get l (j / 2) (by omega)
  rw [Addr.add_lit]
  by_cases hp : j % 2 = 0
  · have e : j / 2 * 2 = j := by omega
    rw [e] at c0 g
    rw [c0, ← g.1, hu]
  · have e : j / 2 * 2 + 1 = j := by omega
    rw [Nat.add_assoc, e] at c1
    rw [e] at g
    rw [c1, ← g.2, hu]

theorem take_row {w : World} {B g cap : Nat} {l : List (Int × Int)} (h : Own w B (.slice (some ⟨g, 0, none⟩) l.length cap) l) (k : Nat) (hk : k ≤ l.length) : w.ownsRow B 124 2 (.slice (some ⟨g, 0, none⟩) k cap) k (ecells (l.take k)) := by
  have := h.take k hk
  unfold Own at this
  rwa [show (l.take k).length = k by simp; omega] at this
/-- The cells of a list that lies elsewhere, behind an append onto row g. -/
theorem tail_cells {w w1 w6 : World} {B gt ct g n : Nat} {l : List (Int × Int)} (o : Obj) (h : Own w B (.slice (some ⟨gt, 0, none⟩) n ct) l) (hne : gt ≠ g) (hg : w1.grownBy w6 (some g)) (he : w1 = (w.alloc o).drew) :
    ∀ j u, (ecells l)[j]? = some u → w6.cell? ((⟨gt, 0, none⟩ : Addr).add j) = some u := by
  subst he
  intro j u hu
  have h1 := World.ownsRow.cells (h.later (((Below.refl _ w).alloc (Nat.le_refl _) o).drew)) (g := gt) rfl j u hu
  exact hg.cell h1 (fun e => hne (by rw [Addr.add_lit] at e; exact Option.some.inj e))

theorem own_three {w : World} {B k : Nat} {v : Value} {l : List (Int × Int)} {x1 x2 : Int} (h : w.ownsRow B 124 2 v (k + 1 + (l.length - k)) (ecells (l.take k) ++ [.int .i64 x1, .int .i64 x2] ++ ecells (l.drop k))) (hk : k ≤ l.length) : Own w B v (insAt l k (x1, x2)) := by
  have hlen : (insAt l k (x1, x2)).length = k + 1 + (l.length - k) := by simp [insAt]; omega
  have hc : ecells (insAt l k (x1, x2)) = ecells (l.take k) ++ [.int .i64 x1, .int .i64 x2] ++ ecells (l.drop k) := by
    rw [insAt, ecells_append]
    simp [ecells]
  unfold Own
  rw [hlen, hc]
  exact h

end Go.Proofs.YtefhpbcdjgllnaaGreat

/- Part: spec.l2Copy: contract. -/
namespace Go.Proofs.YtefhpbcdjgllnaaGreat
open Go.RowKit
attribute [local go_sem ↓] Go.wp_at_zero Go.wp_at_succ

theorem run_append_cap {P : Program} {w : World} (base : Nat) (t ty e : TypeId) (i : TypeInfo) (size cp : Nat) (ht : P.underlying t = some (.slice e)) (hi : P.info? e = some i)
    (v : Value) (n : Nat) (xs : List Value) (hown : w.ownsRow base e size v n xs) :
    (Builtin.append_ #[t, t] ty #[v, .slice none 0 cp]).run P w = .ok v w := by
  rcases hown.2 with ⟨rfl, rfl⟩ | ⟨g, cap, cur, rfl, _, _, hnc, _⟩
  · simp [Builtin.append_, run_underlying ht, sizeOf, typeInfo, hi, Builtin.lenOf, Builtin.firstCells]
  · simp [Builtin.append_, run_underlying ht, sizeOf, typeInfo, hi, Builtin.lenOf, Builtin.firstCells, hnc, storeCells]
theorem wpList_append_cap {P : Program} {w : World} {ops : Array Oper} {rest : List Oper} {o : Oper} {a : Act} {Q : Exit → Act → World → Prop} (hgd : o.guard = none) (s x : Operand) (t : TypeId)
    (ho : o.op = .call { callee := .builtin .append, args := #[s, x], argTypes := #[t, t] })
    (base : Nat) (e : TypeId) (i : TypeInfo) (size cp : Nat) (ht : P.underlying t = some (.slice e)) (hi : P.info? e = some i)
    (v : Value) (n : Nat) (xs : List Value) (hs : a.eval s = v) (hown : w.ownsRow base e size v n xs) (hx : a.eval x = .slice none 0 cp)
    (h : wpList P ops Q rest (a.put o.dst v) w) : wpList P ops Q (o :: rest) a w := by
  refine wpList_plain hgd fun K hK => ?_
  have hrun := run_append_cap (P := P) (w := w) base t o.type e i size cp ht hi v n xs hown
  unfold Oper.wp
  simp [execOp, ho, resolve, invoke, builtin, hs, hx, hrun, Result.andThen]
  exact hK _ _ h

end Go.Proofs.YtefhpbcdjgllnaaGreat
