/- Contracts and plain facts, several texts in one. -/
import Derived.Test.YtilbaiohcfhcaaaGrD
import Derived.Test.YtilbaiohcfhcaaaGrA
import Derived.Test.YtilbaiohcfhcaaaGrC
import Derived.BigQuiet
import Derived.Lib.QuietBelow
import Derived.Test.YtilbaiohcfhcaaaCp
import Derived.Lib.AppendZerosOnto
import Derived.Lib.Overlaps
import Derived.Deep.RegionLaw
import Derived.Deep.RegionWith
import Derived.Test.YtilbaiohcfhcaaaAps
import Derived.Laws.AppendOwnNone
/- Part: impl.edgesThat's iterator with the test of edgesWithout: contract. -/
namespace Go.Proofs.Ytilbaiohcfhcaaa
open Go.RowKit Go.Shelf

abbrev encE (x : Int × Int) : Array Value := #[.agg #[.int .i64 x.1, .int .i64 x.2]]

attribute [local go_sem] Oper.semAt_some

def notWho (who : Int) (x : Int × Int) : Bool := x.1 != who

end Go.Proofs.Ytilbaiohcfhcaaa

/- Part: impl.gatherEdges over an iterator that keeps its word: contract. -/
namespace Go.Proofs.Ytilbaiohcfhcaaa
open Go.RowKit Go.Shelf
attribute [local go_sem] Oper.semAt_some

theorem cells_two_new (w : World) (a b : Value) (t : TypeId) : ∀ j u, [a, b][j]? = some u → (w.alloc (.cells #[a, b] t)).cell? ((⟨w.heap.size, 0, none⟩ : Addr).add j) = some u := by
  intro j u h
  match j, h with
  | 0, h => simp at h; subst h; simp [Addr.add, go_sem]
  | 1, h => simp at h; subst h; simp [Addr.add, go_sem]
  | j + 2, h => simp at h

/-- A pair lies in a block. -/
def PairAt (W : World) (B : Nat) (x : Int × Int) : Prop := W.heap[B]? = some (.cells #[.int .i64 x.1, .int .i64 x.2] 52 (0, 0))
theorem PairAt.new (W : World) (x : Int × Int) : PairAt (W.alloc (.cells #[.int .i64 x.1, .int .i64 x.2] 52)) W.heap.size x := World.alloc_heap_new W _
theorem PairAt.c0 {W : World} {B : Nat} {x : Int × Int} (h : PairAt W B x) : W.cell? ⟨B, 0, none⟩ = some (.int .i64 x.1) := by simp [World.cell?, show W.heap[B]? = _ from h]
theorem PairAt.c1 {W : World} {B : Nat} {x : Int × Int} (h : PairAt W B x) : W.cell? ⟨B, 1, none⟩ = some (.int .i64 x.2) := by simp [World.cell?, show W.heap[B]? = _ from h]
theorem PairAt.ownFrom (B0 B : Nat) (x : Int × Int) : OwnFrom B0 (fun (_ : Unit) W => PairAt W B x) := by
  intro _ W W' row hs hg hr
  have hlt : B < W.heap.size := (Array.getElem?_eq_some_iff.1 hs).1
  refine (hg.block B hlt (fun e => ?_)).trans hs
  obtain ⟨_, o, ho, hc⟩ := hr B e.symm
  rw [show W.heap[B]? = _ from hs] at ho
  cases ho
  cases hc

theorem rowbox_ownFrom (B0 n0 B : Nat) (xs : List (Int × Int)) : OwnFrom B0 (fun (_ : Unit) W => ∃ v, Boxed W B 27 v ∧ W.ownsRow n0 52 2 v xs.length (ecells xs)) := by
  intro _ A A' row hs hg hr
  obtain ⟨v, h1, h2⟩ := hs
  obtain ⟨v', h1', h2', _⟩ := holdsRow_own n0 B 27 52 2 (fun pre => pre.length) ecells (fun _ _ => True) xs A A' row ⟨v, h1, h2, trivial⟩ hg (fun r e => (hr r e).2)
  exact ⟨v', h1', h2'⟩

end Go.Proofs.Ytilbaiohcfhcaaa

/- Part: impl.edgesThat, impl.edgesWithout, impl.EdgeDrop: contracts. -/
namespace Go.Proofs.Ytilbaiohcfhcaaa
open Go.RowKit Go.Shelf

end Go.Proofs.Ytilbaiohcfhcaaa

/- Part: spec.l1Drop, spec.EdgeDrop, impl.EdgeDrop: contracts. -/
namespace Go.Proofs.Ytilbaiohcfhcaaa
open Go.RowKit

/-- What EdgeDrop answers. -/
def dropL (l : List (Int × Int)) (who : Int) : List (Int × Int) := if okL l = true then l.filter (notWho who) else []
def dropB (l : List (Int × Int)) (who : Int) : Bool := okL l && decide ((l.filter (notWho who)).length < l.length)

theorem dropL_length (l : List (Int × Int)) (who : Int) : (dropL l who).length ≤ l.length := by
  unfold dropL
  split
  · exact List.length_filter_le _ _
  · simp

set_option maxRecDepth 100000 in
set_option maxHeartbeats 2000000 in
theorem l1Drop_any (v : Value) (l : List (Int × Int)) (who : Int) (w : World) (h : Rd w v l) (hll : l.length ≤ 1099511627776) :
    Calls Try.prog 69 #[v, .int .i64 who] w fun e w' => ∃ v', e = .returned (.tuple #[v', .bool (decide ((l.filter (notWho who)).length < l.length))]) ∧ Own w' w.heap.size v' (l.filter (notWho who)) ∧ (∃ g cp, v' = .slice (some ⟨g, 0, none⟩) (l.filter (notWho who)).length cp) ∧ Below w.heap.size w w' := by
  obtain ⟨ao, cap, rfl, _, hc⟩ := h
  obtain ⟨i0, hi, hz0, hz1, hz2⟩ := info_parts Try.info52
  go_enter Try.func69, Try.ntmps69
  go_wp2
  go_loopw [6, 7] (fun u i wr => ∃ k : Nat, k ≤ l.length ∧ i = .int .i64 k ∧ wr.ownsRow w.heap.size 52 2 u ((l.take k).filter (notWho who)).length (ecells ((l.take k).filter (notWho who))) ∧ (∃ g cp, u = .slice (some ⟨g, 0, none⟩) ((l.take k).filter (notWho who)).length cp) ∧ Below w.heap.size w wr) (fun _ i _ => l.length - (intOf i).toNat)
  case atStart => exact ⟨0, Nat.zero_le _, rfl, World.ownsRow_lit w #[] 0 (Nat.le_refl _) (Nat.zero_le _) rfl, ⟨_, _, rfl⟩, by go_grown⟩
  case round =>
    obtain ⟨k, hk, rfl, hrow, ⟨gu, cu, rfl⟩, hbel⟩ := hrel
    have hsz := hbel.size
    by_cases hlt : k < l.length
    · obtain ⟨b, o, rfl, hb, hcc⟩ := hc (by omega)
      obtain ⟨c0, c1⟩ := hcc k hlt
      rw [← hbel.cell (p := ⟨b, o + k * 2, none⟩) hb] at c0
      rw [← hbel.cell (p := ⟨b, o + k * 2 + 1, none⟩) hb] at c1
      have HM := hid (filter_more l (notWho who) k hlt)
      have hfl := filter_take_lt l (notWho who) k hlt
      clear hcc hc
      by_cases he : (l.getD k (0, 0)).1 = who
      · have HN : Hid ((l.take (k + 1)).filter (notWho who) = (l.take k).filter (notWho who)) := by
          have := HM.out
          rw [if_neg (by unfold notWho; rw [he]; simp)] at this
          exact this
        rw [he] at c0
        clear he HM
        generalize l.getD k (0, 0) = x at *
        go_wp2
        go_roundw
        case rel => exact ⟨k + 1, by omega, by go_num, by rw [HN.out]; exact hrow, ⟨gu, cu, by rw [HN.out]⟩, hbel⟩
        case measure => simp [intOf]; omega
      · have HN : Hid ((l.take (k + 1)).filter (notWho who) = (l.take k).filter (notWho who) ++ [l.getD k (0, 0)]) := by
          have := HM.out
          rw [if_pos (by unfold notWho; exact bne_iff_ne.2 he)] at this
          exact this
        have hne : ((l.getD k (0, 0)).1 == who) = false := beq_eq_false_iff_ne.2 he
        have hk1 : ((l.take k).filter (notWho who)).length + 1 ≤ maxLen := by unfold maxLen; omega
        have hk2 : (((l.take k).filter (notWho who)).length + 1) * 16 ≤ 140737488355328 := by omega
        clear he HM
        generalize l.getD k (0, 0) = x at *
        have hbs : w.heap.size ≤ (wr.alloc (.cells #[.int .i64 x.1, .int .i64 x.2] 52)).heap.size := by simp; omega
        go_wp2_with (first | (at_builtin; refine wpList_append_own _ rfl _ _ 27 rfl w.heap.size 52 i0 (.agg #[.int .i64 0, .int .i64 0]) 2 16 Try.underlying27 hi hz0 hz1 hz2 rfl (by decide) _ _ _ rfl (hrow.alloc _) ⟨wr.heap.size, 0, none⟩ 1 1 [.int .i64 x.1, .int .i64 x.2] rfl rfl (cells_two_new _ _ _ _) (by simp [Value.oneCell']) hk1 hk2 hbs ?_; intro v' w1 hown' hgrow' _; obtain ⟨g', cap', rfl⟩ := ownsRow_succ hown'))
        go_roundw
        case rel => exact ⟨k + 1, by omega, by go_num, by rw [HN.out, ecells_append]; simpa [ecells] using hown', ⟨g', cap', by rw [HN.out]; simp⟩, (hbel.trans (((Below.refl _ wr).alloc (Nat.le_refl _) _).mono hsz)).grown hgrow' hbs (fun j ej => (hrow.lt j ej).1)⟩
        case measure => simp [intOf]; omega
    · obtain rfl : k = l.length := by omega
      rw [List.take_length] at hrow
      have HR := hid hrow
      clear hrow
      rw [List.take_length]
      go_wp2
      go_ret2
      exact ⟨_, by simp, HR.out, ⟨gu, cu, rfl⟩, hbel⟩


end Go.Proofs.Ytilbaiohcfhcaaa

/- Part: Plain: a list with an edge put in its place. -/
namespace Go.Proofs.Ytilbaiohcfhcaaa

/-- How many lie ahead of an edge, from the head on. -/
def placeN (l : List (Int × Int)) (e : Int × Int) : Nat := (l.takeWhile fun x => aheadB x e).length
def insAt (l : List (Int × Int)) (k : Nat) (e : Int × Int) : List (Int × Int) := l.take k ++ e :: l.drop k
def insL (l : List (Int × Int)) (e : Int × Int) : List (Int × Int) := insAt l (placeN l e) e
theorem placeN_le (l : List (Int × Int)) (e : Int × Int) : placeN l e ≤ l.length := (List.takeWhile_sublist _).length_le
theorem placeN_eq (l : List (Int × Int)) (e : Int × Int) : ∀ k, k ≤ l.length → (∀ i, i < k → aheadB (l.getD i (0, 0)) e = true) → (k < l.length → aheadB (l.getD k (0, 0)) e = false) → placeN l e = k := by
  induction l with
  | nil =>
    intro k hk _ _
    have : k = 0 := by simpa using hk
    subst this; rfl
  | cons x r ih =>
    intro k hk h1 h2
    cases k with
    | zero =>
      have := h2 (by simp)
      simp only [List.getD_cons_zero] at this
      simp [placeN, this]
    | succ k =>
      have h0 := h1 0 (by omega)
      simp only [List.getD_cons_zero] at h0
      have := ih k (by simpa using hk) (fun i hi => by simpa using h1 (i + 1) (by omega)) (fun hi => by simpa using h2 (by simpa using hi))
      simp only [placeN, List.takeWhile_cons, h0, if_true, List.length_cons] at this ⊢
      omega
theorem insL_length (l : List (Int × Int)) (e : Int × Int) : (insL l e).length = l.length + 1 := by
  have := placeN_le l e
  simp [insL, insAt]
  omega

/-- What EdgeAdd answers. -/
def addB (l : List (Int × Int)) (who at' : Int) : Bool := okL l && rightB (who, at')
def addL (l : List (Int × Int)) (who at' : Int) : List (Int × Int) := if addB l who at' = true then insL (l.filter (notWho who)) (who, at') else []
theorem addL_length (l : List (Int × Int)) (who at' : Int) : (addL l who at').length ≤ l.length + 1 := by
  unfold addL
  split
  · rw [insL_length]
    have := List.length_filter_le (notWho who) l
    omega
  · simp

theorem okL_filter (p : Int × Int → Bool) (l : List (Int × Int)) (h : okL l = true) : okL (l.filter p) = true := by
  induction l with
  | nil => rfl
  | cons e r ih =>
    simp only [okL, Bool.and_eq_true] at h
    have hr := ih h.2
    by_cases hp : p e = true
    · rw [List.filter_cons_of_pos hp]
      simp only [okL, Bool.and_eq_true]
      refine ⟨⟨h.1.1, ?_⟩, hr⟩
      rw [List.all_eq_true] at *
      exact fun f hf => h.1.2 f (List.mem_filter.1 hf).1
    · rw [List.filter_cons_of_neg hp]
      exact hr
/-- In a list that is in order, who lies ahead of an edge lies at the head. -/
theorem ahead_head {l : List (Int × Int)} {e : Int × Int} (h : GoodTo l l.length) {t m : Nat} (ht : t ≤ m) (hm : m < l.length) (hh : aheadB (l.getD m (0, 0)) e = true) : aheadB (l.getD t (0, 0)) e = true := by
  by_cases heq : t = m
  · rw [heq]; exact hh
  · exact aheadB_trans ((h m hm).2 t (by omega)).1 hh
theorem behind_tail {l : List (Int × Int)} {e : Int × Int} (h : GoodTo l l.length) {t m : Nat} (hm : m ≤ t) (ht : t < l.length) (hh : aheadB (l.getD m (0, 0)) e = false) : aheadB (l.getD t (0, 0)) e = false := by
  cases hc : aheadB (l.getD t (0, 0)) e with
  | false => rfl
  | true => rw [ahead_head h hm ht hc] at hh; exact absurd hh (by decide)
end Go.Proofs.Ytilbaiohcfhcaaa

/- Part: slices.BinarySearchFunc over edges in order: contract. -/
namespace Go.Proofs.Ytilbaiohcfhcaaa
open Go.RowKit Go.Shelf
attribute [local go_sem ↓] Go.wp_at_zero Go.wp_at_succ

end Go.Proofs.Ytilbaiohcfhcaaa

/- Part: slices.Insert of one edge into a list that is owned: contract. -/
namespace Go.Proofs.Ytilbaiohcfhcaaa
open Go.RowKit Go.Shelf

/-- What insert leaves in a row: two copies. -/
theorem splice_two (A X1 X2 Y Z : List Value) (hA : A = X1 ++ X2 ++ Z) (hZ : Y.length ≤ Z.length) :
    ∃ R, splice (splice A (X1.length + Y.length) X2) X1.length Y = X1 ++ Y ++ X2 ++ R := by
  subst hA
  have hP : ((X2 ++ Z).take Y.length).length = Y.length := by simp; omega
  have h1 : splice (X1 ++ X2 ++ Z) (X1.length + Y.length) X2 = X1 ++ ((X2 ++ Z).take Y.length ++ (X2 ++ (X1 ++ X2 ++ Z).drop (X1.length + Y.length + X2.length))) := by
    unfold splice
    rw [List.append_assoc X1 X2 Z, List.take_length_add_append, List.append_assoc X1]
  refine ⟨(X1 ++ X2 ++ Z).drop (X1.length + Y.length + X2.length), ?_⟩
  rw [h1]
  generalize (X1 ++ X2 ++ Z).drop (X1.length + Y.length + X2.length) = R
  generalize (X2 ++ Z).take Y.length = P at hP
  unfold splice
  rw [List.take_left', List.drop_append, List.drop_of_length_le (by omega), Nat.add_sub_cancel_left, List.nil_append, ← hP, List.drop_left]
  · simp only [List.append_assoc]
  · rfl
theorem splice_two' (A X1 X2 Y Z : List Value) (hA : A = X1 ++ Z) :
    ∃ R, splice (splice A X1.length Y) (X1.length + Y.length) X2 = X1 ++ Y ++ X2 ++ R := by
  subst hA
  have h1 : splice (X1 ++ Z) X1.length Y = (X1 ++ Y) ++ Z.drop Y.length := by
    unfold splice
    rw [List.take_left, List.drop_length_add_append, List.append_assoc]
  refine ⟨((X1 ++ Y) ++ Z.drop Y.length).drop (X1.length + Y.length + X2.length), ?_⟩
  rw [h1]
  generalize Z.drop Y.length = R
  unfold splice
  rw [List.take_left' (by simp)]
  simp only [List.append_assoc]

theorem pair_cells {w : World} {vb : Nat} {e : Int × Int} (hv2 : PairAt w vb e) : ∀ j u, [Value.int .i64 e.1, Value.int .i64 e.2][j]? = some u → w.cell? ((⟨vb, 0, none⟩ : Addr).add j) = some u := by
  intro j u h
  match j, h with
  | 0, h => simp at h; subst h; simp [Addr.add, hv2.c0]
  | 1, h => simp at h; subst h; simp [Addr.add, hv2.c1]
  | j + 2, h => simp at h
theorem copy_one {a b : Value} {n s : Nat} (hn : 1 ≤ n) (hs : s = 2) : [a, b].length = Nat.min 1 n * s := by
  rw [hs, show Nat.min 1 n = 1 from Nat.min_eq_left hn]; rfl

/-- A row that begins with the cells of what insert asks for owns it. -/
theorem own_insert {w : World} {B g cap k : Nat} {l : List (Int × Int)} {e : Int × Int} {X1 X2 L : List Value} (h1 : X1 = ecells (l.take k)) (h2 : X2 = ecells (l.drop k)) (l1 : X1.length = k * 2) (hk : k ≤ l.length)
    (hg : w.heap[g]? = some (.cells (splice (splice L ((k + 1) * 2) X2) (k * 2) [.int .i64 e.1, .int .i64 e.2]).toArray 52 (0, 0)))
    (hsp : ∃ R, splice (splice L (X1.length + 2) X2) X1.length [.int .i64 e.1, .int .i64 e.2] = X1 ++ [.int .i64 e.1, .int .i64 e.2] ++ X2 ++ R)
    (hb : B ≤ g) (hc : l.length + 1 ≤ cap) (hm : cap ≤ maxLen) (lL : L.length = cap * 2) : Own w B (.slice (some ⟨g, 0, none⟩) (l.length + 1) cap) (insAt l k e) := by
  obtain ⟨R, hR⟩ := hsp
  have l2 : X2.length = (l.length - k) * 2 := by rw [h2, ecells_length, List.length_drop]
  have hlen : (insAt l k e).length = l.length + 1 := by simp [insAt]; omega
  have hcells : ecells (insAt l k e) = X1 ++ [.int .i64 e.1, .int .i64 e.2] ++ X2 := by
    rw [insAt, ecells_append, h1, h2]
    simp [ecells]
  have hle : (splice (splice L ((k + 1) * 2) X2) (k * 2) [Value.int .i64 e.1, Value.int .i64 e.2]).length = cap * 2 := by
    have a1 : (splice L ((k + 1) * 2) X2).length = cap * 2 := (length_splice _ _ _ (by omega)).trans lL
    rw [length_splice _ _ _ (by rw [a1]; simp; omega), a1]
  rw [l1, show k * 2 + 2 = (k + 1) * 2 by omega] at hR
  refine ⟨by rw [ecells_length], .inr ⟨g, cap, _, by rw [hlen], hb, hg, by omega, hm, by simpa using hle, ?_⟩⟩
  rw [hlen, hcells]
  show List.take _ (splice _ _ _) = _
  rw [hR, List.take_left' (by simp [l1, l2]; omega)]

theorem own_grown {w : World} {B g cap k : Nat} {l : List (Int × Int)} {e : Int × Int} {X1 X2 L Z : List Value} (h1 : X1 = ecells (l.take k)) (h2 : X2 = ecells (l.drop k)) (l1 : X1.length = k * 2) (hk : k ≤ l.length)
    (hg : w.heap[g]? = some (.cells (splice (splice L (k * 2) [.int .i64 e.1, .int .i64 e.2]) ((k + 1) * 2) X2).toArray 52 (0, 0)))
    (hL : L = X1 ++ Z) (hb : B ≤ g) (hc : l.length + 1 ≤ cap) (hm : cap ≤ maxLen) (lL : L.length = cap * 2) : Own w B (.slice (some ⟨g, 0, none⟩) (l.length + 1) cap) (insAt l k e) := by
  have l2 : X2.length = (l.length - k) * 2 := by rw [h2, ecells_length, List.length_drop]
  obtain ⟨R, hR⟩ := splice_two' L X1 X2 [.int .i64 e.1, .int .i64 e.2] Z hL
  have hlen : (insAt l k e).length = l.length + 1 := by simp [insAt]; omega
  have hcells : ecells (insAt l k e) = X1 ++ [.int .i64 e.1, .int .i64 e.2] ++ X2 := by
    rw [insAt, ecells_append, h1, h2]
    simp [ecells]
  have hle : (splice (splice L (k * 2) [Value.int .i64 e.1, Value.int .i64 e.2]) ((k + 1) * 2) X2).length = cap * 2 := by
    have a1 : (splice L (k * 2) [Value.int .i64 e.1, Value.int .i64 e.2]).length = cap * 2 := (length_splice _ _ _ (by simp; omega)).trans lL
    rw [length_splice _ _ _ (by rw [a1]; omega), a1]
  rw [l1, show k * 2 + [Value.int .i64 e.1, Value.int .i64 e.2].length = (k + 1) * 2 by simp; omega] at hR
  refine ⟨by rw [ecells_length], .inr ⟨g, cap, _, by rw [hlen], hb, hg, by omega, hm, by simpa using hle, ?_⟩⟩
  rw [hlen, hcells]
  show List.take _ (splice _ _ _) = _
  rw [hR, List.take_left' (by simp [l1, l2]; omega)]

end Go.Proofs.Ytilbaiohcfhcaaa

/- Part: impl.EdgeAdd: contract. -/
namespace Go.Proofs.Ytilbaiohcfhcaaa
open Go.RowKit Go.Shelf

/-- What stays while the place is looked for. -/
structure KeepAdd (W w0 : World) (b0 : Nat) (v : Value) (rest : List (Int × Int)) (e : Int × Int) : Prop where
  pair : PairAt W b0 e
  own : Own W w0.heap.size v rest
  bel : Below w0.heap.size w0 W
theorem PairAt.past {W W' : World} {b : Nat} {e : Int × Int} (h : PairAt W b e) (hb : Below W.heap.size W W') : PairAt W' b e :=
  (hb.block _ (Array.getElem?_eq_some_iff.1 h).1).trans h
theorem KeepAdd.later {W W' w0 : World} {b0 : Nat} {v : Value} {rest : List (Int × Int)} {e : Int × Int} (h : KeepAdd W w0 b0 v rest e) (hb : Below W.heap.size W W') : KeepAdd W' w0 b0 v rest e :=
  ⟨h.pair.past hb, h.own.later hb, h.bel.trans (hb.mono h.bel.size)⟩
theorem KeepAdd.drew {W w0 : World} {b0 : Nat} {v : Value} {rest : List (Int × Int)} {e : Int × Int} (h : KeepAdd W w0 b0 v rest e) : KeepAdd W.drew w0 b0 v rest e := h.later ((Below.refl _ _).drew)
theorem KeepAdd.alloc {W w0 : World} {b0 : Nat} {v : Value} {rest : List (Int × Int)} {e : Int × Int} (h : KeepAdd W w0 b0 v rest e) (o : Obj) : KeepAdd (W.alloc o) w0 b0 v rest e := h.later ((Below.refl _ _).alloc (Nat.le_refl _) _)
theorem KeepAdd.ne {W w0 : World} {b0 : Nat} {v : Value} {rest : List (Int × Int)} {e : Int × Int} (h : KeepAdd W w0 b0 v rest e) : v.ownBlock ≠ some W.heap.size := fun hh => Nat.lt_irrefl _ (h.own.block _ hh).2

end Go.Proofs.Ytilbaiohcfhcaaa

/- Part: spec.l1Add, spec.EdgeAdd: contracts. -/
namespace Go.Proofs.Ytilbaiohcfhcaaa
open Go.RowKit Go.Shelf
attribute [local go_sem ↓] Go.wp_at_zero Go.wp_at_succ

/-- The first k of an owned list are owned. -/
theorem Own.take {w : World} {B g cap : Nat} {l : List (Int × Int)} (h : Own w B (.slice (some ⟨g, 0, none⟩) l.length cap) l) (k : Nat) (hk : k ≤ l.length) : Own w B (.slice (some ⟨g, 0, none⟩) k cap) (l.take k) := by
  have hl : (l.take k).length = k := by simp; omega
  rcases h.2 with ⟨hh, _⟩ | ⟨g', cap', cur, hh, hb, hg, hnc, hcm, hcs, ht⟩
  · cases hh
  · cases hh
    refine ⟨by rw [ecells_length], .inr ⟨g, cap, cur, by rw [hl], hb, hg, by omega, hcm, hcs, ?_⟩⟩
    have e1 : ecells l = ecells (l.take k) ++ ecells (l.drop k) := by rw [← ecells_append, List.take_append_drop]
    rw [hl]
    have : cur.toList.take (k * 2) = (cur.toList.take (l.length * 2)).take (k * 2) := by rw [List.take_take, Nat.min_eq_left (by omega)]
    rw [this, ht, e1, List.take_left' (by rw [ecells_length, hl])]

theorem Own.at {w : World} {B g n cap : Nat} {l : List (Int × Int)} (h : Own w B (.slice (some ⟨g, 0, none⟩) n cap) l) {k : Nat} (hk : k < l.length) :
    w.cell? ⟨g, k * 2, none⟩ = some (.int .i64 (l.getD k (0, 0)).1) ∧ w.cell? ⟨g, k * 2 + 1, none⟩ = some (.int .i64 (l.getD k (0, 0)).2) := by
  obtain ⟨ao, cap', hv, _, hc⟩ := h.rd
  cases hv
  obtain ⟨b, off, he, _, hcc⟩ := hc (by omega)
  cases he
  simpa using hcc k hk

theorem Own.from {w : World} {B g cap : Nat} {l : List (Int × Int)} (h : Own w B (.slice (some ⟨g, 0, none⟩) l.length cap) l) (k : Nat) : Rd w (.slice (some ⟨g, k * 2, none⟩) (l.drop k).length (cap - k)) (l.drop k) := by
  have hb := h.block g rfl
  have hm : l.length ≤ maxLen := by
    obtain ⟨_, _, _, hm, _⟩ := h.rd
    exact hm
  refine ⟨_, _, rfl, by simp; omega, fun h0 => ⟨g, k * 2, rfl, hb.2, fun i hi => ?_⟩⟩
  rw [List.length_drop] at hi
  obtain ⟨c0, c1⟩ := h.at (k := k + i) (by omega)
  have e : (l.drop k).getD i (0, 0) = l.getD (k + i) (0, 0) := by simp [List.getD_eq_getElem?_getD]
  rw [e, show k * 2 + i * 2 = (k + i) * 2 by omega]
  exact ⟨c0, c1⟩

/-- A slice value that reads as a list is copied: onto nothing. -/
theorem Rd.cells {w : World} {b off n cap : Nat} {l : List (Int × Int)} (h : Rd w (.slice (some ⟨b, off, none⟩) n cap) l) : ∀ j u, (ecells l)[j]? = some u → w.cell? ((⟨b, off, none⟩ : Addr).add j) = some u := by
  obtain ⟨ao, cap', hv, hl, hc⟩ := h
  cases hv
  intro j u hu
  have hj : j < l.length * 2 := by rw [← ecells_length]; exact (List.getElem?_eq_some_iff.1 hu).1
  obtain ⟨b', off', he, hlt, hcc⟩ := hc (by omega)
  cases he
  obtain ⟨c0, c1⟩ := hcc (j / 2) (by omega)
  have g := ecells_get l (j / 2) (by omega)
  rw [Addr.add_lit]
  by_cases hp : j % 2 = 0
  · have e : j / 2 * 2 = j := by omega
    rw [e] at c0 g
    rw [c0, ← g.1, hu]
  · have e : j / 2 * 2 + 1 = j := by omega
    rw [Nat.add_assoc, e] at c1
    rw [e] at g
    rw [c1, ← g.2, hu]

theorem copy_any (b off n cap : Nat) (l : List (Int × Int)) (w : World) (hn : l.length = n) (h : Rd w (.slice (some ⟨b, off, none⟩) l.length cap) l) (hl : l.length ≤ 1099511627776) :
    Calls Try.prog 65 #[.slice (some ⟨b, off, none⟩) n cap] w fun x w' => ∃ v', x = .returned v' ∧ Own w' w.heap.size v' l ∧ Below w.heap.size w w' ∧ ∃ g cp, v' = .slice (some ⟨g, 0, none⟩) n cp := by
  subst hn
  obtain ⟨i0, hi, hz0, hz1, hz2⟩ := info_parts Try.info52
  have hk1 : 0 + l.length ≤ maxLen := by unfold maxLen; omega
  have hk2 : (0 + l.length) * 16 ≤ 140737488355328 := by omega
  have HC := hid ((h.later ((Below.refl _ w).alloc (Nat.le_refl _) (.cells #[] 52))).cells)
  have HR := hid (World.ownsRow_lit (e := 52) (size := 2) w #[] 0 (Nat.le_refl _) (Nat.zero_le _) rfl)
  have hbs : w.heap.size ≤ (w.alloc (.cells #[] 52)).heap.size := by simp
  have hone := ecells_one l
  have hlen := ecells_length l
  clear h
  go_enter Try.func65, Try.ntmps65
  go_wp2_with (at_builtin; refine wpList_append_own _ rfl _ _ 27 rfl w.heap.size 52 i0 (.agg #[.int .i64 0, .int .i64 0]) 2 16 Try.underlying27 hi hz0 hz1 hz2 rfl (by decide) _ _ _ rfl HR.out ⟨b, off, none⟩ l.length cap (ecells l) rfl hlen HC.out hone hk1 hk2 hbs ?_; intro v' w1 hown' hgrow' hnil)
  go_ret
  rw [Nat.zero_add] at hown'
  have hown2 : Own w1 w.heap.size v' l := by
    show World.ownsRow _ _ _ _ _ _ _
    simpa using hown'
  refine ⟨v', rfl, hown2, ((Below.refl _ w).alloc (Nat.le_refl _) _).grown hgrow' hbs (fun j ej => (HR.out.lt j ej).1), ?_⟩
  rcases hown'.2 with ⟨hv, _⟩ | ⟨g, cp, _, hv, _⟩
  · have hno := (hnil.1 hv).1
    cases hno
  · exact ⟨g, cp, hv⟩

theorem take_row {w : World} {B g cap : Nat} {l : List (Int × Int)} (h : Own w B (.slice (some ⟨g, 0, none⟩) l.length cap) l) (k : Nat) (hk : k ≤ l.length) : w.ownsRow B 52 2 (.slice (some ⟨g, 0, none⟩) k cap) k (ecells (l.take k)) := by
  have := h.take k hk
  unfold Own at this
  rwa [show (l.take k).length = k by simp; omega] at this
/-- The cells of a list that lies elsewhere, behind an append onto row g. -/
theorem tail_cells {w w1 w6 : World} {B gt ct g n : Nat} {l : List (Int × Int)} (o : Obj) (h : Own w B (.slice (some ⟨gt, 0, none⟩) n ct) l) (hne : gt ≠ g) (hg : w1.grownBy w6 (some g)) (he : w1 = (w.alloc o).drew) :
    ∀ j u, (ecells l)[j]? = some u → w6.cell? ((⟨gt, 0, none⟩ : Addr).add j) = some u := by
  subst he
  intro j u hu
  have h1 := World.ownsRow.cells (h.later (((Below.refl _ w).alloc (Nat.le_refl _) o).drew)) (g := gt) rfl j u hu
  exact hg.cell h1 (fun e => hne (by rw [Addr.add_lit] at e; exact Option.some.inj e))

theorem own_three {w : World} {B k : Nat} {v : Value} {l : List (Int × Int)} {x1 x2 : Int} (h : w.ownsRow B 52 2 v (k + 1 + (l.length - k)) (ecells (l.take k) ++ [.int .i64 x1, .int .i64 x2] ++ ecells (l.drop k))) (hk : k ≤ l.length) : Own w B v (insAt l k (x1, x2)) := by
  have hlen : (insAt l k (x1, x2)).length = k + 1 + (l.length - k) := by simp [insAt]; omega
  have hc : ecells (insAt l k (x1, x2)) = ecells (l.take k) ++ [.int .i64 x1, .int .i64 x2] ++ ecells (l.drop k) := by
    rw [insAt, ecells_append]
    simp [ecells]
  unfold Own
  rw [hlen, hc]
  exact h

set_option maxRecDepth 100000 in
set_option maxHeartbeats 1000000 in
theorem l1Add_any (v : Value) (l : List (Int × Int)) (x1 x2 : Int) (w : World) (h : Rd w v l) (hll : l.length ≤ 1099511627776) (hok : okL l = true) :
    Calls Try.prog 61 #[v, .agg #[.int .i64 x1, .int .i64 x2]] w fun x w' => ∃ v', x = .returned v' ∧ Own w' w.heap.size v' (insL (l.filter (notWho x1)) (x1, x2)) ∧ Below w.heap.size w w' := by
  have hG := (okL_iff _).1 (okL_filter (notWho x1) _ hok)
  have hLL := Nat.le_trans (List.length_filter_le (notWho x1) l) hll
  have hD := l1Drop_any v l x1
  obtain ⟨rest, hrest⟩ : ∃ r, l.filter (notWho x1) = r := ⟨_, rfl⟩
  simp only [hrest] at hG hLL hD ⊢
  have HG := hid hG
  clear hG hrest
  obtain ⟨ao, cap, hv, hml, _⟩ := id h
  subst hv
  unfold maxLen at hml
  go_enter Try.func61, Try.ntmps61
  go_wp2_with fail
  have hP0 : PairAt (w.alloc (.cells #[.int .i64 x1, .int .i64 x2] 52)) w.heap.size (x1, x2) := PairAt.new w (x1, x2)
  have hB0 : Below w.heap.size w (w.alloc (.cells #[.int .i64 x1, .int .i64 x2] 52)) := (Below.refl _ w).alloc (Nat.le_refl _) _
  obtain ⟨W0, hW0⟩ : ∃ W0, w.alloc (.cells #[.int .i64 x1, .int .i64 x2] 52) = W0 := ⟨_, rfl⟩
  rw [hW0] at hP0 hB0 ⊢
  clear hW0
  refine (hD W0 (h.later hB0) hll).mono ?_
  rintro e w1 ⟨v', rfl, own, ⟨g, cp, rfl⟩, b1⟩
  have HK := hid (show KeepAdd w1 W0 w.heap.size (.slice (some ⟨g, 0, none⟩) rest.length cp) rest (x1, x2) from ⟨hP0.past b1, own, b1⟩)
  clear hP0 own b1 hD h hok
  have hcp : rest.length ≤ cp ∧ cp ≤ 9223372036854775807 := by
    rcases HK.out.own.2 with ⟨hh, _⟩ | ⟨_, _, _, hh, _, _, hnc, hcm, _⟩
    · cases hh
    · cases hh; unfold maxLen at hcm; exact ⟨hnc, by omega⟩
  obtain ⟨hcp1, hcp2⟩ := hcp
  go_wp2
  go_loopw [7] (fun i wr => ∃ k : Nat, k ≤ rest.length ∧ i = .int .i64 k ∧ Hid (∀ t, t < k → aheadB (rest.getD t (0, 0)) (x1, x2) = true) ∧ Hid (KeepAdd wr W0 w.heap.size (.slice (some ⟨g, 0, none⟩) rest.length cp) rest (x1, x2))) (fun i _ => rest.length - (intOf i).toNat)
  case atStart => exact ⟨0, Nat.zero_le _, rfl, fun t ht => absurd ht (Nat.not_lt_zero _), HK⟩
  case round =>
    obtain ⟨k, hk, rfl, hlo, hkeep⟩ := hrel
    by_cases hlt : k < rest.length
    · obtain ⟨c0, c1⟩ := hkeep.out.own.at hlt
      have t0 := hkeep.out.pair.c0
      have t1 := hkeep.out.pair.c1
      cases hah : aheadB (rest.getD k (0, 0)) (x1, x2) with
      | true =>
        have hlo' : Hid (∀ t, t < k + 1 → aheadB (rest.getD t (0, 0)) (x1, x2) = true) := fun t ht => ahead_head HG.out (by omega) hlt hah
        generalize rest.getD k (0, 0) = y at c0 c1 hah
        go_wp2
        have r0 := cell_regrown c0
        have r1 := cell_regrown c1
        have r2 := cell_regrown t0
        have r3 := cell_regrown t1
        refine wp_region_quiet_below (by kernel_rfl) (by kernel_rfl) ?_
        repeat (first | go_big_quiet_skip | (go_big_quiet_want; go_big_quiet_op; first | go_big_quiet_on | go_big_quiet_call (first | (go_at_call 67; exact Calls.regrown_of (l1Ahead_any _ _ _ _ _)))))
        refine wpQuiet_nil ?_
        rintro wq ⟨pq, hwq⟩
        have hq : Below wr.heap.size wr wq := by rw [hwq]; exact below_regrown _ _ _
        clear hwq pq
        clear r0 r1 r2 r3
        go_wp2
        go_roundw
        case rel => exact ⟨k + 1, by omega, by go_num, hlo', hid (hkeep.out.later hq)⟩
        case measure => simp [intOf]; omega
      | false =>
        have HPL := hid (placeN_eq rest (x1, x2) k hk (fun t ht => hlo.out t ht) (fun _ => hah))
        generalize rest.getD k (0, 0) = y at c0 c1 hah
        go_wp2
        have r0 := cell_regrown c0
        have r1 := cell_regrown c1
        have r2 := cell_regrown t0
        have r3 := cell_regrown t1
        refine wp_region_quiet_below (by kernel_rfl) (by kernel_rfl) ?_
        repeat (first | go_big_quiet_skip | (go_big_quiet_want; go_big_quiet_op; first | go_big_quiet_on | go_big_quiet_call (first | (go_at_call 67; exact Calls.regrown_of (l1Ahead_any _ _ _ _ _)))))
        refine wpQuiet_nil ?_
        rintro wq ⟨pq, hwq⟩
        have hq : Below wr.heap.size wr wq := by rw [hwq]; exact below_regrown _ _ _
        clear hwq pq
        clear r0 r1 r2 r3
        have hkq := hid (hkeep.out.later hq)
        go_wp2_with fail
        refine (copy_any g (k * 2) (rest.length - k) (cp - k) (rest.drop k) wq (by simp) (hkq.out.own.from k) (by simp; omega)).mono ?_
        rintro e w5 ⟨tl, rfl, ownT, bT, gt, ct, rfl⟩
        have hK5 := hid (hkq.out.later bT)
        have HT := hid ownT
        have t0 := hK5.out.pair.c0
        have t1 := hK5.out.pair.c1
        clear ownT
        obtain ⟨i0, hi, hz0, hz1, hz2⟩ := info_parts Try.info52
        have hk1 : k + 1 ≤ maxLen := by unfold maxLen; omega
        have hk2 : (k + 1) * 16 ≤ 140737488355328 := by omega
        have hk3 : k + 1 + (rest.length - k) ≤ maxLen := by unfold maxLen; omega
        have hk4 : (k + 1 + (rest.length - k)) * 16 ≤ 140737488355328 := by omega
        have HA := hid ((hK5.out.alloc (.cells #[.int .i64 x1, .int .i64 x2] 52)).drew)
        have HTK := hid (take_row (HA.out.own) k hk)
        have HNW := hid (pair_cells ((PairAt.new w5 (x1, x2)).past ((Below.refl _ _).drew)))
        have hkc : k ≤ cp := by omega
        have hlt7 : (ecells (rest.drop k)).length = (rest.length - k) * 2 := by rw [ecells_length, List.length_drop]
        have hone7 := ecells_one (rest.drop k)
        have hkc' : (k : Int) ≤ (cp : Int) := by omega
        have hlt5 := hid (HT.out.block gt rfl)
        have hne5 : gt ≠ g := by have := (hkq.out.own.block g rfl).2; have := hlt5.out.1; omega
        go_wp2_with fail
        go_region_law (first
          | (refine step_append_own rfl _ _ 27 rfl W0.heap.size 52 i0 (.agg #[.int .i64 0, .int .i64 0]) 2 16 Try.underlying27 hi hz0 hz1 hz2 rfl (by decide) (.slice (some ⟨g, 0, none⟩) k cp) k _ (by simp [Act.eval]) HTK.out ⟨w5.heap.size, 0, none⟩ 1 1 [.int .i64 x1, .int .i64 x2] (by simp [Act.eval]) rfl HNW.out (by simp [Value.oneCell']) hk1 hk2 HA.out.bel.size ?_; intro v6 w6 hown6 hgrow6 _; obtain ⟨g6, c6, rfl⟩ := ownsRow_succ hown6; have HS6 := hid (tail_cells _ HT.out hne5 hgrow6 rfl); have HO6 := hid hown6; have HB6 := hid (HA.out.bel.trans (Below.of_grown hgrow6 HA.out.bel.size (fun q hq => (HTK.out.lt q hq).1))); have hz6 := hid (Nat.le_trans HA.out.bel.size hgrow6.size); clear hown6 hgrow6)
          | (refine step_append_own rfl _ _ 27 rfl W0.heap.size 52 i0 (.agg #[.int .i64 0, .int .i64 0]) 2 16 Try.underlying27 hi hz0 hz1 hz2 rfl (by decide) (.slice (some ⟨g6, 0, none⟩) (k + 1) c6) (k + 1) _ (by simp [Act.eval]) HO6.out ⟨gt, 0, none⟩ (rest.length - k) ct (ecells (rest.drop k)) (by simp [Act.eval]) hlt7 HS6.out hone7 hk3 hk4 hz6.out ?_; intro v7 w7 hown7 hgrow7 _; have HO7 := hid hown7; have HB7 := hid (HB6.out.trans (Below.of_grown hgrow7 hz6.out (fun q hq => (HO6.out.lt q hq).1))); clear hown7 hgrow7))
        go_wp2
        go_ret
        refine ⟨v7, rfl, ?_, hB0.trans (HB7.out.mono hB0.size)⟩
        rw [insL, HPL.out]
        exact (own_three HO7.out hk).mono hB0.size
    · obtain rfl : k = rest.length := by omega
      have HPL := hid (placeN_eq rest (x1, x2) _ hk (fun t ht => hlo.out t ht) (fun hh => absurd hh (Nat.lt_irrefl _)))
      go_wp2
      refine wp_region_quiet_below (by kernel_rfl) (by kernel_rfl) ?_
      repeat (first | go_big_quiet_skip | (go_big_quiet_want; go_big_quiet_op; first | go_big_quiet_on | go_big_quiet_call (first | (fail))))
      refine wpQuiet_nil ?_
      rintro wq ⟨pq, hwq⟩
      have hq : Below wr.heap.size wr wq := by rw [hwq]; exact below_regrown _ _ _
      clear hwq pq
      have hkq := hid (hkeep.out.later hq)
      go_wp2_with fail
      all_goals
        refine (copy_any g _ 0 _ (rest.drop rest.length) wq (by simp) (by rw [List.drop_length]; exact Rd.nil _ _ _) (by simp)).mono ?_
        rintro e w5 ⟨tl, rfl, ownT, bT, gt, ct, rfl⟩
        have hK5 := hid (hkq.out.later bT)
        have HT := hid ownT
        have t0 := hK5.out.pair.c0
        have t1 := hK5.out.pair.c1
        clear ownT
        obtain ⟨i0, hi, hz0, hz1, hz2⟩ := info_parts Try.info52
        have hk1 : rest.length + 1 ≤ maxLen := by unfold maxLen; omega
        have hk2 : (rest.length + 1) * 16 ≤ 140737488355328 := by omega
        have hk3 : rest.length + 1 + 0 ≤ maxLen := by unfold maxLen; omega
        have hk4 : (rest.length + 1 + 0) * 16 ≤ 140737488355328 := by omega
        have HA := hid ((hK5.out.alloc (.cells #[.int .i64 x1, .int .i64 x2] 52)).drew)
        have HTK := hid (take_row (HA.out.own) rest.length hk)
        have HNW := hid (pair_cells ((PairAt.new w5 (x1, x2)).past ((Below.refl _ _).drew)))
        have hkc : rest.length ≤ cp := by omega
        have hlt7 : (ecells (rest.drop rest.length)).length = 0 * 2 := by rw [ecells_length, List.length_drop, Nat.sub_self]
        have hone7 := ecells_one (rest.drop rest.length)
        have hkc' : (rest.length : Int) ≤ (cp : Int) := by omega
        have hlt5 := hid (HT.out.block gt rfl)
        have hne5 : gt ≠ g := by have := (hkq.out.own.block g rfl).2; have := hlt5.out.1; omega
        go_wp2_with fail
        go_region_law (first
          | (refine step_append_own rfl _ _ 27 rfl W0.heap.size 52 i0 (.agg #[.int .i64 0, .int .i64 0]) 2 16 Try.underlying27 hi hz0 hz1 hz2 rfl (by decide) (.slice (some ⟨g, 0, none⟩) rest.length cp) rest.length _ (by simp [Act.eval] <;> omega) HTK.out ⟨w5.heap.size, 0, none⟩ 1 1 [.int .i64 x1, .int .i64 x2] (by simp [Act.eval]) rfl HNW.out (by simp [Value.oneCell']) hk1 hk2 HA.out.bel.size ?_; intro v6 w6 hown6 hgrow6 _; obtain ⟨g6, c6, rfl⟩ := ownsRow_succ hown6; have HS6 := hid (tail_cells _ HT.out hne5 hgrow6 rfl); have HO6 := hid hown6; have HB6 := hid (HA.out.bel.trans (Below.of_grown hgrow6 HA.out.bel.size (fun q hq => (HTK.out.lt q hq).1))); have hz6 := hid (Nat.le_trans HA.out.bel.size hgrow6.size); clear hown6 hgrow6)
          | (refine step_append_own rfl _ _ 27 rfl W0.heap.size 52 i0 (.agg #[.int .i64 0, .int .i64 0]) 2 16 Try.underlying27 hi hz0 hz1 hz2 rfl (by decide) (.slice (some ⟨g6, 0, none⟩) (rest.length + 1) c6) (rest.length + 1) _ (by simp [Act.eval]) HO6.out ⟨gt, 0, none⟩ 0 ct (ecells (rest.drop rest.length)) (by simp [Act.eval]) hlt7 HS6.out hone7 hk3 hk4 hz6.out ?_; intro v7 w7 hown7 hgrow7 _; have HO7 := hid hown7; have HB7 := hid (HB6.out.trans (Below.of_grown hgrow7 hz6.out (fun q hq => (HO6.out.lt q hq).1))); clear hown7 hgrow7))
        go_wp2
        go_ret
        refine ⟨v7, rfl, ?_, hB0.trans (HB7.out.mono hB0.size)⟩
        rw [insL, HPL.out]
        exact (own_three (by rw [Nat.sub_self]; exact HO7.out) hk).mono hB0.size

end Go.Proofs.Ytilbaiohcfhcaaa

/- Part: spec.l2Copy: contract. -/
namespace Go.Proofs.Ytilbaiohcfhcaaa
open Go.RowKit
attribute [local go_sem ↓] Go.wp_at_zero Go.wp_at_succ

theorem run_append_cap {P : Program} {w : World} (base : Nat) (t ty e : TypeId) (i : TypeInfo) (size cp : Nat) (ht : P.underlying t = some (.slice e)) (hi : P.info? e = some i)
    (v : Value) (n : Nat) (xs : List Value) (hown : w.ownsRow base e size v n xs) :
    (Builtin.append_ #[t, t] ty #[v, .slice none 0 cp]).run P w = .ok v w := by
  rcases hown.2 with ⟨rfl, rfl⟩ | ⟨g, cap, cur, rfl, _, _, hnc, _⟩
  · simp [Builtin.append_, run_underlying ht, sizeOf, typeInfo, hi, Builtin.lenOf, Builtin.firstCells]
  · simp [Builtin.append_, run_underlying ht, sizeOf, typeInfo, hi, Builtin.lenOf, Builtin.firstCells, hnc, storeCells]
theorem wpList_append_cap {P : Program} {w : World} {ops : Array Oper} {rest : List Oper} {o : Oper} {a : Act} {Q : Exit → Act → World → Prop} (hgd : o.guard = none) (s x : Operand) (t : TypeId)
    (ho : o.op = .call { callee := .builtin .append, args := #[s, x], argTypes := #[t, t] })
    (base : Nat) (e : TypeId) (i : TypeInfo) (size cp : Nat) (ht : P.underlying t = some (.slice e)) (hi : P.info? e = some i)
    (v : Value) (n : Nat) (xs : List Value) (hs : a.eval s = v) (hown : w.ownsRow base e size v n xs) (hx : a.eval x = .slice none 0 cp)
    (h : wpList P ops Q rest (a.put o.dst v) w) : wpList P ops Q (o :: rest) a w := by
  refine wpList_plain hgd fun K hK => ?_
  have hrun := run_append_cap (P := P) (w := w) base t o.type e i size cp ht hi v n xs hown
  unfold Oper.wp
  simp [execOp, ho, resolve, invoke, builtin, hs, hx, hrun, Result.andThen]
  exact hK _ _ h

theorem copy_none (cap : Nat) (w : World) :
    Calls Try.prog 65 #[.slice none 0 cap] w fun x w' => ∃ v', x = .returned v' ∧ Own w' w.heap.size v' [] ∧ Below w.heap.size w w' := by
  obtain ⟨i0, hi, hz0, hz1, hz2⟩ := info_parts Try.info52
  have HR := hid (World.ownsRow_lit (e := 52) (size := 2) w #[] 0 (Nat.le_refl _) (Nat.zero_le _) rfl)
  go_enter Try.func65, Try.ntmps65
  go_wp2_with (at_builtin; refine wpList_append_cap rfl _ _ 27 rfl w.heap.size 52 i0 2 cap Try.underlying27 hi _ _ _ rfl HR.out rfl ?_)
  go_ret
  exact ⟨_, rfl, HR.out, by go_grown⟩
theorem copy_some (ad : Addr) (cap : Nat) (w : World) :
    Calls Try.prog 65 #[.slice (some ad) 0 cap] w fun x w' => ∃ v', x = .returned v' ∧ Own w' w.heap.size v' [] ∧ Below w.heap.size w w' := by
  obtain ⟨i0, hi, hz0, hz1, hz2⟩ := info_parts Try.info52
  have HR := hid (World.ownsRow_lit (e := 52) (size := 2) w #[] 0 (Nat.le_refl _) (Nat.zero_le _) rfl)
  have hbs : w.heap.size ≤ (w.alloc (.cells #[] 52)).heap.size := by simp
  go_enter Try.func65, Try.ntmps65
  go_wp2_with (at_builtin; refine wpList_append_own _ rfl _ _ 27 rfl w.heap.size 52 i0 (.agg #[.int .i64 0, .int .i64 0]) 2 16 Try.underlying27 hi hz0 hz1 hz2 rfl (by decide) _ _ _ rfl HR.out ad 0 cap [] rfl rfl (fun _ _ h => by simp at h) (fun _ h => by simp at h) (by decide) (by decide) hbs ?_; intro v' w1 hown' hgrow' hnil)
  go_ret
  have hown2 : Own w1 w.heap.size v' [] := by
    show World.ownsRow _ _ _ _ _ _ _
    simpa [ecells] using hown'
  exact ⟨v', rfl, hown2, ((Below.refl _ w).alloc (Nat.le_refl _) _).grown hgrow' hbs (fun j ej => (HR.out.lt j ej).1)⟩
theorem l1Copy_any (v : Value) (l : List (Int × Int)) (w : World) (h : Rd w v l) (hl : l.length ≤ 1099511627776) :
    Calls Try.prog 65 #[v] w fun x w' => ∃ v', x = .returned v' ∧ Own w' w.heap.size v' l ∧ Below w.heap.size w w' := by
  have HR := h
  obtain ⟨ao, cap, rfl, _, hc⟩ := h
  by_cases h0 : 0 < l.length
  · obtain ⟨b, off, rfl, _⟩ := hc h0
    exact (copy_any b off l.length cap l w rfl HR hl).mono fun _ _ ⟨v', e, ho, hb, _⟩ => ⟨v', e, ho, hb⟩
  · have hz : l = [] := List.eq_nil_of_length_eq_zero (by omega)
    subst hz
    match ao with
    | none => exact copy_none cap w
    | some a => exact copy_some a cap w

set_option maxHeartbeats 1000000 in
theorem l2Copy_any (n : Int) (v : Value) (l : List (Int × Int)) (w : World) (h : Rd w v l) (hl : l.length ≤ 1099511627776) :
    Calls Try.prog 58 #[.agg #[.int .i64 n, v]] w fun e w' => ∃ v', e = .returned (.agg #[.int .i64 n, v']) ∧ Own w' w.heap.size v' l ∧ Below w.heap.size w w' := by
  have HR := hid h
  obtain ⟨ao, cap, hv, _⟩ := h
  subst hv
  go_enter Try.func58, Try.ntmps58
  go_wp2_with fail
  generalize hW1 : ((w.alloc (.cells #[.int .i64 n, .slice ao l.length cap] 29)).alloc (.cells #[.int .i64 0, .slice none 0 0] 29)) = w1
  have a0_1 : w1.cell? ⟨w.heap.size, 0, none⟩ = some (.int .i64 n) := by subst hW1; go_cell
  have a1_1 : w1.cell? ⟨w.heap.size, 1, none⟩ = some (.slice ao l.length cap) := by subst hW1; go_cell
  have al_1 : w.heap.size < w1.heap.size := by subst hW1; first | (simp; done) | (simp; omega)
  have r0_1 : w1.cell? ⟨w.heap.size + 1, 0, none⟩ = some (.int .i64 0) := by subst hW1; go_cell
  have rf0_1 : w1.frozen? ⟨w.heap.size + 1, 0, none⟩ = false := by subst hW1; (first | go_cell | (simp [World.frozen?, World.alloc]; done) | rfl)
  have r1_1 : w1.cell? ⟨w.heap.size + 1, 1, none⟩ = some (.slice none 0 0) := by subst hW1; go_cell
  have rf1_1 : w1.frozen? ⟨w.heap.size + 1, 1, none⟩ = false := by subst hW1; (first | go_cell | (simp [World.frozen?, World.alloc]; done) | rfl)
  have rl_1 : w.heap.size + 1 < w1.heap.size := by subst hW1; first | (simp; done) | (simp; omega)
  have c1 : Below w.heap.size w w1 := by subst hW1; go_grown
  have s1 : w1.heap.size = w.heap.size + 2 := by subst hW1; simp
  clear hW1
  have qa0_1 := cell_regrown a0_1
  have qa1_1 := cell_regrown a1_1
  have qr0_1 := cell_regrown r0_1
  have qr1_1 := cell_regrown r1_1
  go_region_with (first
    | (go_at_call 65; go_loud (refine (l1Copy_any _ l _ (HR.out.later (by go_grown)) hl).mono ?_; rintro e w2 ⟨v', rfl, ho, b2⟩; have HO := hid (Own.mono ho (B' := w1.heap.size) (by show w1.heap.size ≤ w1.heap.size; omega)); clear ho; have d2 : Below w1.heap.size w1 w2 := (Below.trans (by go_grown) (b2.mono (by first | omega | (simp; done) | (simp; omega)))); have c2 : Below w.heap.size w w2 := c1.trans (d2.mono c1.size); have a0_2 : w2.cell? ⟨w.heap.size, 0, none⟩ = some (.int .i64 n) := (by rw [b2.cell (by first | omega | (simp; done) | (simp; omega))]; go_cell); have a1_2 : w2.cell? ⟨w.heap.size, 1, none⟩ = some (.slice ao l.length cap) := (by rw [b2.cell (by first | omega | (simp; done) | (simp; omega))]; go_cell); have al_2 : w.heap.size < w2.heap.size := (by have := b2.size; first | omega | (revert this; simp; done) | (revert this; simp; omega)); have r0_2 : w2.cell? ⟨w.heap.size + 1, 0, none⟩ = some (.int .i64 0) := (by rw [b2.cell (by first | omega | (simp; done) | (simp; omega))]; go_cell); have rf0_2 : w2.frozen? ⟨w.heap.size + 1, 0, none⟩ = false := (by rw [b2.frozen (by first | omega | (simp; done) | (simp; omega))]; (first | go_cell | (simp [World.frozen?, World.alloc]; done) | rfl)); have r1_2 : w2.cell? ⟨w.heap.size + 1, 1, none⟩ = some (.slice none 0 0) := (by rw [b2.cell (by first | omega | (simp; done) | (simp; omega))]; go_cell); have rf1_2 : w2.frozen? ⟨w.heap.size + 1, 1, none⟩ = false := (by rw [b2.frozen (by first | omega | (simp; done) | (simp; omega))]; (first | go_cell | (simp [World.frozen?, World.alloc]; done) | rfl)); have rl_2 : w.heap.size + 1 < w2.heap.size := (by have := b2.size; first | omega | (revert this; simp; done) | (revert this; simp; omega)); clear r0_1 rf0_1 r1_1 rf1_1 rl_1; obtain ⟨uo, uc, huv, _⟩ := HO.out.rd; subst huv)))
  all_goals
    have e0 : ((w2.setCell ⟨w.heap.size + 1, 0, none⟩ (.int .i64 n)).setCell ⟨w.heap.size + 1, 1, none⟩ (.slice uo l.length uc)).cell? ⟨w.heap.size + 1, 0, none⟩ = some (.int .i64 n) := by go_cell
    have e1 : ((w2.setCell ⟨w.heap.size + 1, 0, none⟩ (.int .i64 n)).setCell ⟨w.heap.size + 1, 1, none⟩ (.slice uo l.length uc)).cell? ⟨w.heap.size + 1, 1, none⟩ = some (.slice uo l.length uc) := by go_cell
    have HF := hid (((HO.out.apartSet (p := ⟨w.heap.size + 1, 0, none⟩) (by show w.heap.size + 1 < w1.heap.size; omega) (.int .i64 n)).apartSet (p := ⟨w.heap.size + 1, 1, none⟩) (by show w.heap.size + 1 < w1.heap.size; omega) (.slice uo l.length uc)).mono (B' := w.heap.size) (by omega))
    have c3 := hid ((c2.setCell (p := ⟨w.heap.size + 1, 0, none⟩) (by show w.heap.size ≤ w.heap.size + 1; omega) (.int .i64 n)).setCell (p := ⟨w.heap.size + 1, 1, none⟩) (by show w.heap.size ≤ w.heap.size + 1; omega) (.slice uo l.length uc))
    go_wp2
    refine bodyPost_ret (v := .agg #[.int .i64 n, .slice uo l.length uc]) (by simp [results, Try.results58, go_sem, e0, e1]) rfl ⟨_, rfl, HF.out, c3.out⟩
end Go.Proofs.Ytilbaiohcfhcaaa
