/- The draw of a graph: plain facts, l3Graph: contract. -/
import Derived.Test.YtkmhnjgncnoddaaGreatBg
import Derived.Test.YtkmhnjgncnoddaaGreatFa
import Derived.Test.YtkmhnjgncnoddaaGreatLo
import Derived.Test.YtkmhnjgncnoddaaGreatAdS
import Derived.Test.YtkmhnjgncnoddaaGreatGa
import Derived.Deep.RegionLaw
namespace Go.Proofs.YtkmhnjgncnoddaaGreat
open Go.RowKit
attribute [local go_sem ↓] Go.wp_at_zero Go.wp_at_succ

/-- A row that is owned, filled: it reads from its own memory alone. -/
theorem rowFill_from {w : World} {B g cap : Nat} {L : List ValD} {xs : List Value} (hr : w.ownsRow B 38 2 (.slice (some ⟨g, 0, none⟩) 24 cap) 24 xs) (hf : FilledV w B xs L 24) (hl : L.length = 24) :
    FromG B w (.slice (some ⟨g, 0, none⟩) 24 cap) L := fun w' _ hs => by
  have hr' := row_same hr hs
  refine ⟨some ⟨g, 0, none⟩, cap, by rw [hl], by rw [hl]; decide, fun _ => ⟨g, 0, rfl, (hr'.lt g rfl).2, fun i hi => ?_⟩⟩
  have hi : i < 24 := by rw [hl] at hi; exact hi
  rw [Nat.zero_add]
  obtain ⟨h0, u, h1, h2⟩ := hf i hi
  exact ⟨(hr'.cellAt _ (by omega)).trans h0, u, (hr'.cellAt _ (by omega)).trans h1, (show Own w' B u _ from row_same h2 hs).rd⟩
/-- What turns one row's kin in place, or makes them anew, leaves the others. -/
theorem RowN.kin {w w' : World} {B g cap k : Nat} {L : List ValD} {xs : List Value} {u u' : Value} {l' : List (Int × Int)} (h : RowN w B (.slice (some ⟨g, 0, none⟩) 24 cap) L 24 xs) (hl : L.length = 24) (hk : k < 24)
    (hu : xs[k * 2 + 1]? = some u) (hg : w.grownBy w' u.ownBlock) (ho : Own w' B u' l') :
    FromG B (w'.setCell ⟨g, k * 2 + 1, none⟩ u') (.slice (some ⟨g, 0, none⟩) 24 cap) (L.set k ((L.getD k valD0).1, l')) := by
  have hx : xs.length = 24 * 2 := h.1.1
  obtain ⟨hn, u0, hu0, hou⟩ := h.2 k hk
  rw [hu] at hu0
  cases hu0
  have hng : some g ≠ u.ownBlock := fun e => own_off_row h.1 hou g rfl e.symm
  have hrow : w'.ownsRow B 38 2 (.slice (some ⟨g, 0, none⟩) 24 cap) 24 xs := row_agree h.1 fun b hb => hg.block b (h.1.lt b hb).2 (fun e => hng (by cases hb; exact e))
  have keep : ∀ (y : Value) (m : List (Int × Int)), Own w' B y m → Own (w'.setCell ⟨g, k * 2 + 1, none⟩ u') B y m := fun y m hy => hy.setOther (p := ⟨g, k * 2 + 1, none⟩) (own_off_row hrow hy g rfl) _
  refine rowFill_from (row_put hrow rfl (k * 2 + 1) u') (fun i hi => ?_) (by simp [hl])
  rw [getD_set (by rw [hl]; exact hk)]
  by_cases e : i = k
  · subst e
    rw [if_pos rfl, List.getElem?_set_ne (by omega), List.getElem?_set_self (by omega)]
    exact ⟨hn, u', rfl, keep _ _ ho⟩
  · rw [if_neg e, List.getElem?_set_ne (by omega), List.getElem?_set_ne (by omega)]
    obtain ⟨h0, y, h1, h2⟩ := h.2 i hi
    exact ⟨h0, y, h1, keep _ _ (h2.grownOff hg (fun b hb hc => h.3 i k hi hk e y u h1 hu b hc hb))⟩
theorem RowN.num {w : World} {B g cap k : Nat} {L : List ValD} {xs : List Value} (h : RowN w B (.slice (some ⟨g, 0, none⟩) 24 cap) L 24 xs) (hl : L.length = 24) (hk : k < 24) (z : Int) :
    FromG B (w.setCell ⟨g, k * 2, none⟩ (.int .i64 z)) (.slice (some ⟨g, 0, none⟩) 24 cap) (L.set k (z, (L.getD k valD0).2)) := by
  have hx : xs.length = 24 * 2 := h.1.1
  have keep : ∀ (y : Value) (m : List (Int × Int)), Own w B y m → Own (w.setCell ⟨g, k * 2, none⟩ (.int .i64 z)) B y m := fun y m hy => hy.setOther (p := ⟨g, k * 2, none⟩) (own_off_row h.1 hy g rfl) _
  refine rowFill_from (row_put h.1 rfl (k * 2) (.int .i64 z)) (fun i hi => ?_) (by simp [hl])
  rw [getD_set (by rw [hl]; exact hk)]
  obtain ⟨h0, y, h1, h2⟩ := h.2 i hi
  by_cases e : i = k
  · subst e
    rw [if_pos rfl, List.getElem?_set_self (by omega), List.getElem?_set_ne (by omega)]
    exact ⟨rfl, y, h1, keep _ _ h2⟩
  · rw [if_neg e, List.getElem?_set_ne (by omega), List.getElem?_set_ne (by omega)]
    exact ⟨h0, y, h1, keep _ _ h2⟩

/-- A variable that holds a graph, and the reader. -/
structure GrL (w wr : World) (B gr q bg : Nat) (v : Value) (L : List ValD) : Prop where
  rdr : Rdr wr B gr q
  grown : w.grownBy wr (some gr)
  grl : gr < w.heap.size
  res : wr.cell? ⟨w.heap.size, 0, none⟩ = some (.slice none 0 0)
  resf : wr.frozen? ⟨w.heap.size, 0, none⟩ = false
  var : wr.cell? ⟨bg, 0, none⟩ = some v
  varf : wr.frozen? ⟨bg, 0, none⟩ = false
  typ : ∃ cs, wr.heap[bg]? = some (.cells cs 25 (0, 0))
  hbg : w.heap.size < bg
  sz : bg < wr.heap.size
  row : ∃ xs, RowN wr (w.heap.size + 1) v L 24 xs
theorem GrL.kept {w wr w' : World} {B gr q q' bg : Nat} {v : Value} {L : List ValD} (h : GrL w wr B gr q bg v L) (hR : Rdr w' B gr q') (hg : wr.grownBy w' (some gr)) : GrL w w' B gr q' bg v L := by
  have hl := h.grl
  have hb := h.hbg
  have hs := h.sz
  have n0 : some w.heap.size ≠ some gr := fun e => by have := Option.some.inj e; omega
  have n1 : some bg ≠ some gr := fun e => by have := Option.some.inj e; omega
  obtain ⟨cs, ht⟩ := h.typ
  obtain ⟨xs, hr⟩ := h.row
  exact ⟨hR, grown_trans h.grown hg, hl, hg.cell h.res n0, (hg.frozen_far ⟨w.heap.size, 0, none⟩ (by show w.heap.size < _; omega) n0).trans h.resf, hg.cell h.var n1, (hg.frozen_far ⟨bg, 0, none⟩ hs n1).trans h.varf,
    ⟨cs, (hg.block bg hs n1).trans ht⟩, hb, Nat.lt_of_lt_of_le hs hg.size, ⟨xs, hr.grown hg (by omega)⟩⟩
theorem GrL.below {w wr w' : World} {B gr q bg : Nat} {v : Value} {L : List ValD} (h : GrL w wr B gr q bg v L) (hb : Below wr.heap.size wr w') : GrL w w' B gr q bg v L :=
  h.kept (h.rdr.later hb) (grown_wide (grownBelowR hb))
/-- The variable takes another graph, whose rows lie elsewhere. -/
theorem GrL.put {w wr : World} {B gr q bg B' : Nat} {v v' : Value} {L L' : List ValD} {xs : List Value} (h : GrL w wr B gr q bg v L) (hr : RowN wr B' v' L' 24 xs) (hB : bg < B') : GrL w (wr.setCell ⟨bg, 0, none⟩ v') B gr q bg v' L' := by
  have hl := h.grl
  have hb := h.hbg
  have hs := h.sz
  have hBr := h.rdr.1
  have r0 := h.res
  have v0 := h.var
  obtain ⟨cs, ht⟩ := h.typ
  exact ⟨h.rdr.setFar (a := ⟨bg, 0, none⟩) (by show B ≤ bg; omega) (by show ¬ bg = gr; omega) v', grown_set_new h.grown (a := ⟨bg, 0, none⟩) (by show w.heap.size ≤ bg; omega) v', hl, by go_cell, by simpa using h.resf, by go_cell, by simpa using h.varf,
    ⟨_, heap_setCell_same wr bg 0 cs _ v' ht⟩, hb, by simpa using hs, ⟨xs, (hr.set (p := ⟨bg, 0, none⟩) hB v').mono (by omega)⟩⟩
theorem row_off_typ {w : World} {B bg n : Nat} {v : Value} {xs : List Value} {cs : Array Value} (h : w.ownsRow B 38 2 v n xs) (ht : w.heap[bg]? = some (.cells cs 25 (0, 0))) : v.ownBlock ≠ some bg := by
  intro hv
  rcases h.2 with ⟨rfl, _⟩ | ⟨g1, cap1, cur1, rfl, _, h1, _⟩
  · cases hv
  · cases hv
    rw [h1] at ht
    have := Option.some.inj ht
    simp at this
theorem kin_off_typ {w : World} {B bg : Nat} {u : Value} {l : List (Int × Int)} {cs : Array Value} (h : Own w B u l) (ht : w.heap[bg]? = some (.cells cs 25 (0, 0))) : u.ownBlock ≠ some bg := by
  intro hv
  rcases h.2 with ⟨rfl, _⟩ | ⟨g1, cap1, cur1, rfl, _, h1, _⟩
  · cases hv
  · cases hv
    rw [h1] at ht
    have := Option.some.inj ht
    simp at this
/-- A store into the variable leaves the rows. -/
theorem RowN.offVar {w : World} {B bg n : Nat} {v x : Value} {L : List ValD} {xs : List Value} {cs : Array Value} (h : RowN w B v L n xs) (ht : w.heap[bg]? = some (.cells cs 25 (0, 0))) : RowN (w.setCell ⟨bg, 0, none⟩ x) B v L n xs :=
  ⟨row_agree h.1 fun b hb => Below.heap_setCell _ _ _ _ (fun e => row_off_typ h.1 ht (by rw [hb, e])), fun i hi => by
    obtain ⟨h0, u, h1, h2⟩ := h.2 i hi
    exact ⟨h0, u, h1, h2.setOther (p := ⟨bg, 0, none⟩) (kin_off_typ h2 ht) x⟩, h.3⟩

/-- A graph's variable, laid and not yet written. -/
structure VarG (w : World) (B : Nat) : Prop where
  c0 : w.cell? ⟨B, 0, none⟩ = some (.slice none 0 0)
  f0 : w.frozen? ⟨B, 0, none⟩ = false
  lt : B < w.heap.size
  typ : ∃ cs, w.heap[B]? = some (.cells cs 25 (0, 0))
theorem VarG.new (w : World) : VarG (w.alloc (.cells #[.slice none 0 0] 25)) w.heap.size := ⟨by go_cell, by (first | go_cell | (simp [World.frozen?, World.alloc]; done) | rfl), by simp, _, heap_alloc_new w _⟩
theorem VarG.later {w w' : World} {B : Nat} (h : VarG w B) (hb : Below w.heap.size w w') : VarG w' B := by
  obtain ⟨cs, ht⟩ := h.typ
  exact ⟨(hb.cell (p := ⟨B, 0, none⟩) h.lt).trans h.c0, (hb.frozen (p := ⟨B, 0, none⟩) h.lt).trans h.f0, Nat.lt_of_lt_of_le h.lt hb.size, cs, (hb.block B h.lt).trans ht⟩
theorem VarG.kept {w w' : World} {B gr : Nat} (h : VarG w B) (hg : w.grownBy w' (some gr)) (hne : B ≠ gr) : VarG w' B := by
  obtain ⟨cs, ht⟩ := h.typ
  exact ⟨hg.cell h.c0 (fun e => hne (Option.some.inj e)), (hg.frozen_far ⟨B, 0, none⟩ h.lt (fun e => hne (Option.some.inj e))).trans h.f0, Nat.lt_of_lt_of_le h.lt hg.size, cs, (hg.block B h.lt (fun e => hne (Option.some.inj e))).trans ht⟩
theorem VarG.drawn {w w' : World} {gr : Nat} (hg : ((w.alloc (.cells #[.slice none 0 0] 25)).drew).grownBy w' (some gr)) (hl : gr < w.heap.size) : VarG w' w.heap.size :=
  (VarG.new w).kept (show (w.alloc (.cells #[.slice none 0 0] 25)).grownBy w' (some gr) from ⟨hg.os, hg.tape, hg.output, hg.size, hg.block⟩) (by omega)
theorem VarG.past {w w' : World} (h : Below (w.alloc (.cells #[.slice none 0 0] 25)).heap.size (w.alloc (.cells #[.slice none 0 0] 25)) w') : VarG w' w.heap.size := (VarG.new w).later h

/-- Behind the statement that draws a write and does it: the new variable, and what it holds. -/
def GrX (w w0 : World) (B gr q bg : Nat) (v : Value) (L : List ValD) (s5 s6 : Value) (wx : World) : Prop :=
  ∃ (bx g' c' q' : Nat) (k a c n : Int) (xs' : List Value), s5 = .pointer (some ⟨bx, 0, none⟩) ∧ s6 = .bool (opOk k a c n) ∧ GrL w wx B gr q' bg v L ∧ q' ≤ q + 20 ∧
    wx.cell? ⟨bx, 0, none⟩ = some (.slice (some ⟨g', 0, none⟩) 24 c') ∧ bx < wx.heap.size ∧ RowN wx w0.heap.size (.slice (some ⟨g', 0, none⟩) 24 c') (doG L k a c n) 24 xs' ∧ OpB k a c n
theorem GrX.of_new {w w0 wx : World} {B gr q q' bg g' c' B' : Nat} {v : Value} {L : List ValD} {k a c n : Int} {xs' : List Value} (h : GrL w wx B gr q' bg v L) (hq : q' ≤ q + 20) (hB : OpB k a c n)
    (hr : RowN wx B' (.slice (some ⟨g', 0, none⟩) 24 c') (doG L k a c n) 24 xs') (h0 : w0.heap.size ≤ B') :
    GrX w w0 B gr q bg v L (.pointer (some ⟨wx.heap.size, 0, none⟩)) (.bool (opOk k a c n)) (wx.alloc (.cells #[.slice (some ⟨g', 0, none⟩) 24 c'] 25)) :=
  ⟨_, g', c', q', k, a, c, n, xs', rfl, rfl, h.below ((Below.refl _ wx).alloc (Nat.le_refl _) _), hq, by go_cell, by simp, (hr.later ((Below.refl _ wx).alloc (Nat.le_refl _) _)).mono h0, hB⟩
theorem GrX.of_set {w w0 wx : World} {B gr q q' bg g' c' B' bx : Nat} {v : Value} {L : List ValD} {k a c n : Int} {xs' : List Value} (z : VarG wx bx) (h : GrL w wx B gr q' bg v L) (hq : q' ≤ q + 20) (hB : OpB k a c n)
    (hr : RowN wx B' (.slice (some ⟨g', 0, none⟩) 24 c') (doG L k a c n) 24 xs') (h0 : w0.heap.size ≤ B') (hbx : bx < B') (hne : bg < bx) (hgr : gr < bx) :
    GrX w w0 B gr q bg v L (.pointer (some ⟨bx, 0, none⟩)) (.bool (opOk k a c n)) (wx.setCell ⟨bx, 0, none⟩ (.slice (some ⟨g', 0, none⟩) 24 c')) := by
  have z0 := z.c0
  have zl := z.lt
  have hl := h.grl
  have hb := h.hbg
  have hs := h.sz
  have hBr := h.rdr.1
  have r0 := h.res
  have v0 := h.var
  obtain ⟨cs, ht⟩ := h.typ
  obtain ⟨xs, hrw⟩ := h.row
  obtain ⟨csx, htx⟩ := z.typ
  refine ⟨_, g', c', q', k, a, c, n, xs', rfl, rfl, ?_, hq, by go_cell, by simpa using zl, (hr.set (p := ⟨bx, 0, none⟩) hbx _).mono h0, hB⟩
  exact ⟨h.rdr.setFar (a := ⟨bx, 0, none⟩) (by show B ≤ bx; omega) (by show ¬ bx = gr; omega) _, grown_set_new h.grown (a := ⟨bx, 0, none⟩) (by show w.heap.size ≤ bx; omega) _, hl, by go_cell, by simpa using h.resf, by go_cell, by simpa using h.varf,
    ⟨cs, (heap_setCell_other wx ⟨bx, 0, none⟩ bg _ (by show bg ≠ bx; omega)).trans ht⟩, hb, by simpa using hs, ⟨xs, hrw.offVar htx⟩⟩
end Go.Proofs.YtkmhnjgncnoddaaGreat
