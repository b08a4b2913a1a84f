/- Parts of what the last text proves: contracts and plain facts. -/
import Derived.Test.YtnenlnadmdlcfaaOkS
import Derived.Test.YtnenlnadmdlcfaaOkI
import Derived.Test.YtnenlnadmdlcfaaWo
import Derived.Test.YtnenlnadmdlcfaaAdP
import Derived.Test.YtnenlnadmdlcfaaOk1
import Derived.Test.YtnenlnadmdlcfaaGa
import Derived.BigQuiet
import Derived.Lib.QuietBelow
import Derived.Test.YtnenlnadmdlcfaaIn
import Derived.Test.YtnenlnadmdlcfaaGe
import Derived.Laws.AppendOwnNone
import Derived.Test.YtnenlnadmdlcfaaXn
import Derived.Test.YtnenlnadmdlcfaaCd
import Derived.Test.YtnenlnadmdlcfaaXs
import Derived.Deep.Cut
import Derived.Test.YtnenlnadmdlcfaaVm
import Derived.Test.YtnenlnadmdlcfaaSCache
/- Part: spec.l1Drop, spec.EdgeDrop, impl.EdgeDrop: contracts. -/
namespace Go.Proofs.Ytnenlnadmdlcfaa
open Go.RowKit

/-- What EdgeDrop answers. -/
def dropL (l : List (Int × Int)) (who : Int) : List (Int × Int) := if okL l = true then l.filter (notWho who) else []
def dropB (l : List (Int × Int)) (who : Int) : Bool := okL l && decide ((l.filter (notWho who)).length < l.length)

theorem dropL_length (l : List (Int × Int)) (who : Int) : (dropL l who).length ≤ l.length := by
  unfold dropL
  split
  · exact List.length_filter_le _ _
  · simp


end Go.Proofs.Ytnenlnadmdlcfaa

/- Part: slices.BinarySearchFunc over edges in order: contract. -/
namespace Go.Proofs.Ytnenlnadmdlcfaa
open Go.RowKit Go.Shelf
attribute [local go_sem ↓] Go.wp_at_zero Go.wp_at_succ

end Go.Proofs.Ytnenlnadmdlcfaa

/- Part: impl.EdgeAdd: contract. -/
namespace Go.Proofs.Ytnenlnadmdlcfaa
open Go.RowKit Go.Shelf

/-- What stays while the place is looked for. -/
structure KeepAdd (W w0 : World) (b0 : Nat) (v : Value) (rest : List (Int × Int)) (e : Int × Int) : Prop where
  pair : PairAt W b0 e
  own : Own W w0.heap.size v rest
  bel : Below w0.heap.size w0 W
theorem PairAt.past {W W' : World} {b : Nat} {e : Int × Int} (h : PairAt W b e) (hb : Below W.heap.size W W') : PairAt W' b e :=
  (hb.block _ (Array.getElem?_eq_some_iff.1 h).1).trans h
theorem KeepAdd.later {W W' w0 : World} {b0 : Nat} {v : Value} {rest : List (Int × Int)} {e : Int × Int} (h : KeepAdd W w0 b0 v rest e) (hb : Below W.heap.size W W') : KeepAdd W' w0 b0 v rest e :=
  ⟨h.pair.past hb, h.own.later hb, h.bel.trans (hb.mono h.bel.size)⟩
theorem KeepAdd.drew {W w0 : World} {b0 : Nat} {v : Value} {rest : List (Int × Int)} {e : Int × Int} (h : KeepAdd W w0 b0 v rest e) : KeepAdd W.drew w0 b0 v rest e := h.later ((Below.refl _ _).drew)
theorem KeepAdd.alloc {W w0 : World} {b0 : Nat} {v : Value} {rest : List (Int × Int)} {e : Int × Int} (h : KeepAdd W w0 b0 v rest e) (o : Obj) : KeepAdd (W.alloc o) w0 b0 v rest e := h.later ((Below.refl _ _).alloc (Nat.le_refl _) _)
theorem KeepAdd.ne {W w0 : World} {b0 : Nat} {v : Value} {rest : List (Int × Int)} {e : Int × Int} (h : KeepAdd W w0 b0 v rest e) : v.ownBlock ≠ some W.heap.size := fun hh => Nat.lt_irrefl _ (h.own.block _ hh).2

end Go.Proofs.Ytnenlnadmdlcfaa

/- Part: spec.l1Add, spec.EdgeAdd: contracts. -/
namespace Go.Proofs.Ytnenlnadmdlcfaa
open Go.RowKit Go.Shelf
attribute [local go_sem ↓] Go.wp_at_zero Go.wp_at_succ

/-- The first k of an owned list are owned. -/
theorem Own.take {w : World} {B g cap : Nat} {l : List (Int × Int)} (h : Own w B (.slice (some ⟨g, 0, none⟩) l.length cap) l) (k : Nat) (hk : k ≤ l.length) : Own w B (.slice (some ⟨g, 0, none⟩) k cap) (l.take k) := by
  have hl : (l.take k).length = k := by simp; omega
  rcases h.2 with ⟨hh, _⟩ | ⟨g', cap', cur, hh, hb, hg, hnc, hcm, hcs, ht⟩
  · cases hh
  · cases hh
    refine ⟨by rw [ecells_length], .inr ⟨g, cap, cur, by rw [hl], hb, hg, by omega, hcm, hcs, ?_⟩⟩
    have e1 : ecells l = ecells (l.take k) ++ ecells (l.drop k) := by rw [← ecells_append, List.take_append_drop]
    rw [hl]
    have : cur.toList.take (k * 2) = (cur.toList.take (l.length * 2)).take (k * 2) := by rw [List.take_take, Nat.min_eq_left (by omega)]
    rw [this, ht, e1, List.take_left' (by rw [ecells_length, hl])]

theorem Own.at {w : World} {B g n cap : Nat} {l : List (Int × Int)} (h : Own w B (.slice (some ⟨g, 0, none⟩) n cap) l) {k : Nat} (hk : k < l.length) :
    w.cell? ⟨g, k * 2, none⟩ = some (.int .i64 (l.getD k (0, 0)).1) ∧ w.cell? ⟨g, k * 2 + 1, none⟩ = some (.int .i64 (l.getD k (0, 0)).2) := by
  obtain ⟨ao, cap', hv, _, hc⟩ := h.rd
  cases hv
  obtain ⟨b, off, he, _, hcc⟩ := hc (by omega)
  cases he
  simpa using hcc k hk

theorem Own.from {w : World} {B g cap : Nat} {l : List (Int × Int)} (h : Own w B (.slice (some ⟨g, 0, none⟩) l.length cap) l) (k : Nat) : Rd w (.slice (some ⟨g, k * 2, none⟩) (l.drop k).length (cap - k)) (l.drop k) := by
  have hb := h.block g rfl
  have hm : l.length ≤ maxLen := by
    obtain ⟨_, _, _, hm, _⟩ := h.rd
    exact hm
  refine ⟨_, _, rfl, by simp; omega, fun h0 => ⟨g, k * 2, rfl, hb.2, fun i hi => ?_⟩⟩
  rw [List.length_drop] at hi
  obtain ⟨c0, c1⟩ := h.at (k := k + i) (by omega)
  have e : (l.drop k).getD i (0, 0) = l.getD (k + i) (0, 0) := by simp [List.getD_eq_getElem?_getD]
  rw [e, show k * 2 + i * 2 = (k + i) * 2 by omega]
  exact ⟨c0, c1⟩

/-- A slice value that reads as a list is copied: onto nothing. -/
theorem Rd.cells {w : World} {b off n cap : Nat} {l : List (Int × Int)} (h : Rd w (.slice (some ⟨b, off, none⟩) n cap) l) : ∀ j u, (ecells l)[j]? = some u → w.cell? ((⟨b, off, none⟩ : Addr).add j) = some u := by
  obtain ⟨ao, cap', hv, hl, hc⟩ := h
  cases hv
  intro j u hu
  have hj : j < l.length * 2 := by rw [← ecells_length]; exact (List.getElem?_eq_some_iff.1 hu).1
  obtain ⟨b', off', he, hlt, hcc⟩ := hc (by omega)
  cases he
  obtain ⟨c0, c1⟩ := hcc (j / 2) (by omega)
  have g := ecells_get l (j / 2) (by omega)
  rw [Addr.add_lit]
  by_cases hp : j % 2 = 0
  · have e : j / 2 * 2 = j := by omega
    rw [e] at c0 g
    rw [c0, ← g.1, hu]
  · have e : j / 2 * 2 + 1 = j := by omega
    rw [Nat.add_assoc, e] at c1
    rw [e] at g
    rw [c1, ← g.2, hu]

theorem copy_any (b off n cap : Nat) (l : List (Int × Int)) (w : World) (hn : l.length = n) (h : Rd w (.slice (some ⟨b, off, none⟩) l.length cap) l) (hl : l.length ≤ 1099511627776) :
    Calls Try.prog 80 #[.slice (some ⟨b, off, none⟩) n cap] w fun x w' => ∃ v', x = .returned v' ∧ Own w' w.heap.size v' l ∧ Below w.heap.size w w' ∧ ∃ g cp, v' = .slice (some ⟨g, 0, none⟩) n cp := by
  subst hn
  obtain ⟨i0, hi, hz0, hz1, hz2⟩ := info_parts Try.info62
  have hk1 : 0 + l.length ≤ maxLen := by unfold maxLen; omega
  have hk2 : (0 + l.length) * 16 ≤ 140737488355328 := by omega
  have HC := hid ((h.later ((Below.refl _ w).alloc (Nat.le_refl _) (.cells #[] 62))).cells)
  have HR := hid (World.ownsRow_lit (e := 62) (size := 2) w #[] 0 (Nat.le_refl _) (Nat.zero_le _) rfl)
  have hbs : w.heap.size ≤ (w.alloc (.cells #[] 62)).heap.size := by simp
  have hone := ecells_one l
  have hlen := ecells_length l
  clear h
  go_enter Try.func80, Try.ntmps80
  go_wp2_with (at_builtin; refine wpList_append_own _ rfl _ _ 27 rfl w.heap.size 62 i0 (.agg #[.int .i64 0, .int .i64 0]) 2 16 Try.underlying27 hi hz0 hz1 hz2 rfl (by decide) _ _ _ rfl HR.out ⟨b, off, none⟩ l.length cap (ecells l) rfl hlen HC.out hone hk1 hk2 hbs ?_; intro v' w1 hown' hgrow' hnil)
  go_ret
  rw [Nat.zero_add] at hown'
  have hown2 : Own w1 w.heap.size v' l := by
    show World.ownsRow _ _ _ _ _ _ _
    simpa using hown'
  refine ⟨v', rfl, hown2, ((Below.refl _ w).alloc (Nat.le_refl _) _).grown hgrow' hbs (fun j ej => (HR.out.lt j ej).1), ?_⟩
  rcases hown'.2 with ⟨hv, _⟩ | ⟨g, cp, _, hv, _⟩
  · have hno := (hnil.1 hv).1
    cases hno
  · exact ⟨g, cp, hv⟩

theorem take_row {w : World} {B g cap : Nat} {l : List (Int × Int)} (h : Own w B (.slice (some ⟨g, 0, none⟩) l.length cap) l) (k : Nat) (hk : k ≤ l.length) : w.ownsRow B 62 2 (.slice (some ⟨g, 0, none⟩) k cap) k (ecells (l.take k)) := by
  have := h.take k hk
  unfold Own at this
  rwa [show (l.take k).length = k by simp; omega] at this
/-- The cells of a list that lies elsewhere, behind an append onto row g. -/
theorem tail_cells {w w1 w6 : World} {B gt ct g n : Nat} {l : List (Int × Int)} (o : Obj) (h : Own w B (.slice (some ⟨gt, 0, none⟩) n ct) l) (hne : gt ≠ g) (hg : w1.grownBy w6 (some g)) (he : w1 = (w.alloc o).drew) :
    ∀ j u, (ecells l)[j]? = some u → w6.cell? ((⟨gt, 0, none⟩ : Addr).add j) = some u := by
  subst he
  intro j u hu
  have h1 := World.ownsRow.cells (h.later (((Below.refl _ w).alloc (Nat.le_refl _) o).drew)) (g := gt) rfl j u hu
  exact hg.cell h1 (fun e => hne (by rw [Addr.add_lit] at e; exact Option.some.inj e))

theorem own_three {w : World} {B k : Nat} {v : Value} {l : List (Int × Int)} {x1 x2 : Int} (h : w.ownsRow B 62 2 v (k + 1 + (l.length - k)) (ecells (l.take k) ++ [.int .i64 x1, .int .i64 x2] ++ ecells (l.drop k))) (hk : k ≤ l.length) : Own w B v (insAt l k (x1, x2)) := by
  have hlen : (insAt l k (x1, x2)).length = k + 1 + (l.length - k) := by simp [insAt]; omega
  have hc : ecells (insAt l k (x1, x2)) = ecells (l.take k) ++ [.int .i64 x1, .int .i64 x2] ++ ecells (l.drop k) := by
    rw [insAt, ecells_append]
    simp [ecells]
  unfold Own
  rw [hlen, hc]
  exact h

/-- append onto an owned row, as one step of a region that draws its order. -/
theorem step_append_own {P : Program} {ops : Array Oper} {o : Oper} {a : Act} {w : World} {K : Act → World → Prop} {Q : Exit → Act → World → Prop} {E : Prop} (hgd : o.guard = none) (s x : Operand) (t : TypeId)
    (ho : o.op = .call { callee := .builtin .append, args := #[s, x], argTypes := #[t, t] })
    (base : Nat) (e : TypeId) (i : TypeInfo) (z : Value) (size bytes : Nat) (ht : P.underlying t = some (.slice e)) (hi : P.info? e = some i) (hz : i.zero = some z)
    (hsize : i.size = size) (hby : i.bytes = bytes) (hzs : z.cells.size = size) (hsz : 0 < size)
    (v : Value) (n : Nat) (xs : List Value) (hs : a.eval s = v) (hown : w.ownsRow base e size v n xs)
    (ad : Addr) (m c : Nat) (news : List Value) (hx : a.eval x = .slice (some ad) m c) (hl : news.length = m * size) (hnews : ∀ j u, news[j]? = some u → w.cell? (ad.add j) = some u) (h1 : ∀ u ∈ news, u.oneCell' = true)
    (h63 : n + m ≤ maxLen) (hbytes : (n + m) * bytes ≤ 140737488355328) (hbase : base ≤ w.heap.size)
    (h : ∀ v' w', w'.ownsRow base e size v' (n + m) (xs ++ news) → w.grownBy w' v.ownBlock → (v' = .slice none 0 0 ↔ v = .slice none 0 0 ∧ m = 0) → K (a.put o.dst v') w') :
    if Region.wanted o (yielded ops a.tmps) = true then Oper.wp P o a w K Q else E := by
  have hw : Region.wanted o (yielded ops a.tmps) = true := by simp [Region.wanted, hgd]
  rw [if_pos hw]
  obtain ⟨v', w', hr, h2, h3, h4⟩ := run_append_own (P := P) w base t o.type e i z size bytes ht hi hz hsize hby hzs hsz v n xs hown ad m c news hl hnews h1 h63 hbytes hbase
  unfold Oper.wp
  simp [execOp, ho, resolve, invoke, builtin, hs, hx, hr, Result.andThen]
  exact h v' w' h2 h3 h4

end Go.Proofs.Ytnenlnadmdlcfaa

/- Part: spec.l2Copy: contract. -/
namespace Go.Proofs.Ytnenlnadmdlcfaa
open Go.RowKit
attribute [local go_sem ↓] Go.wp_at_zero Go.wp_at_succ

theorem run_append_cap {P : Program} {w : World} (base : Nat) (t ty e : TypeId) (i : TypeInfo) (size cp : Nat) (ht : P.underlying t = some (.slice e)) (hi : P.info? e = some i)
    (v : Value) (n : Nat) (xs : List Value) (hown : w.ownsRow base e size v n xs) :
    (Builtin.append_ #[t, t] ty #[v, .slice none 0 cp]).run P w = .ok v w := by
  rcases hown.2 with ⟨rfl, rfl⟩ | ⟨g, cap, cur, rfl, _, _, hnc, _⟩
  · simp [Builtin.append_, run_underlying ht, sizeOf, typeInfo, hi, Builtin.lenOf, Builtin.firstCells]
  · simp [Builtin.append_, run_underlying ht, sizeOf, typeInfo, hi, Builtin.lenOf, Builtin.firstCells, hnc, storeCells]
theorem wpList_append_cap {P : Program} {w : World} {ops : Array Oper} {rest : List Oper} {o : Oper} {a : Act} {Q : Exit → Act → World → Prop} (hgd : o.guard = none) (s x : Operand) (t : TypeId)
    (ho : o.op = .call { callee := .builtin .append, args := #[s, x], argTypes := #[t, t] })
    (base : Nat) (e : TypeId) (i : TypeInfo) (size cp : Nat) (ht : P.underlying t = some (.slice e)) (hi : P.info? e = some i)
    (v : Value) (n : Nat) (xs : List Value) (hs : a.eval s = v) (hown : w.ownsRow base e size v n xs) (hx : a.eval x = .slice none 0 cp)
    (h : wpList P ops Q rest (a.put o.dst v) w) : wpList P ops Q (o :: rest) a w := by
  refine wpList_plain hgd fun K hK => ?_
  have hrun := run_append_cap (P := P) (w := w) base t o.type e i size cp ht hi v n xs hown
  unfold Oper.wp
  simp [execOp, ho, resolve, invoke, builtin, hs, hx, hrun, Result.andThen]
  exact hK _ _ h

theorem copy_none (cap : Nat) (w : World) :
    Calls Try.prog 80 #[.slice none 0 cap] w fun x w' => ∃ v', x = .returned v' ∧ Own w' w.heap.size v' [] ∧ Below w.heap.size w w' := by
  obtain ⟨i0, hi, hz0, hz1, hz2⟩ := info_parts Try.info62
  have HR := hid (World.ownsRow_lit (e := 62) (size := 2) w #[] 0 (Nat.le_refl _) (Nat.zero_le _) rfl)
  go_enter Try.func80, Try.ntmps80
  go_wp2_with (at_builtin; refine wpList_append_cap rfl _ _ 27 rfl w.heap.size 62 i0 2 cap Try.underlying27 hi _ _ _ rfl HR.out rfl ?_)
  go_ret
  exact ⟨_, rfl, HR.out, by go_grown⟩
theorem copy_some (ad : Addr) (cap : Nat) (w : World) :
    Calls Try.prog 80 #[.slice (some ad) 0 cap] w fun x w' => ∃ v', x = .returned v' ∧ Own w' w.heap.size v' [] ∧ Below w.heap.size w w' := by
  obtain ⟨i0, hi, hz0, hz1, hz2⟩ := info_parts Try.info62
  have HR := hid (World.ownsRow_lit (e := 62) (size := 2) w #[] 0 (Nat.le_refl _) (Nat.zero_le _) rfl)
  have hbs : w.heap.size ≤ (w.alloc (.cells #[] 62)).heap.size := by simp
  go_enter Try.func80, Try.ntmps80
  go_wp2_with (at_builtin; refine wpList_append_own _ rfl _ _ 27 rfl w.heap.size 62 i0 (.agg #[.int .i64 0, .int .i64 0]) 2 16 Try.underlying27 hi hz0 hz1 hz2 rfl (by decide) _ _ _ rfl HR.out ad 0 cap [] rfl rfl (fun _ _ h => by simp at h) (fun _ h => by simp at h) (by decide) (by decide) hbs ?_; intro v' w1 hown' hgrow' hnil)
  go_ret
  have hown2 : Own w1 w.heap.size v' [] := by
    show World.ownsRow _ _ _ _ _ _ _
    simpa [ecells] using hown'
  exact ⟨v', rfl, hown2, ((Below.refl _ w).alloc (Nat.le_refl _) _).grown hgrow' hbs (fun j ej => (HR.out.lt j ej).1)⟩
theorem l1Copy_any (v : Value) (l : List (Int × Int)) (w : World) (h : Rd w v l) (hl : l.length ≤ 1099511627776) :
    Calls Try.prog 80 #[v] w fun x w' => ∃ v', x = .returned v' ∧ Own w' w.heap.size v' l ∧ Below w.heap.size w w' := by
  have HR := h
  obtain ⟨ao, cap, rfl, _, hc⟩ := h
  by_cases h0 : 0 < l.length
  · obtain ⟨b, off, rfl, _⟩ := hc h0
    exact (copy_any b off l.length cap l w rfl HR hl).mono fun _ _ ⟨v', e, ho, hb, _⟩ => ⟨v', e, ho, hb⟩
  · have hz : l = [] := List.eq_nil_of_length_eq_zero (by omega)
    subst hz
    match ao with
    | none => exact copy_none cap w
    | some a => exact copy_some a cap w

set_option maxHeartbeats 1000000 in
theorem l2Copy_any (n : Int) (v : Value) (l : List (Int × Int)) (w : World) (h : Rd w v l) (hl : l.length ≤ 1099511627776) :
    Calls Try.prog 69 #[.agg #[.int .i64 n, v]] w fun e w' => ∃ v', e = .returned (.agg #[.int .i64 n, v']) ∧ Own w' w.heap.size v' l ∧ Below w.heap.size w w' := by
  have HR := hid h
  obtain ⟨ao, cap, hv, _⟩ := h
  subst hv
  go_enter Try.func69, Try.ntmps69
  go_wp2_with fail
  have a0_1 : ((w.alloc (.cells #[.int .i64 n, .slice ao l.length cap] 29)).alloc (.cells #[.int .i64 0, .slice none 0 0] 29)).cell? ⟨w.heap.size, 0, none⟩ = some (.int .i64 n) := by go_cell
  have a1_1 : ((w.alloc (.cells #[.int .i64 n, .slice ao l.length cap] 29)).alloc (.cells #[.int .i64 0, .slice none 0 0] 29)).cell? ⟨w.heap.size, 1, none⟩ = some (.slice ao l.length cap) := by go_cell
  have al_1 : w.heap.size < ((w.alloc (.cells #[.int .i64 n, .slice ao l.length cap] 29)).alloc (.cells #[.int .i64 0, .slice none 0 0] 29)).heap.size := by first | (simp; done) | (simp; omega)
  have r0_1 : ((w.alloc (.cells #[.int .i64 n, .slice ao l.length cap] 29)).alloc (.cells #[.int .i64 0, .slice none 0 0] 29)).cell? ⟨w.heap.size + 1, 0, none⟩ = some (.int .i64 0) := by go_cell
  have rf0_1 : ((w.alloc (.cells #[.int .i64 n, .slice ao l.length cap] 29)).alloc (.cells #[.int .i64 0, .slice none 0 0] 29)).frozen? ⟨w.heap.size + 1, 0, none⟩ = false := by (first | go_cell | (simp [World.frozen?, World.alloc]; done) | rfl)
  have r1_1 : ((w.alloc (.cells #[.int .i64 n, .slice ao l.length cap] 29)).alloc (.cells #[.int .i64 0, .slice none 0 0] 29)).cell? ⟨w.heap.size + 1, 1, none⟩ = some (.slice none 0 0) := by go_cell
  have rf1_1 : ((w.alloc (.cells #[.int .i64 n, .slice ao l.length cap] 29)).alloc (.cells #[.int .i64 0, .slice none 0 0] 29)).frozen? ⟨w.heap.size + 1, 1, none⟩ = false := by (first | go_cell | (simp [World.frozen?, World.alloc]; done) | rfl)
  have rl_1 : w.heap.size + 1 < ((w.alloc (.cells #[.int .i64 n, .slice ao l.length cap] 29)).alloc (.cells #[.int .i64 0, .slice none 0 0] 29)).heap.size := by first | (simp; done) | (simp; omega)
  have c1 : Below w.heap.size w ((w.alloc (.cells #[.int .i64 n, .slice ao l.length cap] 29)).alloc (.cells #[.int .i64 0, .slice none 0 0] 29)) := by go_grown
  have s1 : ((w.alloc (.cells #[.int .i64 n, .slice ao l.length cap] 29)).alloc (.cells #[.int .i64 0, .slice none 0 0] 29)).heap.size = w.heap.size + 2 := by simp
  generalize ((w.alloc (.cells #[.int .i64 n, .slice ao l.length cap] 29)).alloc (.cells #[.int .i64 0, .slice none 0 0] 29)) = w1 at a0_1 a1_1 al_1 r0_1 rf0_1 r1_1 rf1_1 rl_1 c1 s1 ⊢
  have qa0_1 := cell_regrown a0_1
  have qa1_1 := cell_regrown a1_1
  have qr0_1 := cell_regrown r0_1
  have qr1_1 := cell_regrown r1_1
  go_region_with (first
    | (go_at_call 80; go_loud (refine (l1Copy_any _ l _ (HR.out.later (by go_grown)) hl).mono ?_; rintro e w2 ⟨v', rfl, ho, b2⟩; have HO := hid (Own.mono ho (B' := w1.heap.size) (by show w1.heap.size ≤ w1.heap.size; omega)); clear ho; have d2 : Below w1.heap.size w1 w2 := (Below.trans (by go_grown) (b2.mono (by first | omega | (simp; done) | (simp; omega)))); have c2 : Below w.heap.size w w2 := c1.trans (d2.mono c1.size); have a0_2 : w2.cell? ⟨w.heap.size, 0, none⟩ = some (.int .i64 n) := (by rw [b2.cell (by first | omega | (simp; done) | (simp; omega))]; go_cell); have a1_2 : w2.cell? ⟨w.heap.size, 1, none⟩ = some (.slice ao l.length cap) := (by rw [b2.cell (by first | omega | (simp; done) | (simp; omega))]; go_cell); have al_2 : w.heap.size < w2.heap.size := (by have := b2.size; first | omega | (revert this; simp; done) | (revert this; simp; omega)); have r0_2 : w2.cell? ⟨w.heap.size + 1, 0, none⟩ = some (.int .i64 0) := (by rw [b2.cell (by first | omega | (simp; done) | (simp; omega))]; go_cell); have rf0_2 : w2.frozen? ⟨w.heap.size + 1, 0, none⟩ = false := (by rw [b2.frozen (by first | omega | (simp; done) | (simp; omega))]; (first | go_cell | (simp [World.frozen?, World.alloc]; done) | rfl)); have r1_2 : w2.cell? ⟨w.heap.size + 1, 1, none⟩ = some (.slice none 0 0) := (by rw [b2.cell (by first | omega | (simp; done) | (simp; omega))]; go_cell); have rf1_2 : w2.frozen? ⟨w.heap.size + 1, 1, none⟩ = false := (by rw [b2.frozen (by first | omega | (simp; done) | (simp; omega))]; (first | go_cell | (simp [World.frozen?, World.alloc]; done) | rfl)); have rl_2 : w.heap.size + 1 < w2.heap.size := (by have := b2.size; first | omega | (revert this; simp; done) | (revert this; simp; omega)); clear r0_1 rf0_1 r1_1 rf1_1 rl_1; obtain ⟨uo, uc, huv, _⟩ := HO.out.rd; subst huv)))
  all_goals
    have e0 : ((w2.setCell ⟨w.heap.size + 1, 0, none⟩ (.int .i64 n)).setCell ⟨w.heap.size + 1, 1, none⟩ (.slice uo l.length uc)).cell? ⟨w.heap.size + 1, 0, none⟩ = some (.int .i64 n) := by go_cell
    have e1 : ((w2.setCell ⟨w.heap.size + 1, 0, none⟩ (.int .i64 n)).setCell ⟨w.heap.size + 1, 1, none⟩ (.slice uo l.length uc)).cell? ⟨w.heap.size + 1, 1, none⟩ = some (.slice uo l.length uc) := by go_cell
    have HF := hid (((HO.out.apartSet (p := ⟨w.heap.size + 1, 0, none⟩) (by show w.heap.size + 1 < w1.heap.size; omega) (.int .i64 n)).apartSet (p := ⟨w.heap.size + 1, 1, none⟩) (by show w.heap.size + 1 < w1.heap.size; omega) (.slice uo l.length uc)).mono (B' := w.heap.size) (by omega))
    have c3 := hid ((c2.setCell (p := ⟨w.heap.size + 1, 0, none⟩) (by show w.heap.size ≤ w.heap.size + 1; omega) (.int .i64 n)).setCell (p := ⟨w.heap.size + 1, 1, none⟩) (by show w.heap.size ≤ w.heap.size + 1; omega) (.slice uo l.length uc))
    go_wp2
    refine bodyPost_ret (v := .agg #[.int .i64 n, .slice uo l.length uc]) (by simp [results, Try.results69, go_sem, e0, e1]) rfl ⟨_, rfl, HF.out, c3.out⟩
end Go.Proofs.Ytnenlnadmdlcfaa

/- Part: spec.l5Copy, spec.l5Get, spec.CacheGet: contracts. -/
namespace Go.Proofs.Ytnenlnadmdlcfaa
open Go.RowKit
attribute [local go_sem ↓] Go.wp_at_zero Go.wp_at_succ

set_option maxRecDepth 100000 in
set_option maxHeartbeats 2000000 in
theorem l5Copy_any (p0 p1 p2 : Int) (v : Value) (l : List (Int × Int)) (w : World) (h : Rd w v l) (hl : l.length ≤ 1099511627776) :
    Calls Try.prog 54 #[.agg #[.int .i64 p0, .int .i64 p1, .int .i64 p2, v]] w fun e w' => (∃ (o : Option Addr) (c : Nat), e = .returned (.agg #[.int .i64 p0, .int .i64 p1, .int .i64 p2, .slice o l.length c]) ∧ Own w' w.heap.size (.slice o l.length c) l) ∧ Below w.heap.size w w' := by
  have HR := hid h
  obtain ⟨ao, cap, rfl, _, _⟩ := h
  go_enter Try.func54, Try.ntmps54
  go_wp2_with fail
  have a0_1 : ((w.alloc (.cells #[.int .i64 p0, .int .i64 p1, .int .i64 p2, .slice ao l.length cap] 31)).alloc (.cells #[.int .i64 0, .int .i64 0, .int .i64 0, .slice none 0 0] 31)).cell? ⟨w.heap.size, 0, none⟩ = some (.int .i64 p0) := by go_cell
  have a1_1 : ((w.alloc (.cells #[.int .i64 p0, .int .i64 p1, .int .i64 p2, .slice ao l.length cap] 31)).alloc (.cells #[.int .i64 0, .int .i64 0, .int .i64 0, .slice none 0 0] 31)).cell? ⟨w.heap.size, 1, none⟩ = some (.int .i64 p1) := by go_cell
  have a2_1 : ((w.alloc (.cells #[.int .i64 p0, .int .i64 p1, .int .i64 p2, .slice ao l.length cap] 31)).alloc (.cells #[.int .i64 0, .int .i64 0, .int .i64 0, .slice none 0 0] 31)).cell? ⟨w.heap.size, 2, none⟩ = some (.int .i64 p2) := by go_cell
  have a3_1 : ((w.alloc (.cells #[.int .i64 p0, .int .i64 p1, .int .i64 p2, .slice ao l.length cap] 31)).alloc (.cells #[.int .i64 0, .int .i64 0, .int .i64 0, .slice none 0 0] 31)).cell? ⟨w.heap.size, 3, none⟩ = some (.slice ao l.length cap) := by go_cell
  have al_1 : w.heap.size < ((w.alloc (.cells #[.int .i64 p0, .int .i64 p1, .int .i64 p2, .slice ao l.length cap] 31)).alloc (.cells #[.int .i64 0, .int .i64 0, .int .i64 0, .slice none 0 0] 31)).heap.size := by first | (simp; done) | (simp; omega)
  have r0_1 : ((w.alloc (.cells #[.int .i64 p0, .int .i64 p1, .int .i64 p2, .slice ao l.length cap] 31)).alloc (.cells #[.int .i64 0, .int .i64 0, .int .i64 0, .slice none 0 0] 31)).cell? ⟨w.heap.size + 1, 0, none⟩ = some (.int .i64 0) := by go_cell
  have rf0_1 : ((w.alloc (.cells #[.int .i64 p0, .int .i64 p1, .int .i64 p2, .slice ao l.length cap] 31)).alloc (.cells #[.int .i64 0, .int .i64 0, .int .i64 0, .slice none 0 0] 31)).frozen? ⟨w.heap.size + 1, 0, none⟩ = false := by (first | go_cell | (simp [World.frozen?, World.alloc]; done) | rfl)
  have r1_1 : ((w.alloc (.cells #[.int .i64 p0, .int .i64 p1, .int .i64 p2, .slice ao l.length cap] 31)).alloc (.cells #[.int .i64 0, .int .i64 0, .int .i64 0, .slice none 0 0] 31)).cell? ⟨w.heap.size + 1, 1, none⟩ = some (.int .i64 0) := by go_cell
  have rf1_1 : ((w.alloc (.cells #[.int .i64 p0, .int .i64 p1, .int .i64 p2, .slice ao l.length cap] 31)).alloc (.cells #[.int .i64 0, .int .i64 0, .int .i64 0, .slice none 0 0] 31)).frozen? ⟨w.heap.size + 1, 1, none⟩ = false := by (first | go_cell | (simp [World.frozen?, World.alloc]; done) | rfl)
  have r2_1 : ((w.alloc (.cells #[.int .i64 p0, .int .i64 p1, .int .i64 p2, .slice ao l.length cap] 31)).alloc (.cells #[.int .i64 0, .int .i64 0, .int .i64 0, .slice none 0 0] 31)).cell? ⟨w.heap.size + 1, 2, none⟩ = some (.int .i64 0) := by go_cell
  have rf2_1 : ((w.alloc (.cells #[.int .i64 p0, .int .i64 p1, .int .i64 p2, .slice ao l.length cap] 31)).alloc (.cells #[.int .i64 0, .int .i64 0, .int .i64 0, .slice none 0 0] 31)).frozen? ⟨w.heap.size + 1, 2, none⟩ = false := by (first | go_cell | (simp [World.frozen?, World.alloc]; done) | rfl)
  have r3_1 : ((w.alloc (.cells #[.int .i64 p0, .int .i64 p1, .int .i64 p2, .slice ao l.length cap] 31)).alloc (.cells #[.int .i64 0, .int .i64 0, .int .i64 0, .slice none 0 0] 31)).cell? ⟨w.heap.size + 1, 3, none⟩ = some (.slice none 0 0) := by go_cell
  have rf3_1 : ((w.alloc (.cells #[.int .i64 p0, .int .i64 p1, .int .i64 p2, .slice ao l.length cap] 31)).alloc (.cells #[.int .i64 0, .int .i64 0, .int .i64 0, .slice none 0 0] 31)).frozen? ⟨w.heap.size + 1, 3, none⟩ = false := by (first | go_cell | (simp [World.frozen?, World.alloc]; done) | rfl)
  have rl_1 : w.heap.size + 1 < ((w.alloc (.cells #[.int .i64 p0, .int .i64 p1, .int .i64 p2, .slice ao l.length cap] 31)).alloc (.cells #[.int .i64 0, .int .i64 0, .int .i64 0, .slice none 0 0] 31)).heap.size := by first | (simp; done) | (simp; omega)
  have c1 : Below w.heap.size w ((w.alloc (.cells #[.int .i64 p0, .int .i64 p1, .int .i64 p2, .slice ao l.length cap] 31)).alloc (.cells #[.int .i64 0, .int .i64 0, .int .i64 0, .slice none 0 0] 31)) := by go_grown
  have s1 : ((w.alloc (.cells #[.int .i64 p0, .int .i64 p1, .int .i64 p2, .slice ao l.length cap] 31)).alloc (.cells #[.int .i64 0, .int .i64 0, .int .i64 0, .slice none 0 0] 31)).heap.size = w.heap.size + 2 := by simp
  generalize ((w.alloc (.cells #[.int .i64 p0, .int .i64 p1, .int .i64 p2, .slice ao l.length cap] 31)).alloc (.cells #[.int .i64 0, .int .i64 0, .int .i64 0, .slice none 0 0] 31)) = w1 at a0_1 a1_1 a2_1 a3_1 al_1 r0_1 rf0_1 r1_1 rf1_1 r2_1 rf2_1 r3_1 rf3_1 rl_1 c1 s1 ⊢
  have qa0_1 := cell_regrown a0_1
  have qa1_1 := cell_regrown a1_1
  have qa2_1 := cell_regrown a2_1
  have qa3_1 := cell_regrown a3_1
  have qr0_1 := cell_regrown r0_1
  have qr1_1 := cell_regrown r1_1
  have qr2_1 := cell_regrown r2_1
  have qr3_1 := cell_regrown r3_1
  have HR1 := hid (HR.out.later c1)
  clear qa0_1 qa1_1 qa2_1 qa3_1 qr0_1 qr1_1 qr2_1 qr3_1
  go_region_held3 (fun w' => w'.cell? ⟨w.heap.size, 0, none⟩ = some (.int .i64 p0) ∧ w'.cell? ⟨w.heap.size, 1, none⟩ = some (.int .i64 p1) ∧ w'.cell? ⟨w.heap.size, 2, none⟩ = some (.int .i64 p2) ∧ w'.cell? ⟨w.heap.size, 3, none⟩ = some (.slice ao l.length cap)) (go_keep) (first | (go_at_call 69; refine (l2Copy_any p2 _ l _ (HR1.out.later (by go_grown)) hl).mono ?_; rintro e w2 ⟨v', rfl, ho, b2⟩; have d2 : Below w1.heap.size w1 w2 := (Below.trans (by go_grown) (b2.mono (by first | omega | (simp; done) | (simp; omega)))); have j0 := (d2.cell (p := ⟨w.heap.size, 0, none⟩) al_1).trans a0_1; have j1 := (d2.cell (p := ⟨w.heap.size, 1, none⟩) al_1).trans a1_1; have j2 := (d2.cell (p := ⟨w.heap.size, 2, none⟩) al_1).trans a2_1; have j3 := (d2.cell (p := ⟨w.heap.size, 3, none⟩) al_1).trans a3_1; have HO := hid (Own.mono ho (B' := w1.heap.size) (by show w1.heap.size ≤ w1.heap.size; omega)); clear ho; have r0_2 : w2.cell? ⟨w.heap.size + 1, 0, none⟩ = some (.int .i64 0) := (by rw [b2.cell (by first | omega | (simp; done) | (simp; omega))]; go_cell); have rf0_2 : w2.frozen? ⟨w.heap.size + 1, 0, none⟩ = false := (by rw [b2.frozen (by first | omega | (simp; done) | (simp; omega))]; (first | go_cell | (simp [World.frozen?, World.alloc]; done) | rfl)); have r1_2 : w2.cell? ⟨w.heap.size + 1, 1, none⟩ = some (.int .i64 0) := (by rw [b2.cell (by first | omega | (simp; done) | (simp; omega))]; go_cell); have rf1_2 : w2.frozen? ⟨w.heap.size + 1, 1, none⟩ = false := (by rw [b2.frozen (by first | omega | (simp; done) | (simp; omega))]; (first | go_cell | (simp [World.frozen?, World.alloc]; done) | rfl)); have r2_2 : w2.cell? ⟨w.heap.size + 1, 2, none⟩ = some (.int .i64 0) := (by rw [b2.cell (by first | omega | (simp; done) | (simp; omega))]; go_cell); have rf2_2 : w2.frozen? ⟨w.heap.size + 1, 2, none⟩ = false := (by rw [b2.frozen (by first | omega | (simp; done) | (simp; omega))]; (first | go_cell | (simp [World.frozen?, World.alloc]; done) | rfl)); have r3_2 : w2.cell? ⟨w.heap.size + 1, 3, none⟩ = some (.slice none 0 0) := (by rw [b2.cell (by first | omega | (simp; done) | (simp; omega))]; go_cell); have rf3_2 : w2.frozen? ⟨w.heap.size + 1, 3, none⟩ = false := (by rw [b2.frozen (by first | omega | (simp; done) | (simp; omega))]; (first | go_cell | (simp [World.frozen?, World.alloc]; done) | rfl)); have rl_2 : w.heap.size + 1 < w2.heap.size := (by have := b2.size; first | omega | (revert this; simp; done) | (revert this; simp; omega)); obtain ⟨uo, uc, huv, _⟩ := HO.out.rd; subst huv))
  all_goals
    have C2 := hid (c1.trans (d2.mono c1.size))
    clear d2 b2 c1
    go_wp2_with fail
    have e0 : ((((w2.setCell ⟨w.heap.size + 1, 0, none⟩ (.int .i64 p0)).setCell ⟨w.heap.size + 1, 1, none⟩ (.int .i64 p1)).setCell ⟨w.heap.size + 1, 2, none⟩ (.int .i64 p2)).setCell ⟨w.heap.size + 1, 3, none⟩ (.slice uo l.length uc)).cell? ⟨w.heap.size + 1, 0, none⟩ = some (.int .i64 p0) := by go_cell
    have e1 : ((((w2.setCell ⟨w.heap.size + 1, 0, none⟩ (.int .i64 p0)).setCell ⟨w.heap.size + 1, 1, none⟩ (.int .i64 p1)).setCell ⟨w.heap.size + 1, 2, none⟩ (.int .i64 p2)).setCell ⟨w.heap.size + 1, 3, none⟩ (.slice uo l.length uc)).cell? ⟨w.heap.size + 1, 1, none⟩ = some (.int .i64 p1) := by go_cell
    have e2 : ((((w2.setCell ⟨w.heap.size + 1, 0, none⟩ (.int .i64 p0)).setCell ⟨w.heap.size + 1, 1, none⟩ (.int .i64 p1)).setCell ⟨w.heap.size + 1, 2, none⟩ (.int .i64 p2)).setCell ⟨w.heap.size + 1, 3, none⟩ (.slice uo l.length uc)).cell? ⟨w.heap.size + 1, 2, none⟩ = some (.int .i64 p2) := by go_cell
    have e3 : ((((w2.setCell ⟨w.heap.size + 1, 0, none⟩ (.int .i64 p0)).setCell ⟨w.heap.size + 1, 1, none⟩ (.int .i64 p1)).setCell ⟨w.heap.size + 1, 2, none⟩ (.int .i64 p2)).setCell ⟨w.heap.size + 1, 3, none⟩ (.slice uo l.length uc)).cell? ⟨w.heap.size + 1, 3, none⟩ = some (.slice uo l.length uc) := by go_cell
    have HF := hid (Own.mono ((((HO.out.apartSet (p := ⟨w.heap.size + 1, 0, none⟩) (by show w.heap.size + 1 < w1.heap.size; omega) (.int .i64 p0)).apartSet (p := ⟨w.heap.size + 1, 1, none⟩) (by show w.heap.size + 1 < w1.heap.size; omega) (.int .i64 p1)).apartSet (p := ⟨w.heap.size + 1, 2, none⟩) (by show w.heap.size + 1 < w1.heap.size; omega) (.int .i64 p2)).apartSet (p := ⟨w.heap.size + 1, 3, none⟩) (by show w.heap.size + 1 < w1.heap.size; omega) (.slice uo l.length uc)) (B' := w.heap.size) (by omega))
    have HB := hid ((((C2.out.setCell (p := ⟨w.heap.size + 1, 0, none⟩) (by show w.heap.size ≤ w.heap.size + 1; omega) (.int .i64 p0)).setCell (p := ⟨w.heap.size + 1, 1, none⟩) (by show w.heap.size ≤ w.heap.size + 1; omega) (.int .i64 p1)).setCell (p := ⟨w.heap.size + 1, 2, none⟩) (by show w.heap.size ≤ w.heap.size + 1; omega) (.int .i64 p2)).setCell (p := ⟨w.heap.size + 1, 3, none⟩) (by show w.heap.size ≤ w.heap.size + 1; omega) (.slice uo l.length uc))
    exact bodyPost_ret (v := .agg #[.int .i64 p0, .int .i64 p1, .int .i64 p2, .slice uo l.length uc]) (by simp [results, Try.results54, go_sem, e0, e1, e2, e3]) rfl ⟨⟨uo, uc, rfl, HF.out⟩, HB.out⟩
/-- What a getter answers of an item, if there is one. -/
def EndG (w w' : World) (o : Option KD) (e : Ending) : Prop := ∃ (a : Option Addr) (c : Nat), e = .returned (.tuple #[.agg #[.int .i64 (gk o), .int .i64 (gv o), .int .i64 (gn o), .slice a (gl o).length c], .bool (gb o)]) ∧ Own w' w.heap.size (.slice a (gl o).length c) (gl o)
/-- None of the first k items is of that key. -/
def NoneK (I : List KD) (key : Int) (k : Nat) : Prop := ∀ j, j < k → keyK (I.getD j kd0) ≠ key
theorem find_none {I : List KD} {key : Int} (h : NoneK I key I.length) : I.find? (fun x => keyK x == key) = none := by
  rw [List.find?_eq_none]
  intro x hx
  obtain ⟨i, hi, rfl⟩ := List.getElem_of_mem hx
  have := h i hi
  rw [getD_at hi] at this
  simpa using this
theorem find_some {I : List KD} {key : Int} {k : Nat} (hk : k < I.length) (h : NoneK I key k) (he : keyK (I.getD k kd0) = key) : I.find? (fun x => keyK x == key) = some (I.getD k kd0) := by
  rw [getD_at hk] at he ⊢
  refine List.find?_eq_some_iff_getElem.2 ⟨by simpa using he, k, hk, rfl, fun j hj => ?_⟩
  have := h j hj
  rw [getD_at (by omega)] at this
  simpa using this
set_option maxRecDepth 100000 in
set_option maxHeartbeats 4000000 in
theorem l5Get_any (v0 v1 : Value) (I F : List KD) (key : Int) (w : World) (h0 : RdM 4 3 true w v0 I) (h1 : RdM 1 1 false w v1 F) (hl : ∀ i, i < I.length → (I.getD i kd0).2.length ≤ 1099511627776) :
    Calls Try.prog 28 #[.agg #[v0, v1], .int .i64 key] w fun e w' => EndG w w' (I.find? (fun x => keyK x == key)) e ∧ Below w.heap.size w w' := by
  have H0 := hid h0
  obtain ⟨ai, ci, rfl, hli, hci⟩ := h0
  obtain ⟨af, cf, rfl, hq2, hq3⟩ := h1
  have HC := hid hci
  have HL := hid hl
  clear hq2 hq3 hci hl
  unfold maxLen at hli
  go_enter Try.func28, Try.ntmps28
  go_wp2_with fail
  have a0_1 : ((w.alloc (.cells #[.slice ai I.length ci, .slice af F.length cf] 36)).alloc (.cells #[.int .i64 0, .int .i64 0, .int .i64 0, .slice none 0 0] 31)).cell? ⟨w.heap.size, 0, none⟩ = some (.slice ai I.length ci) := by go_cell
  have a1_1 : ((w.alloc (.cells #[.slice ai I.length ci, .slice af F.length cf] 36)).alloc (.cells #[.int .i64 0, .int .i64 0, .int .i64 0, .slice none 0 0] 31)).cell? ⟨w.heap.size, 1, none⟩ = some (.slice af F.length cf) := by go_cell
  have al_1 : w.heap.size < ((w.alloc (.cells #[.slice ai I.length ci, .slice af F.length cf] 36)).alloc (.cells #[.int .i64 0, .int .i64 0, .int .i64 0, .slice none 0 0] 31)).heap.size := by first | (simp; done) | (simp; omega)
  have r0_1 : ((w.alloc (.cells #[.slice ai I.length ci, .slice af F.length cf] 36)).alloc (.cells #[.int .i64 0, .int .i64 0, .int .i64 0, .slice none 0 0] 31)).cell? ⟨w.heap.size + 1, 0, none⟩ = some (.int .i64 0) := by go_cell
  have rf0_1 : ((w.alloc (.cells #[.slice ai I.length ci, .slice af F.length cf] 36)).alloc (.cells #[.int .i64 0, .int .i64 0, .int .i64 0, .slice none 0 0] 31)).frozen? ⟨w.heap.size + 1, 0, none⟩ = false := by (first | go_cell | (simp [World.frozen?, World.alloc]; done) | rfl)
  have r1_1 : ((w.alloc (.cells #[.slice ai I.length ci, .slice af F.length cf] 36)).alloc (.cells #[.int .i64 0, .int .i64 0, .int .i64 0, .slice none 0 0] 31)).cell? ⟨w.heap.size + 1, 1, none⟩ = some (.int .i64 0) := by go_cell
  have rf1_1 : ((w.alloc (.cells #[.slice ai I.length ci, .slice af F.length cf] 36)).alloc (.cells #[.int .i64 0, .int .i64 0, .int .i64 0, .slice none 0 0] 31)).frozen? ⟨w.heap.size + 1, 1, none⟩ = false := by (first | go_cell | (simp [World.frozen?, World.alloc]; done) | rfl)
  have r2_1 : ((w.alloc (.cells #[.slice ai I.length ci, .slice af F.length cf] 36)).alloc (.cells #[.int .i64 0, .int .i64 0, .int .i64 0, .slice none 0 0] 31)).cell? ⟨w.heap.size + 1, 2, none⟩ = some (.int .i64 0) := by go_cell
  have rf2_1 : ((w.alloc (.cells #[.slice ai I.length ci, .slice af F.length cf] 36)).alloc (.cells #[.int .i64 0, .int .i64 0, .int .i64 0, .slice none 0 0] 31)).frozen? ⟨w.heap.size + 1, 2, none⟩ = false := by (first | go_cell | (simp [World.frozen?, World.alloc]; done) | rfl)
  have r3_1 : ((w.alloc (.cells #[.slice ai I.length ci, .slice af F.length cf] 36)).alloc (.cells #[.int .i64 0, .int .i64 0, .int .i64 0, .slice none 0 0] 31)).cell? ⟨w.heap.size + 1, 3, none⟩ = some (.slice none 0 0) := by go_cell
  have rf3_1 : ((w.alloc (.cells #[.slice ai I.length ci, .slice af F.length cf] 36)).alloc (.cells #[.int .i64 0, .int .i64 0, .int .i64 0, .slice none 0 0] 31)).frozen? ⟨w.heap.size + 1, 3, none⟩ = false := by (first | go_cell | (simp [World.frozen?, World.alloc]; done) | rfl)
  have rl_1 : w.heap.size + 1 < ((w.alloc (.cells #[.slice ai I.length ci, .slice af F.length cf] 36)).alloc (.cells #[.int .i64 0, .int .i64 0, .int .i64 0, .slice none 0 0] 31)).heap.size := by first | (simp; done) | (simp; omega)
  have c1 : Below w.heap.size w ((w.alloc (.cells #[.slice ai I.length ci, .slice af F.length cf] 36)).alloc (.cells #[.int .i64 0, .int .i64 0, .int .i64 0, .slice none 0 0] 31)) := by go_grown
  have s1 : ((w.alloc (.cells #[.slice ai I.length ci, .slice af F.length cf] 36)).alloc (.cells #[.int .i64 0, .int .i64 0, .int .i64 0, .slice none 0 0] 31)).heap.size = w.heap.size + 2 := by simp
  generalize ((w.alloc (.cells #[.slice ai I.length ci, .slice af F.length cf] 36)).alloc (.cells #[.int .i64 0, .int .i64 0, .int .i64 0, .slice none 0 0] 31)) = w1 at a0_1 a1_1 al_1 r0_1 rf0_1 r1_1 rf1_1 r2_1 rf2_1 r3_1 rf3_1 rl_1 c1 s1 ⊢
  have qa0_1 := cell_regrown a0_1
  have qa1_1 := cell_regrown a1_1
  have qr0_1 := cell_regrown r0_1
  have qr1_1 := cell_regrown r1_1
  have qr2_1 := cell_regrown r2_1
  have qr3_1 := cell_regrown r3_1
  clear qa0_1 qa1_1 qr0_1 qr1_1 qr2_1 qr3_1
  go_loopw [6] (fun i wr => ∃ k : Nat, k ≤ I.length ∧ i = .int .i64 k ∧ Hid (NoneK I key k) ∧ Below w1.heap.size w1 wr) (fun i _ => I.length - (intOf i).toNat)
  case atStart => exact ⟨0, Nat.zero_le _, rfl, hid (fun j hj => absurd hj (Nat.not_lt_zero j)), Below.refl _ _⟩
  case round =>
    obtain ⟨k, hk, rfl, hpre, hbel1⟩ := hrel
    have hbel := c1.trans (hbel1.mono c1.size)
    have x0 := (hbel1.cell (p := ⟨w.heap.size, 0, none⟩) al_1).trans a0_1
    have r0_2 := (hbel1.cell (p := ⟨w.heap.size + 1, 0, none⟩) rl_1).trans r0_1
    have rf0_2 := (hbel1.frozen (p := ⟨w.heap.size + 1, 0, none⟩) rl_1).trans rf0_1
    have r1_2 := (hbel1.cell (p := ⟨w.heap.size + 1, 1, none⟩) rl_1).trans r1_1
    have rf1_2 := (hbel1.frozen (p := ⟨w.heap.size + 1, 1, none⟩) rl_1).trans rf1_1
    have r2_2 := (hbel1.cell (p := ⟨w.heap.size + 1, 2, none⟩) rl_1).trans r2_1
    have rf2_2 := (hbel1.frozen (p := ⟨w.heap.size + 1, 2, none⟩) rl_1).trans rf2_1
    have r3_2 := (hbel1.cell (p := ⟨w.heap.size + 1, 3, none⟩) rl_1).trans r3_1
    have rf3_2 := (hbel1.frozen (p := ⟨w.heap.size + 1, 3, none⟩) rl_1).trans rf3_1
    have hsz1 := hbel1.size
    by_cases hlt : k < I.length
    · have hki : (k : Int) < (I.length : Int) := by omega
      obtain ⟨b, o, rfl, hb, hcc⟩ := HC.out (by omega)
      obtain ⟨p0, p1, p2, lx, ux, hx, e0, e1, e2, e3, hux⟩ := atK_3k ((hcc k hlt).later hb hbel)
      have HX := hid hx
      have HU := hid hux
      obtain ⟨uo, uc, rfl, _, _⟩ := hux
      clear hcc hx
      by_cases hkk : p0 = key
      · subst hkk
        have HF := hid (find_some hlt hpre.out (by rw [HX.out]; rfl))
        rw [HX.out] at HF
        have HLX : Hid (lx.length ≤ 1099511627776) := hid (by have := HL.out k hlt; rw [HX.out] at this; exact this)
        go_wp2_with fail
        refine (l5Copy_any _ _ _ _ lx _ HU.out HLX.out).mono ?_
        rintro e w5 ⟨⟨a, c, rfl, ho5⟩, b5⟩
        have r0_5 := (b5.cell (p := ⟨w.heap.size + 1, 0, none⟩) (by show w.heap.size + 1 < wr.heap.size; omega)).trans r0_2
        have rf0_5 := (b5.frozen (p := ⟨w.heap.size + 1, 0, none⟩) (by show w.heap.size + 1 < wr.heap.size; omega)).trans rf0_2
        have r1_5 := (b5.cell (p := ⟨w.heap.size + 1, 1, none⟩) (by show w.heap.size + 1 < wr.heap.size; omega)).trans r1_2
        have rf1_5 := (b5.frozen (p := ⟨w.heap.size + 1, 1, none⟩) (by show w.heap.size + 1 < wr.heap.size; omega)).trans rf1_2
        have r2_5 := (b5.cell (p := ⟨w.heap.size + 1, 2, none⟩) (by show w.heap.size + 1 < wr.heap.size; omega)).trans r2_2
        have rf2_5 := (b5.frozen (p := ⟨w.heap.size + 1, 2, none⟩) (by show w.heap.size + 1 < wr.heap.size; omega)).trans rf2_2
        have r3_5 := (b5.cell (p := ⟨w.heap.size + 1, 3, none⟩) (by show w.heap.size + 1 < wr.heap.size; omega)).trans r3_2
        have rf3_5 := (b5.frozen (p := ⟨w.heap.size + 1, 3, none⟩) (by show w.heap.size + 1 < wr.heap.size; omega)).trans rf3_2
        have HO5 := hid ho5
        have C5 := hid (hbel.trans (b5.mono hbel.size))
        clear b5 ho5 e0 e1 e2 e3
        go_wp2_with fail
        have e0 : ((((w5.setCell ⟨w.heap.size + 1, 0, none⟩ (.int .i64 p0)).setCell ⟨w.heap.size + 1, 1, none⟩ (.int .i64 p1)).setCell ⟨w.heap.size + 1, 2, none⟩ (.int .i64 p2)).setCell ⟨w.heap.size + 1, 3, none⟩ (.slice a lx.length c)).cell? ⟨w.heap.size + 1, 0, none⟩ = some (.int .i64 p0) := by go_cell
        have e1 : ((((w5.setCell ⟨w.heap.size + 1, 0, none⟩ (.int .i64 p0)).setCell ⟨w.heap.size + 1, 1, none⟩ (.int .i64 p1)).setCell ⟨w.heap.size + 1, 2, none⟩ (.int .i64 p2)).setCell ⟨w.heap.size + 1, 3, none⟩ (.slice a lx.length c)).cell? ⟨w.heap.size + 1, 1, none⟩ = some (.int .i64 p1) := by go_cell
        have e2 : ((((w5.setCell ⟨w.heap.size + 1, 0, none⟩ (.int .i64 p0)).setCell ⟨w.heap.size + 1, 1, none⟩ (.int .i64 p1)).setCell ⟨w.heap.size + 1, 2, none⟩ (.int .i64 p2)).setCell ⟨w.heap.size + 1, 3, none⟩ (.slice a lx.length c)).cell? ⟨w.heap.size + 1, 2, none⟩ = some (.int .i64 p2) := by go_cell
        have e3 : ((((w5.setCell ⟨w.heap.size + 1, 0, none⟩ (.int .i64 p0)).setCell ⟨w.heap.size + 1, 1, none⟩ (.int .i64 p1)).setCell ⟨w.heap.size + 1, 2, none⟩ (.int .i64 p2)).setCell ⟨w.heap.size + 1, 3, none⟩ (.slice a lx.length c)).cell? ⟨w.heap.size + 1, 3, none⟩ = some (.slice a lx.length c) := by go_cell
        have HFO := hid (Own.mono ((((HO5.out.apartSet (p := ⟨w.heap.size + 1, 0, none⟩) (by show w.heap.size + 1 < wr.heap.size; omega) (.int .i64 p0)).apartSet (p := ⟨w.heap.size + 1, 1, none⟩) (by show w.heap.size + 1 < wr.heap.size; omega) (.int .i64 p1)).apartSet (p := ⟨w.heap.size + 1, 2, none⟩) (by show w.heap.size + 1 < wr.heap.size; omega) (.int .i64 p2)).apartSet (p := ⟨w.heap.size + 1, 3, none⟩) (by show w.heap.size + 1 < wr.heap.size; omega) (.slice a lx.length c)) (B' := w.heap.size) (by omega))
        have HB := hid ((((C5.out.setCell (p := ⟨w.heap.size + 1, 0, none⟩) (by show w.heap.size ≤ w.heap.size + 1; omega) (.int .i64 p0)).setCell (p := ⟨w.heap.size + 1, 1, none⟩) (by show w.heap.size ≤ w.heap.size + 1; omega) (.int .i64 p1)).setCell (p := ⟨w.heap.size + 1, 2, none⟩) (by show w.heap.size ≤ w.heap.size + 1; omega) (.int .i64 p2)).setCell (p := ⟨w.heap.size + 1, 3, none⟩) (by show w.heap.size ≤ w.heap.size + 1; omega) (.slice a lx.length c))
        refine bodyPost_ret (v := .tuple #[.agg #[.int .i64 p0, .int .i64 p1, .int .i64 p2, .slice a lx.length c], .bool true]) ?_ rfl ⟨by rw [HF.out]; exact ⟨a, c, rfl, HFO.out⟩, HB.out⟩
        simp [results, Try.results28, go_sem, e0, e1, e2, e3]
      · have hne : (p0 == key) = false := by simpa using hkk
        have HN : Hid (NoneK I key (k + 1)) := hid (fun j hj => by
          by_cases e : j = k
          · rw [e, HX.out]; exact hkk
          · exact hpre.out j (by omega))
        go_wp2_with fail
        go_roundw
        case rel => exact ⟨k + 1, by omega, by go_num, HN, hbel1⟩
        case measure => simp [intOf]; omega
    · have hki : ¬ (k : Int) < (I.length : Int) := by omega
      have hkn : k = I.length := by omega
      subst hkn
      have HF := hid (find_none hpre.out)
      have HBEL := hid hbel
      go_wp2_with fail
      have e0 : ((((wr.setCell ⟨w.heap.size + 1, 0, none⟩ (.int .i64 0)).setCell ⟨w.heap.size + 1, 1, none⟩ (.int .i64 0)).setCell ⟨w.heap.size + 1, 2, none⟩ (.int .i64 0)).setCell ⟨w.heap.size + 1, 3, none⟩ (.slice none 0 0)).cell? ⟨w.heap.size + 1, 0, none⟩ = some (.int .i64 0) := by go_cell
      have e1 : ((((wr.setCell ⟨w.heap.size + 1, 0, none⟩ (.int .i64 0)).setCell ⟨w.heap.size + 1, 1, none⟩ (.int .i64 0)).setCell ⟨w.heap.size + 1, 2, none⟩ (.int .i64 0)).setCell ⟨w.heap.size + 1, 3, none⟩ (.slice none 0 0)).cell? ⟨w.heap.size + 1, 1, none⟩ = some (.int .i64 0) := by go_cell
      have e2 : ((((wr.setCell ⟨w.heap.size + 1, 0, none⟩ (.int .i64 0)).setCell ⟨w.heap.size + 1, 1, none⟩ (.int .i64 0)).setCell ⟨w.heap.size + 1, 2, none⟩ (.int .i64 0)).setCell ⟨w.heap.size + 1, 3, none⟩ (.slice none 0 0)).cell? ⟨w.heap.size + 1, 2, none⟩ = some (.int .i64 0) := by go_cell
      have e3 : ((((wr.setCell ⟨w.heap.size + 1, 0, none⟩ (.int .i64 0)).setCell ⟨w.heap.size + 1, 1, none⟩ (.int .i64 0)).setCell ⟨w.heap.size + 1, 2, none⟩ (.int .i64 0)).setCell ⟨w.heap.size + 1, 3, none⟩ (.slice none 0 0)).cell? ⟨w.heap.size + 1, 3, none⟩ = some (.slice none 0 0) := by go_cell
      refine bodyPost_ret (v := .tuple #[.agg #[.int .i64 0, .int .i64 0, .int .i64 0, .slice none 0 0], .bool false]) ?_ rfl ⟨by rw [HF.out]; exact ⟨none, 0, rfl, World.ownsRow_nil _ _ _ _⟩, ((((HBEL.out.setCell (p := ⟨w.heap.size + 1, 0, none⟩) (by show w.heap.size ≤ w.heap.size + 1; omega) (.int .i64 0)).setCell (p := ⟨w.heap.size + 1, 1, none⟩) (by show w.heap.size ≤ w.heap.size + 1; omega) (.int .i64 0)).setCell (p := ⟨w.heap.size + 1, 2, none⟩) (by show w.heap.size ≤ w.heap.size + 1; omega) (.int .i64 0)).setCell (p := ⟨w.heap.size + 1, 3, none⟩) (by show w.heap.size ≤ w.heap.size + 1; omega) (.slice none 0 0))⟩
      simp [results, Try.results28, go_sem, e0, e1, e2, e3]
set_option maxRecDepth 100000 in
set_option maxHeartbeats 4000000 in
theorem specGet_any (v0 v1 : Value) (I F : List KD) (key : Int) (w : World) (h0 : RdM 4 3 true w v0 I) (h1 : RdM 1 1 false w v1 F) {o : Option KD} (ho : ansG I F key = o) :
    Calls Try.prog 8 #[.agg #[v0, v1], .int .i64 key] w fun e w' => EndG w w' o e ∧ Below w.heap.size w w' := by
  have H0 := hid h0
  have H1 := hid h1
  obtain ⟨ai, ci, rfl, hq0, hq1⟩ := h0
  obtain ⟨af, cf, rfl, hq2, hq3⟩ := h1
  clear hq0 hq1 hq2 hq3
  have hco := fun (W : World) (a : RdM 4 3 true W (.slice ai I.length ci) I) (b : RdM 1 1 false W (.slice af F.length cf) F) => specCOk_any _ _ I F W a b
  cases hok : okC I F with
  | false =>
    rw [hok] at hco
    obtain rfl : o = none := by rw [← ho, ansG, hok]; rfl
    go_enter Try.func8, Try.ntmps8
    go_wp2_with fail
    have a0_1 : ((w.alloc (.cells #[.slice ai I.length ci, .slice af F.length cf] 36)).alloc (.cells #[.int .i64 0, .int .i64 0, .int .i64 0, .slice none 0 0] 31)).cell? ⟨w.heap.size, 0, none⟩ = some (.slice ai I.length ci) := by go_cell
    have a1_1 : ((w.alloc (.cells #[.slice ai I.length ci, .slice af F.length cf] 36)).alloc (.cells #[.int .i64 0, .int .i64 0, .int .i64 0, .slice none 0 0] 31)).cell? ⟨w.heap.size, 1, none⟩ = some (.slice af F.length cf) := by go_cell
    have al_1 : w.heap.size < ((w.alloc (.cells #[.slice ai I.length ci, .slice af F.length cf] 36)).alloc (.cells #[.int .i64 0, .int .i64 0, .int .i64 0, .slice none 0 0] 31)).heap.size := by first | (simp; done) | (simp; omega)
    have r0_1 : ((w.alloc (.cells #[.slice ai I.length ci, .slice af F.length cf] 36)).alloc (.cells #[.int .i64 0, .int .i64 0, .int .i64 0, .slice none 0 0] 31)).cell? ⟨w.heap.size + 1, 0, none⟩ = some (.int .i64 0) := by go_cell
    have rf0_1 : ((w.alloc (.cells #[.slice ai I.length ci, .slice af F.length cf] 36)).alloc (.cells #[.int .i64 0, .int .i64 0, .int .i64 0, .slice none 0 0] 31)).frozen? ⟨w.heap.size + 1, 0, none⟩ = false := by (first | go_cell | (simp [World.frozen?, World.alloc]; done) | rfl)
    have r1_1 : ((w.alloc (.cells #[.slice ai I.length ci, .slice af F.length cf] 36)).alloc (.cells #[.int .i64 0, .int .i64 0, .int .i64 0, .slice none 0 0] 31)).cell? ⟨w.heap.size + 1, 1, none⟩ = some (.int .i64 0) := by go_cell
    have rf1_1 : ((w.alloc (.cells #[.slice ai I.length ci, .slice af F.length cf] 36)).alloc (.cells #[.int .i64 0, .int .i64 0, .int .i64 0, .slice none 0 0] 31)).frozen? ⟨w.heap.size + 1, 1, none⟩ = false := by (first | go_cell | (simp [World.frozen?, World.alloc]; done) | rfl)
    have r2_1 : ((w.alloc (.cells #[.slice ai I.length ci, .slice af F.length cf] 36)).alloc (.cells #[.int .i64 0, .int .i64 0, .int .i64 0, .slice none 0 0] 31)).cell? ⟨w.heap.size + 1, 2, none⟩ = some (.int .i64 0) := by go_cell
    have rf2_1 : ((w.alloc (.cells #[.slice ai I.length ci, .slice af F.length cf] 36)).alloc (.cells #[.int .i64 0, .int .i64 0, .int .i64 0, .slice none 0 0] 31)).frozen? ⟨w.heap.size + 1, 2, none⟩ = false := by (first | go_cell | (simp [World.frozen?, World.alloc]; done) | rfl)
    have r3_1 : ((w.alloc (.cells #[.slice ai I.length ci, .slice af F.length cf] 36)).alloc (.cells #[.int .i64 0, .int .i64 0, .int .i64 0, .slice none 0 0] 31)).cell? ⟨w.heap.size + 1, 3, none⟩ = some (.slice none 0 0) := by go_cell
    have rf3_1 : ((w.alloc (.cells #[.slice ai I.length ci, .slice af F.length cf] 36)).alloc (.cells #[.int .i64 0, .int .i64 0, .int .i64 0, .slice none 0 0] 31)).frozen? ⟨w.heap.size + 1, 3, none⟩ = false := by (first | go_cell | (simp [World.frozen?, World.alloc]; done) | rfl)
    have rl_1 : w.heap.size + 1 < ((w.alloc (.cells #[.slice ai I.length ci, .slice af F.length cf] 36)).alloc (.cells #[.int .i64 0, .int .i64 0, .int .i64 0, .slice none 0 0] 31)).heap.size := by first | (simp; done) | (simp; omega)
    have c1 : Below w.heap.size w ((w.alloc (.cells #[.slice ai I.length ci, .slice af F.length cf] 36)).alloc (.cells #[.int .i64 0, .int .i64 0, .int .i64 0, .slice none 0 0] 31)) := by go_grown
    have s1 : ((w.alloc (.cells #[.slice ai I.length ci, .slice af F.length cf] 36)).alloc (.cells #[.int .i64 0, .int .i64 0, .int .i64 0, .slice none 0 0] 31)).heap.size = w.heap.size + 2 := by simp
    generalize ((w.alloc (.cells #[.slice ai I.length ci, .slice af F.length cf] 36)).alloc (.cells #[.int .i64 0, .int .i64 0, .int .i64 0, .slice none 0 0] 31)) = w1 at a0_1 a1_1 al_1 r0_1 rf0_1 r1_1 rf1_1 r2_1 rf2_1 r3_1 rf3_1 rl_1 c1 s1 ⊢
    have qa0_1 := cell_regrown a0_1
    have qa1_1 := cell_regrown a1_1
    have qr0_1 := cell_regrown r0_1
    have qr1_1 := cell_regrown r1_1
    have qr2_1 := cell_regrown r2_1
    have qr3_1 := cell_regrown r3_1
    clear qa0_1 qa1_1 qr0_1 qr1_1 qr2_1 qr3_1
    refine (hco _ (H0.out.later c1) (H1.out.later c1)).mono ?_
    rintro e w2 ⟨rfl, b2⟩
    have r0_2 := (b2.cell (p := ⟨w.heap.size + 1, 0, none⟩) rl_1).trans r0_1
    have rf0_2 := (b2.frozen (p := ⟨w.heap.size + 1, 0, none⟩) rl_1).trans rf0_1
    have r1_2 := (b2.cell (p := ⟨w.heap.size + 1, 1, none⟩) rl_1).trans r1_1
    have rf1_2 := (b2.frozen (p := ⟨w.heap.size + 1, 1, none⟩) rl_1).trans rf1_1
    have r2_2 := (b2.cell (p := ⟨w.heap.size + 1, 2, none⟩) rl_1).trans r2_1
    have rf2_2 := (b2.frozen (p := ⟨w.heap.size + 1, 2, none⟩) rl_1).trans rf2_1
    have r3_2 := (b2.cell (p := ⟨w.heap.size + 1, 3, none⟩) rl_1).trans r3_1
    have rf3_2 := (b2.frozen (p := ⟨w.heap.size + 1, 3, none⟩) rl_1).trans rf3_1
    have C2 := hid (c1.trans (b2.mono c1.size))
    clear b2 c1
    go_wp2_with fail
    have e0 : ((((w2.setCell ⟨w.heap.size + 1, 0, none⟩ (.int .i64 0)).setCell ⟨w.heap.size + 1, 1, none⟩ (.int .i64 0)).setCell ⟨w.heap.size + 1, 2, none⟩ (.int .i64 0)).setCell ⟨w.heap.size + 1, 3, none⟩ (.slice none 0 0)).cell? ⟨w.heap.size + 1, 0, none⟩ = some (.int .i64 0) := by go_cell
    have e1 : ((((w2.setCell ⟨w.heap.size + 1, 0, none⟩ (.int .i64 0)).setCell ⟨w.heap.size + 1, 1, none⟩ (.int .i64 0)).setCell ⟨w.heap.size + 1, 2, none⟩ (.int .i64 0)).setCell ⟨w.heap.size + 1, 3, none⟩ (.slice none 0 0)).cell? ⟨w.heap.size + 1, 1, none⟩ = some (.int .i64 0) := by go_cell
    have e2 : ((((w2.setCell ⟨w.heap.size + 1, 0, none⟩ (.int .i64 0)).setCell ⟨w.heap.size + 1, 1, none⟩ (.int .i64 0)).setCell ⟨w.heap.size + 1, 2, none⟩ (.int .i64 0)).setCell ⟨w.heap.size + 1, 3, none⟩ (.slice none 0 0)).cell? ⟨w.heap.size + 1, 2, none⟩ = some (.int .i64 0) := by go_cell
    have e3 : ((((w2.setCell ⟨w.heap.size + 1, 0, none⟩ (.int .i64 0)).setCell ⟨w.heap.size + 1, 1, none⟩ (.int .i64 0)).setCell ⟨w.heap.size + 1, 2, none⟩ (.int .i64 0)).setCell ⟨w.heap.size + 1, 3, none⟩ (.slice none 0 0)).cell? ⟨w.heap.size + 1, 3, none⟩ = some (.slice none 0 0) := by go_cell
    refine bodyPost_ret (v := .tuple #[.agg #[.int .i64 0, .int .i64 0, .int .i64 0, .slice none 0 0], .bool false]) ?_ rfl ⟨⟨none, 0, rfl, World.ownsRow_nil _ _ _ _⟩, ((((C2.out.setCell (p := ⟨w.heap.size + 1, 0, none⟩) (by show w.heap.size ≤ w.heap.size + 1; omega) (.int .i64 0)).setCell (p := ⟨w.heap.size + 1, 1, none⟩) (by show w.heap.size ≤ w.heap.size + 1; omega) (.int .i64 0)).setCell (p := ⟨w.heap.size + 1, 2, none⟩) (by show w.heap.size ≤ w.heap.size + 1; omega) (.int .i64 0)).setCell (p := ⟨w.heap.size + 1, 3, none⟩) (by show w.heap.size ≤ w.heap.size + 1; omega) (.slice none 0 0))⟩
    simp [results, Try.results8, go_sem, e0, e1, e2, e3]
  | true =>
    rw [hok] at hco
    have hfo : I.find? (fun x => keyK x == key) = o := by rw [← ho, ansG, hok, if_pos rfl]
    have HL : Hid (∀ i, i < I.length → (I.getD i kd0).2.length ≤ 1099511627776) := hid (fun i hi => by
      have := (okC_small hok).2 _ (List.getElem_mem hi)
      rw [getD_at hi]
      omega)
    go_enter Try.func8, Try.ntmps8
    go_wp2_with fail
    have a0_1 : ((w.alloc (.cells #[.slice ai I.length ci, .slice af F.length cf] 36)).alloc (.cells #[.int .i64 0, .int .i64 0, .int .i64 0, .slice none 0 0] 31)).cell? ⟨w.heap.size, 0, none⟩ = some (.slice ai I.length ci) := by go_cell
    have a1_1 : ((w.alloc (.cells #[.slice ai I.length ci, .slice af F.length cf] 36)).alloc (.cells #[.int .i64 0, .int .i64 0, .int .i64 0, .slice none 0 0] 31)).cell? ⟨w.heap.size, 1, none⟩ = some (.slice af F.length cf) := by go_cell
    have al_1 : w.heap.size < ((w.alloc (.cells #[.slice ai I.length ci, .slice af F.length cf] 36)).alloc (.cells #[.int .i64 0, .int .i64 0, .int .i64 0, .slice none 0 0] 31)).heap.size := by first | (simp; done) | (simp; omega)
    have r0_1 : ((w.alloc (.cells #[.slice ai I.length ci, .slice af F.length cf] 36)).alloc (.cells #[.int .i64 0, .int .i64 0, .int .i64 0, .slice none 0 0] 31)).cell? ⟨w.heap.size + 1, 0, none⟩ = some (.int .i64 0) := by go_cell
    have rf0_1 : ((w.alloc (.cells #[.slice ai I.length ci, .slice af F.length cf] 36)).alloc (.cells #[.int .i64 0, .int .i64 0, .int .i64 0, .slice none 0 0] 31)).frozen? ⟨w.heap.size + 1, 0, none⟩ = false := by (first | go_cell | (simp [World.frozen?, World.alloc]; done) | rfl)
    have r1_1 : ((w.alloc (.cells #[.slice ai I.length ci, .slice af F.length cf] 36)).alloc (.cells #[.int .i64 0, .int .i64 0, .int .i64 0, .slice none 0 0] 31)).cell? ⟨w.heap.size + 1, 1, none⟩ = some (.int .i64 0) := by go_cell
    have rf1_1 : ((w.alloc (.cells #[.slice ai I.length ci, .slice af F.length cf] 36)).alloc (.cells #[.int .i64 0, .int .i64 0, .int .i64 0, .slice none 0 0] 31)).frozen? ⟨w.heap.size + 1, 1, none⟩ = false := by (first | go_cell | (simp [World.frozen?, World.alloc]; done) | rfl)
    have r2_1 : ((w.alloc (.cells #[.slice ai I.length ci, .slice af F.length cf] 36)).alloc (.cells #[.int .i64 0, .int .i64 0, .int .i64 0, .slice none 0 0] 31)).cell? ⟨w.heap.size + 1, 2, none⟩ = some (.int .i64 0) := by go_cell
    have rf2_1 : ((w.alloc (.cells #[.slice ai I.length ci, .slice af F.length cf] 36)).alloc (.cells #[.int .i64 0, .int .i64 0, .int .i64 0, .slice none 0 0] 31)).frozen? ⟨w.heap.size + 1, 2, none⟩ = false := by (first | go_cell | (simp [World.frozen?, World.alloc]; done) | rfl)
    have r3_1 : ((w.alloc (.cells #[.slice ai I.length ci, .slice af F.length cf] 36)).alloc (.cells #[.int .i64 0, .int .i64 0, .int .i64 0, .slice none 0 0] 31)).cell? ⟨w.heap.size + 1, 3, none⟩ = some (.slice none 0 0) := by go_cell
    have rf3_1 : ((w.alloc (.cells #[.slice ai I.length ci, .slice af F.length cf] 36)).alloc (.cells #[.int .i64 0, .int .i64 0, .int .i64 0, .slice none 0 0] 31)).frozen? ⟨w.heap.size + 1, 3, none⟩ = false := by (first | go_cell | (simp [World.frozen?, World.alloc]; done) | rfl)
    have rl_1 : w.heap.size + 1 < ((w.alloc (.cells #[.slice ai I.length ci, .slice af F.length cf] 36)).alloc (.cells #[.int .i64 0, .int .i64 0, .int .i64 0, .slice none 0 0] 31)).heap.size := by first | (simp; done) | (simp; omega)
    have c1 : Below w.heap.size w ((w.alloc (.cells #[.slice ai I.length ci, .slice af F.length cf] 36)).alloc (.cells #[.int .i64 0, .int .i64 0, .int .i64 0, .slice none 0 0] 31)) := by go_grown
    have s1 : ((w.alloc (.cells #[.slice ai I.length ci, .slice af F.length cf] 36)).alloc (.cells #[.int .i64 0, .int .i64 0, .int .i64 0, .slice none 0 0] 31)).heap.size = w.heap.size + 2 := by simp
    generalize ((w.alloc (.cells #[.slice ai I.length ci, .slice af F.length cf] 36)).alloc (.cells #[.int .i64 0, .int .i64 0, .int .i64 0, .slice none 0 0] 31)) = w1 at a0_1 a1_1 al_1 r0_1 rf0_1 r1_1 rf1_1 r2_1 rf2_1 r3_1 rf3_1 rl_1 c1 s1 ⊢
    have qa0_1 := cell_regrown a0_1
    have qa1_1 := cell_regrown a1_1
    have qr0_1 := cell_regrown r0_1
    have qr1_1 := cell_regrown r1_1
    have qr2_1 := cell_regrown r2_1
    have qr3_1 := cell_regrown r3_1
    clear qa0_1 qa1_1 qr0_1 qr1_1 qr2_1 qr3_1
    refine (hco _ (H0.out.later c1) (H1.out.later c1)).mono ?_
    rintro e w2 ⟨rfl, b2⟩
    have a0_2 := (b2.cell (p := ⟨w.heap.size, 0, none⟩) al_1).trans a0_1
    have a1_2 := (b2.cell (p := ⟨w.heap.size, 1, none⟩) al_1).trans a1_1
    have r0_2 := (b2.cell (p := ⟨w.heap.size + 1, 0, none⟩) rl_1).trans r0_1
    have rf0_2 := (b2.frozen (p := ⟨w.heap.size + 1, 0, none⟩) rl_1).trans rf0_1
    have r1_2 := (b2.cell (p := ⟨w.heap.size + 1, 1, none⟩) rl_1).trans r1_1
    have rf1_2 := (b2.frozen (p := ⟨w.heap.size + 1, 1, none⟩) rl_1).trans rf1_1
    have r2_2 := (b2.cell (p := ⟨w.heap.size + 1, 2, none⟩) rl_1).trans r2_1
    have rf2_2 := (b2.frozen (p := ⟨w.heap.size + 1, 2, none⟩) rl_1).trans rf2_1
    have r3_2 := (b2.cell (p := ⟨w.heap.size + 1, 3, none⟩) rl_1).trans r3_1
    have rf3_2 := (b2.frozen (p := ⟨w.heap.size + 1, 3, none⟩) rl_1).trans rf3_1
    have C2 := hid (c1.trans (b2.mono c1.size))
    have rl_2 : w.heap.size + 1 < w2.heap.size := Nat.lt_of_lt_of_le rl_1 b2.size
    clear b2 c1
    go_wp2_with fail
    refine (l5Get_any _ _ I F key _ (H0.out.later C2.out) (H1.out.later C2.out) HL.out).mono ?_
    rw [hfo]
    rintro e w3 ⟨⟨a, c, rfl, ho3⟩, b3⟩
    have r0_3 := (b3.cell (p := ⟨w.heap.size + 1, 0, none⟩) rl_2).trans r0_2
    have rf0_3 := (b3.frozen (p := ⟨w.heap.size + 1, 0, none⟩) rl_2).trans rf0_2
    have r1_3 := (b3.cell (p := ⟨w.heap.size + 1, 1, none⟩) rl_2).trans r1_2
    have rf1_3 := (b3.frozen (p := ⟨w.heap.size + 1, 1, none⟩) rl_2).trans rf1_2
    have r2_3 := (b3.cell (p := ⟨w.heap.size + 1, 2, none⟩) rl_2).trans r2_2
    have rf2_3 := (b3.frozen (p := ⟨w.heap.size + 1, 2, none⟩) rl_2).trans rf2_2
    have r3_3 := (b3.cell (p := ⟨w.heap.size + 1, 3, none⟩) rl_2).trans r3_2
    have rf3_3 := (b3.frozen (p := ⟨w.heap.size + 1, 3, none⟩) rl_2).trans rf3_2
    have HO3 := hid ho3
    have C3 := hid (C2.out.trans (b3.mono C2.out.size))
    clear b3 ho3 hfo
    go_wp2_with fail
    have e0 : ((((w3.setCell ⟨w.heap.size + 1, 0, none⟩ (.int .i64 (gk o))).setCell ⟨w.heap.size + 1, 1, none⟩ (.int .i64 (gv o))).setCell ⟨w.heap.size + 1, 2, none⟩ (.int .i64 (gn o))).setCell ⟨w.heap.size + 1, 3, none⟩ (.slice a (gl o).length c)).cell? ⟨w.heap.size + 1, 0, none⟩ = some (.int .i64 (gk o)) := by go_cell
    have e1 : ((((w3.setCell ⟨w.heap.size + 1, 0, none⟩ (.int .i64 (gk o))).setCell ⟨w.heap.size + 1, 1, none⟩ (.int .i64 (gv o))).setCell ⟨w.heap.size + 1, 2, none⟩ (.int .i64 (gn o))).setCell ⟨w.heap.size + 1, 3, none⟩ (.slice a (gl o).length c)).cell? ⟨w.heap.size + 1, 1, none⟩ = some (.int .i64 (gv o)) := by go_cell
    have e2 : ((((w3.setCell ⟨w.heap.size + 1, 0, none⟩ (.int .i64 (gk o))).setCell ⟨w.heap.size + 1, 1, none⟩ (.int .i64 (gv o))).setCell ⟨w.heap.size + 1, 2, none⟩ (.int .i64 (gn o))).setCell ⟨w.heap.size + 1, 3, none⟩ (.slice a (gl o).length c)).cell? ⟨w.heap.size + 1, 2, none⟩ = some (.int .i64 (gn o)) := by go_cell
    have e3 : ((((w3.setCell ⟨w.heap.size + 1, 0, none⟩ (.int .i64 (gk o))).setCell ⟨w.heap.size + 1, 1, none⟩ (.int .i64 (gv o))).setCell ⟨w.heap.size + 1, 2, none⟩ (.int .i64 (gn o))).setCell ⟨w.heap.size + 1, 3, none⟩ (.slice a (gl o).length c)).cell? ⟨w.heap.size + 1, 3, none⟩ = some (.slice a (gl o).length c) := by go_cell
    have HFO := hid (Own.mono ((((HO3.out.apartSet (p := ⟨w.heap.size + 1, 0, none⟩) (by show w.heap.size + 1 < w2.heap.size; omega) (.int .i64 (gk o))).apartSet (p := ⟨w.heap.size + 1, 1, none⟩) (by show w.heap.size + 1 < w2.heap.size; omega) (.int .i64 (gv o))).apartSet (p := ⟨w.heap.size + 1, 2, none⟩) (by show w.heap.size + 1 < w2.heap.size; omega) (.int .i64 (gn o))).apartSet (p := ⟨w.heap.size + 1, 3, none⟩) (by show w.heap.size + 1 < w2.heap.size; omega) (.slice a (gl o).length c)) (B' := w.heap.size) (by omega))
    have HB := hid ((((C3.out.setCell (p := ⟨w.heap.size + 1, 0, none⟩) (by show w.heap.size ≤ w.heap.size + 1; omega) (.int .i64 (gk o))).setCell (p := ⟨w.heap.size + 1, 1, none⟩) (by show w.heap.size ≤ w.heap.size + 1; omega) (.int .i64 (gv o))).setCell (p := ⟨w.heap.size + 1, 2, none⟩) (by show w.heap.size ≤ w.heap.size + 1; omega) (.int .i64 (gn o))).setCell (p := ⟨w.heap.size + 1, 3, none⟩) (by show w.heap.size ≤ w.heap.size + 1; omega) (.slice a (gl o).length c))
    refine bodyPost_ret (v := .tuple #[.agg #[.int .i64 (gk o), .int .i64 (gv o), .int .i64 (gn o), .slice a (gl o).length c], .bool (gb o)]) ?_ rfl ⟨⟨a, c, rfl, HFO.out⟩, HB.out⟩
    simp [results, Try.results8, go_sem, e0, e1, e2, e3]
end Go.Proofs.Ytnenlnadmdlcfaa

/- Part: A copy of a cache, and one without an item, as the document has them: spec.l5Cache, spec.l5Drop: contracts. Written by a program (gspc.py). -/
namespace Go.Proofs.Ytnenlnadmdlcfaa
open Go.RowKit
attribute [local go_sem ↓] Go.wp_at_zero Go.wp_at_succ

/-- A call of a Go function, as one step of a region that draws its order and holds an append too. -/
theorem step_callK {P : Program} {ops : Array Oper} {o : Oper} {a : Act} {w : World} {K : Act → World → Prop} {Q : Exit → Act → World → Prop} {E : Prop} (hgd : o.guard = none) (f : FuncId) (x : Operand) (t : TypeId)
    (ho : o.op = .call { callee := .value (.func f), args := #[x], argTypes := #[t] }) (v : Value) (hx : a.eval x = v)
    (en : ∀ args w, (callFunc f args).run P w = .ok (.enter f args) w) (R : Ending → World → Prop) (hc : Calls P f #[v] w R)
    (h : ∀ e w', R e w' → ∃ v', e = .returned v' ∧ K (a.put o.dst v') w') :
    if Region.wanted o (yielded ops a.tmps) = true then Oper.wp P o a w K Q else E := by
  have hw : Region.wanted o (yielded ops a.tmps) = true := by simp [Region.wanted, hgd]
  rw [if_pos hw]
  have hf : a.eval (.func f) = .func (.func f) #[] #[] := rfl
  unfold Oper.wp
  simp [execOp, ho, resolve, invoke, hx, hf, Deferred.ofValue, en, Oper.upon]
  refine hc.mono fun e w' hR => ?_
  obtain ⟨v', rfl, hK⟩ := h e w' hR
  exact hK

/-- Items that read so, none of them in a block of G. -/
def RdK (G : Nat → Prop) (w : World) (v : Value) (L : List KD) : Prop :=
  ∃ (ao : Option Addr) (cap : Nat), v = .slice ao L.length cap ∧ L.length ≤ maxLen ∧ (0 < L.length → ∃ b off, ao = some ⟨b, off, none⟩ ∧ b < w.heap.size ∧ ¬ G b ∧ ∀ i, i < L.length →
    ∃ p0 p1 p2 l u, L.getD i kd0 = ([p0, p1, p2], l) ∧ w.cell? ⟨b, off + i * 4, none⟩ = some (.int .i64 p0) ∧ w.cell? ⟨b, off + i * 4 + 1, none⟩ = some (.int .i64 p1) ∧ w.cell? ⟨b, off + i * 4 + 2, none⟩ = some (.int .i64 p2) ∧
      w.cell? ⟨b, off + i * 4 + 3, none⟩ = some u ∧ Rd w u l ∧ (0 < l.length → ∀ q, u.ownBlock = some q → ¬ G q))
theorem RdK.rd {G : Nat → Prop} {w : World} {v : Value} {L : List KD} (h : RdK G w v L) : RdM 4 3 true w v L := by
  obtain ⟨ao, cap, rfl, hl, hc⟩ := h
  refine ⟨ao, cap, rfl, hl, fun h0 => ?_⟩
  obtain ⟨b, off, rfl, hb, _, hcc⟩ := hc h0
  refine ⟨b, off, rfl, hb, fun i hi => ?_⟩
  obtain ⟨p0, p1, p2, l, u, hx, c0, c1, c2, c3, hu, _⟩ := hcc i hi
  rw [hx]
  refine ⟨rfl, fun j hj => ?_, fun _ => ⟨u, c3, hu⟩, fun q => (by cases q)⟩
  match j, hj with
  | 0, _ => exact c0
  | 1, _ => exact c1
  | 2, _ => exact c2
theorem RdK.only {G : Nat → Prop} {w w' : World} {v : Value} {L : List KD} (h : RdK G w v L) (ho : Only G w w') : RdK G w' v L := by
  obtain ⟨ao, cap, rfl, hl, hc⟩ := h
  refine ⟨ao, cap, rfl, hl, fun h0 => ?_⟩
  obtain ⟨b, off, rfl, hb, hbg, hcc⟩ := hc h0
  have hB := ho.block b hb hbg
  refine ⟨b, off, rfl, Nat.lt_of_lt_of_le hb ho.size, hbg, fun i hi => ?_⟩
  obtain ⟨p0, p1, p2, l, u, hx, c0, c1, c2, c3, hu, hn⟩ := hcc i hi
  exact ⟨p0, p1, p2, l, u, hx, (World.cell?_of_block (a := ⟨b, _, none⟩) hB).trans c0, (World.cell?_of_block (a := ⟨b, _, none⟩) hB).trans c1, (World.cell?_of_block (a := ⟨b, _, none⟩) hB).trans c2, (World.cell?_of_block (a := ⟨b, _, none⟩) hB).trans c3, hu.only ho hn, hn⟩
theorem RdK.later {G : Nat → Prop} {w w' : World} {v : Value} {L : List KD} (h : RdK G w v L) (hb : Below w.heap.size w w') : RdK G w' v L := h.only (Only.later hb)
theorem RowA.off {w w' : World} {B : Nat} {v : Value} {L : List KD} {xs : List Value} {us : Nat → Value} (h : RowA w B v L xs us) (hs : ∀ q, B ≤ q → q < w.heap.size → w'.heap[q]? = w.heap[q]?) : RowA w' B v L xs us :=
  ⟨row_agree h.row fun q hq => hs q (h.row.lt q hq).1 (h.row.lt q hq).2, h.len, h.num, h.kin⟩
theorem KinO.off {w w' : World} {B : Nat} {L : List KD} {us : Nat → Value} (h : KinO w B L us) (hs : ∀ q, B ≤ q → q < w.heap.size → w'.heap[q]? = w.heap[q]?) : KinO w' B L us :=
  ⟨fun i hi => (h.own i hi).agree fun q hq => hs q ((h.own i hi).block q hq).1 ((h.own i hi).block q hq).2, h.dis⟩
theorem RowA.slice {w : World} {B : Nat} {v : Value} {L : List KD} {xs : List Value} {us : Nat → Value} (h : RowA w B v L xs us) : ∃ (so : Option Addr) (sc : Nat), v = .slice so L.length sc := by
  rcases h.row.2 with ⟨rfl, hn⟩ | ⟨b, cap, cur, rfl, _⟩
  · exact ⟨none, 0, by rw [hn]⟩
  · exact ⟨_, cap, rfl⟩
theorem RowA.rdK {G : Nat → Prop} {w : World} {B : Nat} {v : Value} {L : List KD} {xs : List Value} {us : Nat → Value} (h : RowA w B v L xs us) (hg : ∀ q, v.ownBlock = some q → ¬ G q)
    (hk : ∀ i, i < L.length → Rd w (us i) (L.getD i kd0).2 ∧ (0 < (L.getD i kd0).2.length → ∀ q, (us i).ownBlock = some q → ¬ G q)) : RdK G w v L := by
  have h0 := h.row
  rcases h.row.2 with ⟨rfl, hn⟩ | ⟨b, cap, cur, rfl, hb, hg2, hnc, hcm, hcs, htake⟩
  · have : L = [] := List.eq_nil_of_length_eq_zero hn
    subst this
    exact ⟨none, 0, rfl, Nat.zero_le _, fun q => absurd q (Nat.lt_irrefl 0)⟩
  · refine ⟨_, cap, rfl, Nat.le_trans hnc hcm, fun _ => ⟨b, 0, rfl, (Array.getElem?_eq_some_iff.1 hg2).1, hg b rfl, fun i hi => ?_⟩⟩
    obtain ⟨p0, p1, p2, l, hx⟩ := kd_3k (h.len i hi)
    have n0 := h.num i hi 0 (by omega)
    have n1 := h.num i hi 1 (by omega)
    have n2 := h.num i hi 2 (by omega)
    obtain ⟨k1, k2⟩ := hk i hi
    rw [hx] at n0 n1 n2 k1 k2
    rw [Nat.zero_add]
    exact ⟨p0, p1, p2, l, us i, hx, by rw [World.ownsRow.cellAt h0 _ (by omega)]; exact n0, by rw [World.ownsRow.cellAt h0 _ (by omega)]; exact n1, by rw [World.ownsRow.cellAt h0 _ (by omega)]; exact n2, by rw [World.ownsRow.cellAt h0 _ (by omega)]; exact h.kin i hi, k1, k2⟩
theorem rowF_rd {w : World} {B g c : Nat} {F : List KD} (h : w.ownsRow B 3 1 (.slice (some ⟨g, 0, none⟩) 24 c) 24 (floC F)) (hf : FloF F) : RdM 1 1 false w (.slice (some ⟨g, 0, none⟩) 24 c) F := by
  refine ⟨some ⟨g, 0, none⟩, c, by rw [hf.1], by rw [hf.1]; decide, fun _ => ⟨g, 0, rfl, (h.lt g rfl).2, fun i hi => ?_⟩⟩
  have hi' : i < 24 := by rw [← hf.1]; exact hi
  obtain ⟨n, hn⟩ := hf.2 i hi'
  have hc := World.ownsRow.cellAt h i (by omega)
  rw [floC_get hi] at hc
  unfold flr at hc
  rw [hn] at hc ⊢
  refine ⟨rfl, fun j hj => ?_, fun q => (by cases q), fun _ => rfl⟩
  obtain rfl : j = 0 := by omega
  simpa using hc
theorem take_one {I : List KD} {k : Nat} (h : k < I.length) : I.take (k + 1) = I.take k ++ [I.getD k kd0] := by
  rw [List.take_add_one, List.getElem?_eq_getElem h, getD_at h]
  rfl
theorem len_take {I : List KD} {k : Nat} (h : k ≤ I.length) : (I.take k).length = k := by rw [List.length_take]; omega
theorem Try.infoW_int : (Try.prog.info? 3).map (fun i => (i.zero, i.size, i.bytes)) = some (some (.int .i64 0), 1, 8) := by kernel_rfl
/-- A copy: floors that may be written, items apart from them. -/
def EndL (w w' : World) (I F : List KD) (e : Ending) : Prop :=
  ∃ v g c N, e = .returned (.agg #[v, .slice (some ⟨g, 0, none⟩) 24 c]) ∧ w.heap.size ≤ g ∧ g < N ∧ N ≤ w'.heap.size ∧ w'.ownsRow w.heap.size 3 1 (.slice (some ⟨g, 0, none⟩) 24 c) 24 (floC F) ∧ RdK (fun q => q < N) w' v I

set_option maxRecDepth 100000 in
set_option maxHeartbeats 4000000 in
theorem l5Drop_any (G : Nat → Prop) (v0 : Value) (fo : Option Addr) (fn fc : Nat) (I : List KD) (key : Int) (w : World) (h : RdK G w v0 I) (hg : ∀ q, w.heap.size ≤ q → ¬ G q) (h4 : I.length ≤ 1000) :
    Calls Try.prog 41 #[.agg #[v0, .slice fo fn fc], .int .i64 key] w fun e w' => (∃ v, e = .returned (.agg #[v, .slice fo fn fc]) ∧ RdK G w' v (dropI key I)) ∧ Below w.heap.size w w' := by
  obtain ⟨i0, hi, hz0, hz1, hz2⟩ := info_parts Try.infoItem_K
  obtain ⟨ao, cap, rfl, hml, hc⟩ := h
  clear hml
  go_enter Try.func41, Try.ntmps41
  go_wp2_with fail
  have a0_1 : ((w.alloc (.cells #[.slice ao I.length cap, .slice fo fn fc] 36)).alloc (.cells #[.slice none 0 0, .slice none 0 0] 36)).cell? ⟨w.heap.size, 0, none⟩ = some (.slice ao I.length cap) := by go_cell
  have af0_1 : ((w.alloc (.cells #[.slice ao I.length cap, .slice fo fn fc] 36)).alloc (.cells #[.slice none 0 0, .slice none 0 0] 36)).frozen? ⟨w.heap.size, 0, none⟩ = false := by (first | go_cell | (simp [World.frozen?, World.alloc]; done) | rfl)
  have a1_1 : ((w.alloc (.cells #[.slice ao I.length cap, .slice fo fn fc] 36)).alloc (.cells #[.slice none 0 0, .slice none 0 0] 36)).cell? ⟨w.heap.size, 1, none⟩ = some (.slice fo fn fc) := by go_cell
  have af1_1 : ((w.alloc (.cells #[.slice ao I.length cap, .slice fo fn fc] 36)).alloc (.cells #[.slice none 0 0, .slice none 0 0] 36)).frozen? ⟨w.heap.size, 1, none⟩ = false := by (first | go_cell | (simp [World.frozen?, World.alloc]; done) | rfl)
  have al_1 : w.heap.size < ((w.alloc (.cells #[.slice ao I.length cap, .slice fo fn fc] 36)).alloc (.cells #[.slice none 0 0, .slice none 0 0] 36)).heap.size := by first | (simp; done) | (simp; omega)
  have r0_1 : ((w.alloc (.cells #[.slice ao I.length cap, .slice fo fn fc] 36)).alloc (.cells #[.slice none 0 0, .slice none 0 0] 36)).cell? ⟨w.heap.size + 1, 0, none⟩ = some (.slice none 0 0) := by go_cell
  have rf0_1 : ((w.alloc (.cells #[.slice ao I.length cap, .slice fo fn fc] 36)).alloc (.cells #[.slice none 0 0, .slice none 0 0] 36)).frozen? ⟨w.heap.size + 1, 0, none⟩ = false := by (first | go_cell | (simp [World.frozen?, World.alloc]; done) | rfl)
  have r1_1 : ((w.alloc (.cells #[.slice ao I.length cap, .slice fo fn fc] 36)).alloc (.cells #[.slice none 0 0, .slice none 0 0] 36)).cell? ⟨w.heap.size + 1, 1, none⟩ = some (.slice none 0 0) := by go_cell
  have rf1_1 : ((w.alloc (.cells #[.slice ao I.length cap, .slice fo fn fc] 36)).alloc (.cells #[.slice none 0 0, .slice none 0 0] 36)).frozen? ⟨w.heap.size + 1, 1, none⟩ = false := by (first | go_cell | (simp [World.frozen?, World.alloc]; done) | rfl)
  have rl_1 : w.heap.size + 1 < ((w.alloc (.cells #[.slice ao I.length cap, .slice fo fn fc] 36)).alloc (.cells #[.slice none 0 0, .slice none 0 0] 36)).heap.size := by first | (simp; done) | (simp; omega)
  have c1 : Below w.heap.size w ((w.alloc (.cells #[.slice ao I.length cap, .slice fo fn fc] 36)).alloc (.cells #[.slice none 0 0, .slice none 0 0] 36)) := by go_grown
  have s1 : ((w.alloc (.cells #[.slice ao I.length cap, .slice fo fn fc] 36)).alloc (.cells #[.slice none 0 0, .slice none 0 0] 36)).heap.size = w.heap.size + 2 := by simp
  generalize ((w.alloc (.cells #[.slice ao I.length cap, .slice fo fn fc] 36)).alloc (.cells #[.slice none 0 0, .slice none 0 0] 36)) = w1 at a0_1 af0_1 a1_1 af1_1 al_1 r0_1 rf0_1 r1_1 rf1_1 rl_1 c1 s1 ⊢
  have qa0_1 := cell_regrown a0_1
  have qa1_1 := cell_regrown a1_1
  have qr0_1 := cell_regrown r0_1
  have qr1_1 := cell_regrown r1_1
  clear qa0_1 qa1_1 qr0_1 qr1_1
  have S1 := hid s1
  clear s1
  have HR0 := hid (World.ownsRow_lit (e := 31) (size := 4) w1 #[] 0 (Nat.le_refl _) (Nat.zero_le _) rfl)
  have HRA : Hid (RowA (w1.alloc (.cells #[] 31)) w1.heap.size (.slice (some ⟨w.heap.size + 1 + 1, 0, none⟩) 0 0) (dropI key (I.take 0)) [] (fun _ => .bool false)) := hid ⟨by rw [show w.heap.size + 1 + 1 = w1.heap.size from by have := S1.out; omega]; exact HR0.out, fun _ h => absurd h (Nat.not_lt_zero _), fun _ h => absurd h (Nat.not_lt_zero _), fun _ h => absurd h (Nat.not_lt_zero _)⟩
  have hb01 : Below w1.heap.size w1 (w1.alloc (.cells #[] 31)) := by go_grown
  go_loopw [5, 6] (fun s i wr => ∃ (k : Nat) (xs : List Value) (us : Nat → Value), k ≤ I.length ∧ i = .int .i64 k ∧ Hid (RowA wr w1.heap.size s (dropI key (I.take k)) xs us) ∧ Hid (∀ t, t < (dropI key (I.take k)).length → Rd w (us t) ((dropI key (I.take k)).getD t kd0).2 ∧ (0 < ((dropI key (I.take k)).getD t kd0).2.length → ∀ q, (us t).ownBlock = some q → ¬ G q)) ∧ Below w1.heap.size w1 wr) (fun _ i _ => I.length - (intOf i).toNat)
  case atStart => exact ⟨0, [], _, Nat.zero_le _, rfl, HRA, hid (fun t ht => absurd ht (Nat.not_lt_zero _)), hb01⟩
  case round =>
    clear HRA HR0 hb01
    obtain ⟨k, xs, us, hk, rfl, hrow, hkin, hbel⟩ := hrel
    have a0 := (hbel.cell (p := ⟨w.heap.size, 0, none⟩) al_1).trans a0_1
    by_cases hlt : k < I.length
    · obtain ⟨b, o, rfl, hb, hbg, hcc⟩ := hc (by omega)
      obtain ⟨p0, p1, p2, l, u, hx, k0, k1, k2, k3, hu, hun⟩ := hcc k hlt
      have cw := c1.trans (hbel.mono c1.size)
      rw [← cw.cell (p := ⟨b, _, none⟩) hb] at k0 k1 k2 k3
      have hbz : b < wr.heap.size := by have := cw.size; omega
      obtain ⟨uo, uc, rfl, _⟩ := id hu
      have HU := hid hu
      have HUN := hid hun
      have ht := take_one (I := I) hlt
      rw [hx] at ht
      have hki : (k : Int) < (I.length : Int) := by omega
      have HT := hid ht
      have hLk : (dropI key (I.take k)).length ≤ 1000 := by
        have := List.length_filter_le (fun x => !isKey key x) (I.take k)
        rw [len_take hk] at this
        unfold dropI
        omega
      clear hu hun hx ht hcc
      by_cases hkk : p0 = key
      · have hne : (p0 != key) = false := by simp [hkk]
        have HD : Hid (dropI key (I.take (k + 1)) = dropI key (I.take k)) := hid (by rw [HT.out, dropI, List.filter_append, List.filter_cons_of_neg (by simp [isKey, keyK, hkk])]; simp [dropI])
        go_wp2_with fail
        go_roundw
        case rel => exact ⟨k + 1, xs, us, by omega, by go_num, by rw [HD.out]; exact hrow, by rw [HD.out]; exact hkin, hbel⟩
        case measure => simp [intOf]; omega
      · have hne : (p0 != key) = true := by simp [hkk]
        have HD : Hid (dropI key (I.take (k + 1)) = dropI key (I.take k) ++ [([p0, p1, p2], l)]) := hid (by rw [HT.out, dropI, List.filter_append, List.filter_cons_of_pos (by simp [isKey, keyK, hkk])]; simp [dropI])
        have hk1 : (dropI key (I.take k)).length + 1 ≤ maxLen := by unfold maxLen; omega
        have hk2 : ((dropI key (I.take k)).length + 1) * 48 ≤ 140737488355328 := by omega
        have HNW := hid (four_new wr p0 p1 p2 (.slice uo l.length uc))
        have B6 : Hid (Below wr.heap.size wr (wr.alloc (.cells #[.int .i64 p0, .int .i64 p1, .int .i64 p2, .slice uo l.length uc] 31))) := hid (by go_grown)
        have hW6 := hid (hrow.out.later B6.out)
        have hbs : w1.heap.size ≤ (wr.alloc (.cells #[.int .i64 p0, .int .i64 p1, .int .i64 p2, .slice uo l.length uc] 31)).heap.size := by have := B6.out.size; have := hbel.size; omega
        have HB := hid hbel
        clear hrow hbel
        go_wp2_with (first | (at_builtin; refine wpList_append_own _ rfl _ _ 34 rfl w1.heap.size 31 i0 (.agg #[.int .i64 0, .int .i64 0, .int .i64 0, .slice none 0 0]) 4 48 Try.underlying34 hi hz0 hz1 hz2 rfl (by decide) _ _ _ rfl hW6.out.row ⟨wr.heap.size, 0, none⟩ 1 1 [.int .i64 p0, .int .i64 p1, .int .i64 p2, .slice uo l.length uc] rfl rfl HNW.out (by simp [Value.oneCell']) hk1 hk2 hbs ?_; intro v7 w7 hown7 hgr7 _; obtain ⟨g7, c7, hv7⟩ := ownsRow_succ hown7; subst hv7))
        have hR8 := hid (hW6.out.add (l := l) hown7)
        have hb8 : Below w1.heap.size w1 w7 := (HB.out.trans (B6.out.mono HB.out.size)).grown hgr7 (by have := HB.out.size; have := B6.out.size; omega) (fun j ej => (hW6.out.row.lt j ej).1)
        rw [← HD.out] at hR8
        have HK8 : Hid (∀ t, t < (dropI key (I.take (k + 1))).length → Rd w (if t = (dropI key (I.take k)).length then (.slice uo l.length uc) else us t) ((dropI key (I.take (k + 1))).getD t kd0).2 ∧ (0 < ((dropI key (I.take (k + 1))).getD t kd0).2.length → ∀ q, (if t = (dropI key (I.take k)).length then (.slice uo l.length uc) else us t : Value).ownBlock = some q → ¬ G q)) := hid (fun t ht => by
          rw [HD.out] at ht ⊢
          rw [List.length_append, List.length_singleton] at ht
          by_cases e : t = (dropI key (I.take k)).length
          · rw [if_pos e, e, getD_last]
            exact ⟨HU.out, HUN.out⟩
          · rw [if_neg e, getD_init _ (by omega)]
            exact hkin.out t (by omega))
        clear hown7 hgr7 hkin
        go_roundw
        case rel => exact ⟨k + 1, _, _, by omega, by go_num, hR8, HK8, hb8⟩
        case measure => simp [intOf]; omega
    · obtain rfl : k = I.length := by omega
      rw [List.take_length] at hrow hkin
      have HRK : Hid (RdK G wr _ (dropI key I)) := hid (hrow.out.rdK (fun q hq => hg q (by have := (hrow.out.row.lt q hq).1; have := c1.size; omega)) (fun t ht => ⟨(hkin.out t ht).1.later (c1.trans (hbel.mono c1.size)), (hkin.out t ht).2⟩))
      obtain ⟨so, sc, hs, _⟩ := HRK.out
      subst hs
      have a1 := (hbel.cell (p := ⟨w.heap.size, 1, none⟩) al_1).trans a1_1
      have af0 := (hbel.frozen (p := ⟨w.heap.size, 0, none⟩) al_1).trans af0_1
      have r0 := (hbel.cell (p := ⟨w.heap.size + 1, 0, none⟩) rl_1).trans r0_1
      have r1 := (hbel.cell (p := ⟨w.heap.size + 1, 1, none⟩) rl_1).trans r1_1
      have rf0 := (hbel.frozen (p := ⟨w.heap.size + 1, 0, none⟩) rl_1).trans rf0_1
      have rf1 := (hbel.frozen (p := ⟨w.heap.size + 1, 1, none⟩) rl_1).trans rf1_1
      have CW := hid (c1.trans (hbel.mono c1.size))
      have hz := hbel.size
      clear a0_1 a1_1 r0_1 r1_1 af0_1 af1_1 rf0_1 rf1_1 hc
      go_wp2_with fail
      have O9 : Below w.heap.size w (((wr.setCell ⟨w.heap.size, 0, none⟩ (.slice so (dropI key I).length sc)).setCell ⟨w.heap.size + 1, 0, none⟩ (.slice so (dropI key I).length sc)).setCell ⟨w.heap.size + 1, 1, none⟩ (.slice fo fn fc)) := ((CW.out.setCell (p := ⟨w.heap.size, 0, none⟩) (Nat.le_refl _) _).setCell (p := ⟨w.heap.size + 1, 0, none⟩) (by show w.heap.size ≤ w.heap.size + 1; omega) _).setCell (p := ⟨w.heap.size + 1, 1, none⟩) (by show w.heap.size ≤ w.heap.size + 1; omega) _
      have R9 := (hrow.out.off (w' := (((wr.setCell ⟨w.heap.size, 0, none⟩ (.slice so (dropI key I).length sc)).setCell ⟨w.heap.size + 1, 0, none⟩ (.slice so (dropI key I).length sc)).setCell ⟨w.heap.size + 1, 1, none⟩ (.slice fo fn fc))) (fun q h1 _ => by
        have hz1 := S1.out
        exact ((Below.heap_setCell _ _ _ _ (by show q ≠ w.heap.size + 1; omega)).trans (Below.heap_setCell _ _ _ _ (by show q ≠ w.heap.size + 1; omega))).trans (Below.heap_setCell _ _ _ _ (by show q ≠ w.heap.size; omega)))).rdK (G := G) (fun q hq => hg q (by have := (hrow.out.row.lt q hq).1; have := S1.out; omega)) (fun t ht => ⟨(hkin.out t ht).1.later O9, (hkin.out t ht).2⟩)
      have e0 : (((wr.setCell ⟨w.heap.size, 0, none⟩ (.slice so (dropI key I).length sc)).setCell ⟨w.heap.size + 1, 0, none⟩ (.slice so (dropI key I).length sc)).setCell ⟨w.heap.size + 1, 1, none⟩ (.slice fo fn fc)).cell? ⟨w.heap.size + 1, 0, none⟩ = some (.slice so (dropI key I).length sc) := by go_cell
      have e1 : (((wr.setCell ⟨w.heap.size, 0, none⟩ (.slice so (dropI key I).length sc)).setCell ⟨w.heap.size + 1, 0, none⟩ (.slice so (dropI key I).length sc)).setCell ⟨w.heap.size + 1, 1, none⟩ (.slice fo fn fc)).cell? ⟨w.heap.size + 1, 1, none⟩ = some (.slice fo fn fc) := by go_cell
      exact bodyPost_ret (v := .agg #[.slice so (dropI key I).length sc, .slice fo fn fc]) (by simp [results, Try.results41, go_sem, e0, e1]) rfl ⟨⟨_, rfl, R9⟩, O9⟩

set_option maxRecDepth 100000 in
set_option maxHeartbeats 8000000 in
theorem l5Cache_any (v0 v1 : Value) (I F : List KD) (w : World) (h0 : RdM 4 3 true w v0 I) (h1 : RdM 1 1 false w v1 F) (hF : FloF F) (h4 : I.length ≤ 4) (h8 : ∀ x ∈ I, x.2.length ≤ 8) :
    Calls Try.prog 42 #[.agg #[v0, v1]] w fun e w' => EndL w w' I F e ∧ Below w.heap.size w w' := by
  obtain ⟨i0, hi, hz0, hz1, hz2⟩ := info_parts Try.infoItem_K
  obtain ⟨n0, gi, gz0, gz1, gz2⟩ := info_parts Try.infoW_int
  have HRF : Hid (∀ j u, (floC F)[j]? = some u → ∃ b o c, v1 = .slice (some ⟨b, o, none⟩) F.length c ∧ b < w.heap.size ∧ w.cell? ⟨b, o + j, none⟩ = some u) := hid (fun j u hj => by
    obtain ⟨ao, c, hv, _, hc⟩ := h1
    obtain ⟨b, o, rfl, hb, hcc⟩ := hc (by rw [hF.1]; omega)
    refine ⟨b, o, c, hv, hb, ?_⟩
    have hjl : j < F.length := by have := (List.getElem?_eq_some_iff.1 hj).1; rwa [floC_length] at this
    obtain ⟨a, ha, hca⟩ := atK_1n (hcc j hjl)
    rw [Nat.mul_one] at hca
    rw [hca, ← hj, floC_get hjl, flr, ha]
    rfl)
  obtain ⟨ao1, cf, rfl, _, hc1⟩ := h1
  obtain ⟨bf, of', rfl, hbf, _⟩ := hc1 (by rw [hF.1]; omega)
  have HFN : Hid (∀ j u, (floC F)[j]? = some u → w.cell? (((⟨bf, of', none⟩ : Addr)).add j) = some u) := hid (fun j u hj => by
    obtain ⟨b, o, c, hv, _, hcl⟩ := HRF.out j u hj
    injection hv with hv1 _ _
    injection hv1 with hv2
    injection hv2 with hb ho _
    have e : (⟨bf, of', none⟩ : Addr).add j = ⟨bf, of' + j, none⟩ := by cases j <;> simp [Addr.add]
    rw [e, hb, ho]
    exact hcl)
  rw [hF.1]
  have HF := hid hF
  obtain ⟨ao, cap, rfl, _, hc⟩ := h0
  have H8 := hid h8
  have H4 := hid h4
  clear HRF hc1 h8 hF h4
  have HLEN : Hid ((floC F).length = 24 * 1) := hid (by rw [floC_length, HF.out.1])
  go_enter Try.func42, Try.ntmps42
  go_upto_region 1 with fail
  have a0_1 : ((w.alloc (.cells #[.slice ao I.length cap, .slice (some ⟨bf, of', none⟩) 24 cf] 36)).alloc (.cells #[.slice none 0 0, .slice none 0 0] 36)).cell? ⟨w.heap.size, 0, none⟩ = some (.slice ao I.length cap) := by go_cell
  have a1_1 : ((w.alloc (.cells #[.slice ao I.length cap, .slice (some ⟨bf, of', none⟩) 24 cf] 36)).alloc (.cells #[.slice none 0 0, .slice none 0 0] 36)).cell? ⟨w.heap.size, 1, none⟩ = some (.slice (some ⟨bf, of', none⟩) 24 cf) := by go_cell
  have al_1 : w.heap.size < ((w.alloc (.cells #[.slice ao I.length cap, .slice (some ⟨bf, of', none⟩) 24 cf] 36)).alloc (.cells #[.slice none 0 0, .slice none 0 0] 36)).heap.size := by first | (simp; done) | (simp; omega)
  have r0_1 : ((w.alloc (.cells #[.slice ao I.length cap, .slice (some ⟨bf, of', none⟩) 24 cf] 36)).alloc (.cells #[.slice none 0 0, .slice none 0 0] 36)).cell? ⟨w.heap.size + 1, 0, none⟩ = some (.slice none 0 0) := by go_cell
  have rf0_1 : ((w.alloc (.cells #[.slice ao I.length cap, .slice (some ⟨bf, of', none⟩) 24 cf] 36)).alloc (.cells #[.slice none 0 0, .slice none 0 0] 36)).frozen? ⟨w.heap.size + 1, 0, none⟩ = false := by (first | go_cell | (simp [World.frozen?, World.alloc]; done) | rfl)
  have r1_1 : ((w.alloc (.cells #[.slice ao I.length cap, .slice (some ⟨bf, of', none⟩) 24 cf] 36)).alloc (.cells #[.slice none 0 0, .slice none 0 0] 36)).cell? ⟨w.heap.size + 1, 1, none⟩ = some (.slice none 0 0) := by go_cell
  have rf1_1 : ((w.alloc (.cells #[.slice ao I.length cap, .slice (some ⟨bf, of', none⟩) 24 cf] 36)).alloc (.cells #[.slice none 0 0, .slice none 0 0] 36)).frozen? ⟨w.heap.size + 1, 1, none⟩ = false := by (first | go_cell | (simp [World.frozen?, World.alloc]; done) | rfl)
  have rl_1 : w.heap.size + 1 < ((w.alloc (.cells #[.slice ao I.length cap, .slice (some ⟨bf, of', none⟩) 24 cf] 36)).alloc (.cells #[.slice none 0 0, .slice none 0 0] 36)).heap.size := by first | (simp; done) | (simp; omega)
  have c1 : Below w.heap.size w ((w.alloc (.cells #[.slice ao I.length cap, .slice (some ⟨bf, of', none⟩) 24 cf] 36)).alloc (.cells #[.slice none 0 0, .slice none 0 0] 36)) := by go_grown
  have s1 : ((w.alloc (.cells #[.slice ao I.length cap, .slice (some ⟨bf, of', none⟩) 24 cf] 36)).alloc (.cells #[.slice none 0 0, .slice none 0 0] 36)).heap.size = w.heap.size + 2 := by simp
  generalize ((w.alloc (.cells #[.slice ao I.length cap, .slice (some ⟨bf, of', none⟩) 24 cf] 36)).alloc (.cells #[.slice none 0 0, .slice none 0 0] 36)) = w1 at a0_1 a1_1 al_1 r0_1 rf0_1 r1_1 rf1_1 rl_1 c1 s1 ⊢
  have qa0_1 := cell_regrown a0_1
  have qa1_1 := cell_regrown a1_1
  have qr0_1 := cell_regrown r0_1
  have qr1_1 := cell_regrown r1_1
  clear qa0_1 qa1_1 qr0_1 qr1_1
  have S1 := hid s1
  clear s1
  have HR0 := hid (World.ownsRow_lit (e := 3) (size := 1) w1 #[] 0 (Nat.le_refl _) (Nat.zero_le _) rfl)
  have HFN1 := hid (fun j u hj => (show Below w.heap.size w (w1.alloc (.cells #[] 3)) from c1.trans ((show Below w1.heap.size w1 (w1.alloc (.cells #[] 3)) by go_grown).mono c1.size)).cell (p := (⟨bf, of', none⟩ : Addr).add j) (by cases j <;> exact hbf) |>.trans (HFN.out j u hj))
  have hbs : w1.heap.size ≤ (w1.alloc (.cells #[] 3)).heap.size := by simp
  have hk1 : 0 + 24 ≤ maxLen := by decide
  go_wp2_with (first | (at_builtin; refine wpList_append_own _ rfl _ _ 23 rfl w1.heap.size 3 n0 (.int .i64 0) 1 8 Try.underlying23 gi gz0 gz1 gz2 rfl (by decide) _ _ _ rfl HR0.out ⟨bf, of', none⟩ 24 cf (floC F) rfl HLEN.out HFN1.out (floC_one F) hk1 (by decide) hbs ?_; intro v2 w2 hown2 hgr2 _; simp only [Nat.zero_add, List.nil_append] at hown2; obtain ⟨g, cg, hv2⟩ := ownsRow_succ hown2; subst hv2; have HOW2 := hid hown2; have b2 : Below w1.heap.size w1 w2 := (((Below.refl _ w1).alloc (Nat.le_refl _) _).grown hgr2 hbs (fun j ej => (HR0.out.lt j ej).1)); have c2 : Below w.heap.size w w2 := c1.trans (b2.mono c1.size); have a0_2 := (b2.cell (p := ⟨w.heap.size, 0, none⟩) al_1).trans a0_1; have a1_2 := (b2.cell (p := ⟨w.heap.size, 1, none⟩) al_1).trans a1_1; have r0_2 := (b2.cell (p := ⟨w.heap.size + 1, 0, none⟩) rl_1).trans r0_1; have r1_2 := (b2.cell (p := ⟨w.heap.size + 1, 1, none⟩) rl_1).trans r1_1; have rf0_2 := (b2.frozen (p := ⟨w.heap.size + 1, 0, none⟩) rl_1).trans rf0_1; have rf1_2 := (b2.frozen (p := ⟨w.heap.size + 1, 1, none⟩) rl_1).trans rf1_1; have al_2 : w.heap.size < w2.heap.size := Nat.lt_of_lt_of_le al_1 b2.size; have rl_2 : w.heap.size + 1 < w2.heap.size := Nat.lt_of_lt_of_le rl_1 b2.size; clear hown2 hgr2 a0_1 a1_1 r0_1 r1_1 rf0_1 rf1_1 b2))
  have HG2 := hid (HOW2.out.lt g rfl)
  have al2 : w.heap.size < w2.heap.size := al_2
  have rl2 : w.heap.size + 1 < w2.heap.size := rl_2
  have cz1 : w.heap.size ≤ w1.heap.size := c1.size
  have o0_3 : (w2.alloc (.cells #[.slice none 0 0, .slice (some ⟨g, 0, none⟩) 24 cg] 36)).cell? ⟨w2.heap.size, 0, none⟩ = some (.slice none 0 0) := by go_cell
  have of0_3 : (w2.alloc (.cells #[.slice none 0 0, .slice (some ⟨g, 0, none⟩) 24 cg] 36)).frozen? ⟨w2.heap.size, 0, none⟩ = false := by (first | go_cell | (simp [World.frozen?, World.alloc]; done) | rfl)
  have o1_3 : (w2.alloc (.cells #[.slice none 0 0, .slice (some ⟨g, 0, none⟩) 24 cg] 36)).cell? ⟨w2.heap.size, 1, none⟩ = some (.slice (some ⟨g, 0, none⟩) 24 cg) := by go_cell
  have of1_3 : (w2.alloc (.cells #[.slice none 0 0, .slice (some ⟨g, 0, none⟩) 24 cg] 36)).frozen? ⟨w2.heap.size, 1, none⟩ = false := by (first | go_cell | (simp [World.frozen?, World.alloc]; done) | rfl)
  have ol_3 : w2.heap.size < (w2.alloc (.cells #[.slice none 0 0, .slice (some ⟨g, 0, none⟩) 24 cg] 36)).heap.size := by simp
  have d3 : Below w2.heap.size w2 (w2.alloc (.cells #[.slice none 0 0, .slice (some ⟨g, 0, none⟩) 24 cg] 36)) := by go_grown
  generalize (w2.alloc (.cells #[.slice none 0 0, .slice (some ⟨g, 0, none⟩) 24 cg] 36)) = w3 at o0_3 of0_3 o1_3 of1_3 ol_3 d3 ⊢
  have c3 : Below w.heap.size w w3 := c2.trans (d3.mono c2.size)
  have a0_3 : w3.cell? ⟨w.heap.size, 0, none⟩ = some (.slice ao I.length cap) := (by rw [d3.cell (by first | omega | (simp; done) | (simp; omega))]; go_cell)
  have a1_3 : w3.cell? ⟨w.heap.size, 1, none⟩ = some (.slice (some ⟨bf, of', none⟩) 24 cf) := (by rw [d3.cell (by first | omega | (simp; done) | (simp; omega))]; go_cell)
  have al_3 : w.heap.size < w3.heap.size := (by have := d3.size; omega)
  have r0_3 : w3.cell? ⟨w.heap.size + 1, 0, none⟩ = some (.slice none 0 0) := (by rw [d3.cell (by first | omega | (simp; done) | (simp; omega))]; go_cell)
  have rf0_3 : w3.frozen? ⟨w.heap.size + 1, 0, none⟩ = false := (by rw [d3.frozen (by first | omega | (simp; done) | (simp; omega))]; (first | go_cell | (simp [World.frozen?, World.alloc]; done) | rfl))
  have r1_3 : w3.cell? ⟨w.heap.size + 1, 1, none⟩ = some (.slice none 0 0) := (by rw [d3.cell (by first | omega | (simp; done) | (simp; omega))]; go_cell)
  have rf1_3 : w3.frozen? ⟨w.heap.size + 1, 1, none⟩ = false := (by rw [d3.frozen (by first | omega | (simp; done) | (simp; omega))]; (first | go_cell | (simp [World.frozen?, World.alloc]; done) | rfl))
  have rl_3 : w.heap.size + 1 < w3.heap.size := (by have := d3.size; omega)
  clear a0_2 a1_2 al_2 r0_2 rf0_2 r1_2 rf1_2 rl_2
  have HOW3 := hid (row_later HOW2.out d3)
  have D3 := hid d3
  clear d3 HOW2
  go_loopw [4] (fun i wr => ∃ (k : Nat) (L : List KD) (v : Value) (xs : List Value) (us : Nat → Value), k ≤ I.length ∧ i = .int .i64 k ∧ Hid (L = I.take k) ∧ Hid (wr.cell? ⟨w2.heap.size, 0, none⟩ = some v) ∧ Hid (wr.frozen? ⟨w2.heap.size, 0, none⟩ = false) ∧ Hid (wr.cell? ⟨w2.heap.size, 1, none⟩ = some (.slice (some ⟨g, 0, none⟩) 24 cg)) ∧ Hid (RowA wr w3.heap.size v L xs us) ∧ Hid (KinO wr w3.heap.size L us) ∧ Hid (Below w2.heap.size w3 wr)) (fun i _ => I.length - (intOf i).toNat)
  case atStart => exact ⟨0, [], _, [], fun _ => .bool false, Nat.zero_le _, rfl, hid (by simp), hid o0_3, hid of0_3, hid o1_3, hid (RowA.nil _ _ _), hid (KinO.nil _ _ _), hid (Below.refl _ _)⟩
  case round =>
    clear o0_3 of0_3 o1_3 of1_3
    obtain ⟨k, L, v, xs, us, hk, rfl, hL, hco, hfo, hco1, hrow, hkin, hbel⟩ := hrel
    have o0 := hco.out
    have of0 := hfo.out
    have a0 := (hbel.out.cell (p := ⟨w.heap.size, 0, none⟩) al2).trans a0_3
    have hz := hbel.out.size
    have cw := c3.trans (hbel.out.mono (show w.heap.size ≤ w2.heap.size by omega))
    by_cases hlt : k < I.length
    · obtain ⟨b, off, rfl, hb, hcc⟩ := hc (by omega)
      obtain ⟨p0, p1, p2, lx, ux, hx, k0, k1, k2, k3, hux⟩ := atK_3k ((hcc k hlt).later hb cw)
      obtain ⟨uo, uc, rfl, _⟩ := id hux
      have HU := hid hux
      have ht := take_one (I := I) hlt
      rw [hx] at ht
      have HL2 : Hid (L ++ [([p0, p1, p2], lx)] = I.take (k + 1)) := hid (by rw [hL.out, ht])
      have hmk : lx.length ≤ 1099511627776 := by
        have := H8.out (I.getD k kd0) (by rw [getD_at hlt]; exact List.getElem_mem hlt)
        rw [hx] at this
        simp only at this
        omega
      have hLk : L.length ≤ 4 := by rw [hL.out, len_take hk]; have := H4.out; omega
      have hbz : b < wr.heap.size := by have := cw.size; omega
      have hO : w2.heap.size < wr.heap.size := by omega
      have hI4 : I.length ≤ 4 := H4.out
      have hk1' : L.length + 1 ≤ maxLen := by unfold maxLen; omega
      have hk2' : (L.length + 1) * 48 ≤ 140737488355328 := by omega
      have hki : (k : Int) < (I.length : Int) := by omega
      have HKI := hid hkin.out
      have HO1 := hid hco1.out
      clear hux hx ht hcc hL hco hfo hkin hco1
      go_upto_region 5 with fail
      go_region_law (first
        | (refine step_callK rfl 54 _ _ rfl _ (by simp [Act.eval]) Try.call54 _ (l5Copy_any p0 p1 p2 _ lx _ (HU.out.later (by go_grown)) hmk) ?_; rintro e w5 ⟨⟨uo', uc', rfl, ho⟩, b5⟩; refine ⟨_, rfl, ?_⟩; have d5 : Below wr.heap.size wr w5 := (Below.refl _ wr).drew.trans b5; have HK5 := hid (hrow.out.later d5); have o0_5 := (d5.cell (p := ⟨w2.heap.size, 0, none⟩) hO).trans o0; have of0_5 := (d5.frozen (p := ⟨w2.heap.size, 0, none⟩) hO).trans of0; have HO1_5 := hid ((d5.cell (p := ⟨w2.heap.size, 1, none⟩) hO).trans HO1.out); have HO5 := hid (Own.mono ho (B' := wr.heap.size) (Nat.le_refl _)); have hz5 := d5.size; have B6 : Hid (Below wr.heap.size wr (w5.alloc (.cells #[.int .i64 p0, .int .i64 p1, .int .i64 p2, .slice uo' lx.length uc'] 31))) := hid (d5.trans ((show Below w5.heap.size w5 (w5.alloc (.cells #[.int .i64 p0, .int .i64 p1, .int .i64 p2, .slice uo' lx.length uc'] 31)) by go_grown).mono hz5)); have HK6 := hid (hrow.out.later B6.out); have HNW := hid (four_new w5 p0 p1 p2 (.slice uo' lx.length uc')); have HO6 := hid (row_later HO5.out (show Below w5.heap.size w5 (w5.alloc (.cells #[.int .i64 p0, .int .i64 p1, .int .i64 p2, .slice uo' lx.length uc'] 31)) by go_grown)); have hz6 : w3.heap.size ≤ (w5.alloc (.cells #[.int .i64 p0, .int .i64 p1, .int .i64 p2, .slice uo' lx.length uc'] 31)).heap.size := (by have := B6.out.size; omega); have o0_6 := (((Below.refl _ w5).alloc (Nat.le_refl _) (.cells #[.int .i64 p0, .int .i64 p1, .int .i64 p2, .slice uo' lx.length uc'] 31)).cell (p := ⟨w2.heap.size, 0, none⟩) (Nat.lt_of_lt_of_le hO hz5)).trans o0_5; have of0_6 := (((Below.refl _ w5).alloc (Nat.le_refl _) (.cells #[.int .i64 p0, .int .i64 p1, .int .i64 p2, .slice uo' lx.length uc'] 31)).frozen (p := ⟨w2.heap.size, 0, none⟩) (Nat.lt_of_lt_of_le hO hz5)).trans of0_5; have HO1_6 := hid ((((Below.refl _ w5).alloc (Nat.le_refl _) (.cells #[.int .i64 p0, .int .i64 p1, .int .i64 p2, .slice uo' lx.length uc'] 31)).cell (p := ⟨w2.heap.size, 1, none⟩) (Nat.lt_of_lt_of_le hO hz5)).trans HO1_5.out); have hO6 : w2.heap.size < (w5.alloc (.cells #[.int .i64 p0, .int .i64 p1, .int .i64 p2, .slice uo' lx.length uc'] 31)).heap.size := (by have := B6.out.size; omega); clear ho b5 d5)
        | (refine step_append_own rfl _ _ 34 rfl w3.heap.size 31 i0 (.agg #[.int .i64 0, .int .i64 0, .int .i64 0, .slice none 0 0]) 4 48 Try.underlying34 hi hz0 hz1 hz2 rfl (by decide) v L.length xs (by simp [Act.eval]) HK6.out.row ⟨w5.heap.size, 0, none⟩ 1 1 [.int .i64 p0, .int .i64 p1, .int .i64 p2, .slice uo' lx.length uc'] (by simp [Act.eval]) rfl HNW.out (by simp [Value.oneCell']) hk1' hk2' hz6 ?_; intro v6 w6 hown6 hgr6 _; obtain ⟨g6, c6, hv6⟩ := ownsRow_succ hown6; subst hv6; have hne : some w2.heap.size ≠ v.ownBlock := (fun e => by have := (HK6.out.row.lt _ e.symm).1; have := D3.out.size; omega); have HR7 := hid (HK6.out.add (l := lx) hown6); have HK7 := hid (HKI.out.add (a := p0) (b := p1) (c := p2) HK6.out B6.out HO6.out hz hgr6); have o0_7 := (World.cell?_of_block (a := ⟨w2.heap.size, 0, none⟩) (hgr6.block w2.heap.size hO6 hne)).trans o0_6; have of0_7 := (World.frozen?_of_block (a := ⟨w2.heap.size, 0, none⟩) (hgr6.block w2.heap.size hO6 hne)).trans of0_6; have HO1_7 := hid ((World.cell?_of_block (a := ⟨w2.heap.size, 1, none⟩) (hgr6.block w2.heap.size hO6 hne)).trans HO1_6.out); have HB7 := hid ((hbel.out.trans (B6.out.mono (by omega))).grown hgr6 (by omega) (fun j ej => by have := (HK6.out.row.lt j ej).1; omega)); clear hown6 hgr6 hne))
      all_goals
        have HR8 := hid (HR7.out.off (w' := w6.setCell ⟨w2.heap.size, 0, none⟩ (.slice (some ⟨g6, 0, none⟩) (L.length + 1) c6)) (fun q h1 _ => Below.heap_setCell _ _ _ _ (by show q ≠ w2.heap.size; have := D3.out.size; have := ol_3; omega)))
        have HK8 := hid (KinO.off (w' := w6.setCell ⟨w2.heap.size, 0, none⟩ (.slice (some ⟨g6, 0, none⟩) (L.length + 1) c6)) HK7.out (fun q h1 _ => Below.heap_setCell _ _ _ _ (by show q ≠ w2.heap.size; have := D3.out.size; have := ol_3; omega)))
        have hc8 : Hid ((w6.setCell ⟨w2.heap.size, 0, none⟩ (.slice (some ⟨g6, 0, none⟩) (L.length + 1) c6)).cell? ⟨w2.heap.size, 0, none⟩ = some (.slice (some ⟨g6, 0, none⟩) (L.length + 1) c6)) := by
          show _ = _
          go_cell
        have hd8 : Hid ((w6.setCell ⟨w2.heap.size, 0, none⟩ (.slice (some ⟨g6, 0, none⟩) (L.length + 1) c6)).cell? ⟨w2.heap.size, 1, none⟩ = some (.slice (some ⟨g, 0, none⟩) 24 cg)) := by
          have := HO1_7.out
          show _ = _
          go_cell
        have hf8 : Hid ((w6.setCell ⟨w2.heap.size, 0, none⟩ (.slice (some ⟨g6, 0, none⟩) (L.length + 1) c6)).frozen? ⟨w2.heap.size, 0, none⟩ = false) := by
          show _ = _
          simpa using of0_7
        have HB8 := hid (HB7.out.setCell (p := ⟨w2.heap.size, 0, none⟩) (Nat.le_refl _) (.slice (some ⟨g6, 0, none⟩) (L.length + 1) c6))
        clear a0_3 a1_3
        go_wp2
        go_roundw
        case rel => exact ⟨k + 1, _, _, _, _, by omega, by go_num, HL2, hc8, hf8, hd8, HR8, HK8, HB8⟩
        case measure => simp [intOf]; omega
    · obtain rfl : k = I.length := by omega
      have HLI : Hid (L = I) := hid (by rw [hL.out, List.take_length])
      obtain ⟨so, sc, hv⟩ := hrow.out.slice
      subst hv
      have o1 := hco1.out
      have r0 := (hbel.out.cell (p := ⟨w.heap.size + 1, 0, none⟩) rl2).trans r0_3
      have r1 := (hbel.out.cell (p := ⟨w.heap.size + 1, 1, none⟩) rl2).trans r1_3
      have rf0 := (hbel.out.frozen (p := ⟨w.heap.size + 1, 0, none⟩) rl2).trans rf0_3
      have rf1 := (hbel.out.frozen (p := ⟨w.heap.size + 1, 1, none⟩) rl2).trans rf1_3
      have hg1 := HG2.out.1
      have hg2 := HG2.out.2
      have z3 := ol_3
      clear a0_3 a1_3 r0_3 r1_3 rf0_3 rf1_3 hc hco hfo hco1 of0
      go_wp2_with fail
      have KB := (cw.setCell (p := ⟨w.heap.size + 1, 0, none⟩) (by show w.heap.size ≤ w.heap.size + 1; omega) (.slice so L.length sc)).setCell (p := ⟨w.heap.size + 1, 1, none⟩) (by show w.heap.size ≤ w.heap.size + 1; omega) (.slice (some ⟨g, 0, none⟩) 24 cg)
      have hoff : ∀ q, w1.heap.size ≤ q → ((wr.setCell ⟨w.heap.size + 1, 0, none⟩ (.slice so L.length sc)).setCell ⟨w.heap.size + 1, 1, none⟩ (.slice (some ⟨g, 0, none⟩) 24 cg)).heap[q]? = wr.heap[q]? := fun q hq => by
        have := S1.out
        exact (Below.heap_setCell _ _ _ _ (by show q ≠ w.heap.size + 1; omega)).trans (Below.heap_setCell _ _ _ _ (by show q ≠ w.heap.size + 1; omega))
      have hz13 : w1.heap.size ≤ w3.heap.size := by have := D3.out.size; omega
      have R9 := (hrow.out.off (fun q h1 _ => hoff q (by omega))).rdK (G := fun q => q < w3.heap.size) (fun q hq => by have := (hrow.out.row.lt q hq).1; have := D3.out.size; omega) (fun t ht => ⟨((KinO.off hkin.out (fun q h1 _ => hoff q (by omega))).own t ht).rd, fun _ q hq => by have := ((hkin.out.own t ht).block q hq).1; have := D3.out.size; omega⟩)
      have F9 := row_mono (row_agree (row_agree HOW3.out (fun q hq => by cases hq; exact hbel.out.block g hg2)) (fun q hq => hoff q (HOW3.out.lt q hq).1)) (B' := w.heap.size) cz1
      rw [← HLI.out]
      have e0 : ((wr.setCell ⟨w.heap.size + 1, 0, none⟩ (.slice so L.length sc)).setCell ⟨w.heap.size + 1, 1, none⟩ (.slice (some ⟨g, 0, none⟩) 24 cg)).cell? ⟨w.heap.size + 1, 0, none⟩ = some (.slice so L.length sc) := by go_cell
      have e1 : ((wr.setCell ⟨w.heap.size + 1, 0, none⟩ (.slice so L.length sc)).setCell ⟨w.heap.size + 1, 1, none⟩ (.slice (some ⟨g, 0, none⟩) 24 cg)).cell? ⟨w.heap.size + 1, 1, none⟩ = some (.slice (some ⟨g, 0, none⟩) 24 cg) := by go_cell
      exact bodyPost_ret (v := .agg #[.slice so L.length sc, .slice (some ⟨g, 0, none⟩) 24 cg]) (by simp [results, Try.results42, go_sem, e0, e1]) rfl ⟨⟨_, g, cg, w3.heap.size, rfl, by omega, by omega, by simp; omega, F9, R9⟩, KB⟩

/-! ### spec.CacheDrop -/
def EndR (w' : World) (I F : List KD) (e : Ending) : Prop := ∃ v0 v1, e = .returned (.agg #[v0, v1]) ∧ RSCache w' v0 v1 I F
set_option maxRecDepth 100000 in
set_option maxHeartbeats 4000000 in
theorem specCDrop_any (v0 v1 : Value) (I F : List KD) (key : Int) (w : World) (h0 : RdM 4 3 true w v0 I) (h1 : RdM 1 1 false w v1 F) {D : List KD × List KD} (hD : ansD I F key = D) :
    Calls Try.prog 16 #[.agg #[v0, v1], .int .i64 key] w fun e w' => EndR w' D.1 D.2 e ∧ Below w.heap.size w w' := by
  have H0 := hid h0
  have H1 := hid h1
  obtain ⟨ai, ci, rfl, hq0, hq1⟩ := h0
  obtain ⟨af, cf, rfl, hq2, hq3⟩ := h1
  clear hq0 hq1 hq2 hq3
  have hco := fun (W : World) (a : RdM 4 3 true W (.slice ai I.length ci) I) (b : RdM 1 1 false W (.slice af F.length cf) F) => specCOk_any _ _ I F W a b
  go_enter Try.func16, Try.ntmps16
  go_wp2_with fail
  have a0_1 : ((w.alloc (.cells #[.slice ai I.length ci, .slice af F.length cf] 36)).alloc (.cells #[.slice none 0 0, .slice none 0 0] 36)).cell? ⟨w.heap.size, 0, none⟩ = some (.slice ai I.length ci) := by go_cell
  have a1_1 : ((w.alloc (.cells #[.slice ai I.length ci, .slice af F.length cf] 36)).alloc (.cells #[.slice none 0 0, .slice none 0 0] 36)).cell? ⟨w.heap.size, 1, none⟩ = some (.slice af F.length cf) := by go_cell
  have al_1 : w.heap.size < ((w.alloc (.cells #[.slice ai I.length ci, .slice af F.length cf] 36)).alloc (.cells #[.slice none 0 0, .slice none 0 0] 36)).heap.size := by first | (simp; done) | (simp; omega)
  have r0_1 : ((w.alloc (.cells #[.slice ai I.length ci, .slice af F.length cf] 36)).alloc (.cells #[.slice none 0 0, .slice none 0 0] 36)).cell? ⟨w.heap.size + 1, 0, none⟩ = some (.slice none 0 0) := by go_cell
  have rf0_1 : ((w.alloc (.cells #[.slice ai I.length ci, .slice af F.length cf] 36)).alloc (.cells #[.slice none 0 0, .slice none 0 0] 36)).frozen? ⟨w.heap.size + 1, 0, none⟩ = false := by (first | go_cell | (simp [World.frozen?, World.alloc]; done) | rfl)
  have r1_1 : ((w.alloc (.cells #[.slice ai I.length ci, .slice af F.length cf] 36)).alloc (.cells #[.slice none 0 0, .slice none 0 0] 36)).cell? ⟨w.heap.size + 1, 1, none⟩ = some (.slice none 0 0) := by go_cell
  have rf1_1 : ((w.alloc (.cells #[.slice ai I.length ci, .slice af F.length cf] 36)).alloc (.cells #[.slice none 0 0, .slice none 0 0] 36)).frozen? ⟨w.heap.size + 1, 1, none⟩ = false := by (first | go_cell | (simp [World.frozen?, World.alloc]; done) | rfl)
  have rl_1 : w.heap.size + 1 < ((w.alloc (.cells #[.slice ai I.length ci, .slice af F.length cf] 36)).alloc (.cells #[.slice none 0 0, .slice none 0 0] 36)).heap.size := by first | (simp; done) | (simp; omega)
  have c1 : Below w.heap.size w ((w.alloc (.cells #[.slice ai I.length ci, .slice af F.length cf] 36)).alloc (.cells #[.slice none 0 0, .slice none 0 0] 36)) := by go_grown
  have s1 : ((w.alloc (.cells #[.slice ai I.length ci, .slice af F.length cf] 36)).alloc (.cells #[.slice none 0 0, .slice none 0 0] 36)).heap.size = w.heap.size + 2 := by simp
  generalize ((w.alloc (.cells #[.slice ai I.length ci, .slice af F.length cf] 36)).alloc (.cells #[.slice none 0 0, .slice none 0 0] 36)) = w1 at a0_1 a1_1 al_1 r0_1 rf0_1 r1_1 rf1_1 rl_1 c1 s1 ⊢
  have qa0_1 := cell_regrown a0_1
  have qa1_1 := cell_regrown a1_1
  have qr0_1 := cell_regrown r0_1
  have qr1_1 := cell_regrown r1_1
  clear qa0_1 qa1_1 qr0_1 qr1_1
  cases hok : okC I F with
  | false =>
    rw [hok] at hco
    obtain rfl : D = ([], []) := by rw [← hD]; simp [ansD, hok]
    refine (hco _ (H0.out.later c1) (H1.out.later c1)).mono ?_
    rintro e w2 ⟨rfl, b2⟩
    have d2 : Below w1.heap.size w1 w2 := (Below.trans (by go_grown) (b2.mono (by first | omega | (simp; done) | (simp; omega))))
    have c2 : Below w.heap.size w w2 := c1.trans (d2.mono c1.size)
    have r0_2 : w2.cell? ⟨w.heap.size + 1, 0, none⟩ = some (.slice none 0 0) := (by rw [b2.cell (by first | omega | (simp; done) | (simp; omega))]; go_cell)
    have rf0_2 : w2.frozen? ⟨w.heap.size + 1, 0, none⟩ = false := (by rw [b2.frozen (by first | omega | (simp; done) | (simp; omega))]; (first | go_cell | (simp [World.frozen?, World.alloc]; done) | rfl))
    have r1_2 : w2.cell? ⟨w.heap.size + 1, 1, none⟩ = some (.slice none 0 0) := (by rw [b2.cell (by first | omega | (simp; done) | (simp; omega))]; go_cell)
    have rf1_2 : w2.frozen? ⟨w.heap.size + 1, 1, none⟩ = false := (by rw [b2.frozen (by first | omega | (simp; done) | (simp; omega))]; (first | go_cell | (simp [World.frozen?, World.alloc]; done) | rfl))
    have rl_2 : w.heap.size + 1 < w2.heap.size := (by have := b2.size; first | omega | (revert this; simp; done) | (revert this; simp; omega))
    clear r0_1 rf0_1 r1_1 rf1_1 rl_1
    have HC := hid c2
    clear b2 d2 hco hok hD
    go_wp2_with fail
    have KB := (HC.out.setCell (p := ⟨w.heap.size + 1, 0, none⟩) (by show w.heap.size ≤ w.heap.size + 1; omega) (.slice none 0 0)).setCell (p := ⟨w.heap.size + 1, 1, none⟩) (by show w.heap.size ≤ w.heap.size + 1; omega) (.slice none 0 0)
    have e0 : ((w2.setCell ⟨w.heap.size + 1, 0, none⟩ (.slice none 0 0)).setCell ⟨w.heap.size + 1, 1, none⟩ (.slice none 0 0)).cell? ⟨w.heap.size + 1, 0, none⟩ = some (.slice none 0 0) := by go_cell
    have e1 : ((w2.setCell ⟨w.heap.size + 1, 0, none⟩ (.slice none 0 0)).setCell ⟨w.heap.size + 1, 1, none⟩ (.slice none 0 0)).cell? ⟨w.heap.size + 1, 1, none⟩ = some (.slice none 0 0) := by go_cell
    exact bodyPost_ret (v := .agg #[.slice none 0 0, .slice none 0 0]) (by simp [results, Try.results16, go_sem, e0, e1]) rfl ⟨⟨_, _, rfl, RdM.nil _ none 0, RdM.nil _ none 0⟩, KB⟩
  | true =>
    rw [hok] at hco
    obtain rfl : D = (dropI key I, F) := by rw [← hD]; simp [ansD, hok]
    have HFL := hid (floF_of H1.out (okC_iff.1 hok).1)
    have HSM := hid (okC_small hok)
    have hl4 : I.length ≤ 1000 := by have := HSM.out.1; omega
    refine (hco _ (H0.out.later c1) (H1.out.later c1)).mono ?_
    rintro e w2 ⟨rfl, b2⟩
    have d2 : Below w1.heap.size w1 w2 := (Below.trans (by go_grown) (b2.mono (by first | omega | (simp; done) | (simp; omega))))
    have c2 : Below w.heap.size w w2 := c1.trans (d2.mono c1.size)
    have a0_2 : w2.cell? ⟨w.heap.size, 0, none⟩ = some (.slice ai I.length ci) := (by rw [b2.cell (by first | omega | (simp; done) | (simp; omega))]; go_cell)
    have a1_2 : w2.cell? ⟨w.heap.size, 1, none⟩ = some (.slice af F.length cf) := (by rw [b2.cell (by first | omega | (simp; done) | (simp; omega))]; go_cell)
    have al_2 : w.heap.size < w2.heap.size := (by have := b2.size; first | omega | (revert this; simp; done) | (revert this; simp; omega))
    have r0_2 : w2.cell? ⟨w.heap.size + 1, 0, none⟩ = some (.slice none 0 0) := (by rw [b2.cell (by first | omega | (simp; done) | (simp; omega))]; go_cell)
    have rf0_2 : w2.frozen? ⟨w.heap.size + 1, 0, none⟩ = false := (by rw [b2.frozen (by first | omega | (simp; done) | (simp; omega))]; (first | go_cell | (simp [World.frozen?, World.alloc]; done) | rfl))
    have r1_2 : w2.cell? ⟨w.heap.size + 1, 1, none⟩ = some (.slice none 0 0) := (by rw [b2.cell (by first | omega | (simp; done) | (simp; omega))]; go_cell)
    have rf1_2 : w2.frozen? ⟨w.heap.size + 1, 1, none⟩ = false := (by rw [b2.frozen (by first | omega | (simp; done) | (simp; omega))]; (first | go_cell | (simp [World.frozen?, World.alloc]; done) | rfl))
    have rl_2 : w.heap.size + 1 < w2.heap.size := (by have := b2.size; first | omega | (revert this; simp; done) | (revert this; simp; omega))
    clear a0_1 a1_1 al_1 r0_1 rf0_1 r1_1 rf1_1 rl_1
    have HC2 := hid c2
    have rl2 : w.heap.size + 1 < w2.heap.size := rl_2
    clear b2 d2 hco hok hD
    go_wp2_with fail
    refine (l5Cache_any _ _ I F _ (H0.out.later HC2.out) (H1.out.later HC2.out) HFL.out HSM.out.1 HSM.out.2).mono ?_
    rintro e w3 ⟨⟨v, g, cg, N, rfl, hg1, hg2, hN, hrow, hrk⟩, b3⟩
    have HROW := hid hrow
    have HRK := hid hrk
    obtain ⟨vo, vc, hv, _⟩ := hrk
    subst hv
    have d3 : Below w2.heap.size w2 w3 := (Below.trans (by go_grown) (b3.mono (by first | omega | (simp; done) | (simp; omega))))
    have c3 : Below w.heap.size w w3 := c2.trans (d3.mono c2.size)
    have r0_3 : w3.cell? ⟨w.heap.size + 1, 0, none⟩ = some (.slice none 0 0) := (by rw [b3.cell (by first | omega | (simp; done) | (simp; omega))]; go_cell)
    have rf0_3 : w3.frozen? ⟨w.heap.size + 1, 0, none⟩ = false := (by rw [b3.frozen (by first | omega | (simp; done) | (simp; omega))]; (first | go_cell | (simp [World.frozen?, World.alloc]; done) | rfl))
    have r1_3 : w3.cell? ⟨w.heap.size + 1, 1, none⟩ = some (.slice none 0 0) := (by rw [b3.cell (by first | omega | (simp; done) | (simp; omega))]; go_cell)
    have rf1_3 : w3.frozen? ⟨w.heap.size + 1, 1, none⟩ = false := (by rw [b3.frozen (by first | omega | (simp; done) | (simp; omega))]; (first | go_cell | (simp [World.frozen?, World.alloc]; done) | rfl))
    have rl_3 : w.heap.size + 1 < w3.heap.size := (by have := b3.size; first | omega | (revert this; simp; done) | (revert this; simp; omega))
    clear r0_2 rf0_2 r1_2 rf1_2 rl_2
    have hgr : w.heap.size + 1 < N := by omega
    clear b3 d3 hrow
    go_wp2_with fail
    refine (l5Drop_any (fun q => q < N) _ (some ⟨g, 0, none⟩) 24 cg I key _ HRK.out (fun q hq hl => by omega) hl4).mono ?_
    rintro e w4 ⟨⟨x, rfl, hx⟩, b4⟩
    have HX := hid hx
    obtain ⟨xo, xc, hv, _⟩ := hx
    subst hv
    have d4 : Below w3.heap.size w3 w4 := (Below.trans (by go_grown) (b4.mono (by first | omega | (simp; done) | (simp; omega))))
    have c4 : Below w.heap.size w w4 := c3.trans (d4.mono c3.size)
    have r0_4 : w4.cell? ⟨w.heap.size + 1, 0, none⟩ = some (.slice none 0 0) := (by rw [b4.cell (by first | omega | (simp; done) | (simp; omega))]; go_cell)
    have rf0_4 : w4.frozen? ⟨w.heap.size + 1, 0, none⟩ = false := (by rw [b4.frozen (by first | omega | (simp; done) | (simp; omega))]; (first | go_cell | (simp [World.frozen?, World.alloc]; done) | rfl))
    have r1_4 : w4.cell? ⟨w.heap.size + 1, 1, none⟩ = some (.slice none 0 0) := (by rw [b4.cell (by first | omega | (simp; done) | (simp; omega))]; go_cell)
    have rf1_4 : w4.frozen? ⟨w.heap.size + 1, 1, none⟩ = false := (by rw [b4.frozen (by first | omega | (simp; done) | (simp; omega))]; (first | go_cell | (simp [World.frozen?, World.alloc]; done) | rfl))
    have rl_4 : w.heap.size + 1 < w4.heap.size := (by have := b4.size; first | omega | (revert this; simp; done) | (revert this; simp; omega))
    clear r0_3 rf0_3 r1_3 rf1_3 rl_3
    have HROW4 := hid (row_later HROW.out b4)
    have HC4 := hid c4
    clear b4 d4 HRK HROW
    go_wp2_with fail
    have KB := (HC4.out.setCell (p := ⟨w.heap.size + 1, 0, none⟩) (by show w.heap.size ≤ w.heap.size + 1; omega) (.slice xo (dropI key I).length xc)).setCell (p := ⟨w.heap.size + 1, 1, none⟩) (by show w.heap.size ≤ w.heap.size + 1; omega) (.slice (some ⟨g, 0, none⟩) 24 cg)
    have KO : Only (fun q => q < N) w4 ((w4.setCell ⟨w.heap.size + 1, 0, none⟩ (.slice xo (dropI key I).length xc)).setCell ⟨w.heap.size + 1, 1, none⟩ (.slice (some ⟨g, 0, none⟩) 24 cg)) := (Only.set (F := fun q => q < N) _ (p := ⟨w.heap.size + 1, 0, none⟩) hgr _).trans (Only.set (F := fun q => q < N) _ (p := ⟨w.heap.size + 1, 1, none⟩) hgr _)
    have R9 := (HX.out.only KO).rd
    have F9 := rowF_rd (row_agree HROW4.out (w' := ((w4.setCell ⟨w.heap.size + 1, 0, none⟩ (.slice xo (dropI key I).length xc)).setCell ⟨w.heap.size + 1, 1, none⟩ (.slice (some ⟨g, 0, none⟩) 24 cg))) (fun q hq => by cases hq; exact (Below.heap_setCell _ _ _ _ (by show g ≠ w.heap.size + 1; omega)).trans (Below.heap_setCell _ _ _ _ (by show g ≠ w.heap.size + 1; omega)))) HFL.out
    have e0 : ((w4.setCell ⟨w.heap.size + 1, 0, none⟩ (.slice xo (dropI key I).length xc)).setCell ⟨w.heap.size + 1, 1, none⟩ (.slice (some ⟨g, 0, none⟩) 24 cg)).cell? ⟨w.heap.size + 1, 0, none⟩ = some (.slice xo (dropI key I).length xc) := by go_cell
    have e1 : ((w4.setCell ⟨w.heap.size + 1, 0, none⟩ (.slice xo (dropI key I).length xc)).setCell ⟨w.heap.size + 1, 1, none⟩ (.slice (some ⟨g, 0, none⟩) 24 cg)).cell? ⟨w.heap.size + 1, 1, none⟩ = some (.slice (some ⟨g, 0, none⟩) 24 cg) := by go_cell
    exact bodyPost_ret (v := .agg #[.slice xo (dropI key I).length xc, .slice (some ⟨g, 0, none⟩) 24 cg]) (by simp [results, Try.results16, go_sem, e0, e1]) rfl ⟨⟨_, _, rfl, R9, F9⟩, KB⟩
end Go.Proofs.Ytnenlnadmdlcfaa

/- Part: The law's own helpers markItem, heldItem: contracts; how many numbers a list of elements has. -/
namespace Go.Proofs.Ytnenlnadmdlcfaa
open Go.RowKit
attribute [local go_sem ↓] Go.wp_at_zero Go.wp_at_succ

set_option maxHeartbeats 1000000 in
theorem markItem_any (p0 p1 p2 : Int) (v : Value) (l : List (Int × Int)) (k : Int) (B : Nat) (w : World) (h : Own w B v l) (hk : 0 ≤ k) (hk2 : k ≤ 1099511627776) (hl : l.length ≤ 1099511627776) :
    Calls Try.prog 14 #[.agg #[.int .i64 p0, .int .i64 p1, .int .i64 p2, v], .int .i64 k] w fun e w' => e = .returned (.int .i64 (k + 2 * (l.length : Int))) ∧ Own w' B v (markL k l.length) ∧ w.grownBy w' v.ownBlock := by
  have HO := hid (row_later h (show Below w.heap.size w (w.alloc (.cells #[.int .i64 p0, .int .i64 p1, .int .i64 p2, v] 31)) from (Below.refl _ w).alloc (Nat.le_refl _) _))
  obtain ⟨ao, cap, hv, _⟩ := h.rd
  subst hv
  clear h
  go_enter Try.func14, Try.ntmps14
  go_wp2_with fail
  refine (markVal_any p2 _ l k B _ HO.out hk hk2 hl).mono ?_
  rintro e w1 ⟨rfl, ho, hg⟩
  have HF := hid ho
  have HG := hid (grown_two (World.grownBy_alloc w (.cells #[.int .i64 p0, .int .i64 p1, .int .i64 p2, .slice ao l.length cap] 31) (Value.slice ao l.length cap).ownBlock) hg)
  clear ho hg
  go_wp2
  go_ret
  exact ⟨by simp, HF.out, HG.out⟩
set_option maxHeartbeats 1000000 in
theorem heldItem_any (p0 p1 p2 : Int) (v : Value) (m : Nat) (k : Int) (w : World) (h : Rd w v (markL k m)) (hk : 0 ≤ k) (hk2 : k ≤ 1099511627776) (hl : m ≤ 1099511627776) :
    Calls Try.prog 15 #[.agg #[.int .i64 p0, .int .i64 p1, .int .i64 p2, v], .int .i64 k] w fun e w' => e = .returned (.int .i64 (k + 2 * (m : Int))) ∧ Below w.heap.size w w' := by
  have HO := hid (h.later (show Below w.heap.size w (w.alloc (.cells #[.int .i64 p0, .int .i64 p1, .int .i64 p2, v] 31)) from (Below.refl _ w).alloc (Nat.le_refl _) _))
  obtain ⟨ao, cap, hv, _⟩ := h
  subst hv
  have b0 : Below w.heap.size w (w.alloc (.cells #[.int .i64 p0, .int .i64 p1, .int .i64 p2, .slice ao (markL k m).length cap] 31)) := (Below.refl _ w).alloc (Nat.le_refl _) _
  go_enter Try.func15, Try.ntmps15
  go_wp2_with fail
  refine (heldVal_any p2 _ m k _ HO.out hk hk2 hl).mono ?_
  rintro e w1 ⟨rfl, b1⟩
  have B1 := hid (b0.trans (b1.mono b0.size))
  have hn : ¬ (k + 2 * (m : Int) < 0) := by omega
  clear b1 b0
  go_wp2
  go_ret
  exact ⟨by simp, B1.out⟩
theorem cntM_bulk (m : Nat) (L : List KD) : cntM m L = (m : Int) * (L.length : Int) + 2 * (bulkM L : Int) := by
  induction L with
  | nil => simp [cntM, bulkM]
  | cons x r ih =>
    rw [cntM_cons, ih]
    simp only [cntK, bulkM, List.map_cons, List.sum_cons, List.length_cons]
    push_cast
    rw [Int.mul_add]
    omega
theorem ansG_small (I F : List KD) (key : Int) : (gl (ansG I F key)).length ≤ 8 := by
  unfold ansG
  split
  · next h =>
    cases hf : I.find? (fun x => keyK x == key) with
    | none => exact Nat.zero_le _
    | some x => exact (okC_small h).2 x (List.mem_of_find?_eq_some hf)
  · exact Nat.zero_le _
end Go.Proofs.Ytnenlnadmdlcfaa

/- Part: Marks on a cache that was answered; how many there are at most. Written by a program (glcd.py). -/
namespace Go.Proofs.Ytnenlnadmdlcfaa
open Go.RowKit
attribute [local go_sem ↓] Go.wp_at_zero Go.wp_at_succ

set_option maxRecDepth 100000 in
set_option maxHeartbeats 2000000 in
theorem markAns_any (a0 fv : Value) (L0 L1 : List KD) (g C : Nat) (w : World) (ha0 : OwnM 31 4 3 true w (Span (g + 1) C) a0 L0) (hf : OwnFl w g fv L1) (hgC : g < C) (hCw : C ≤ w.heap.size) (hk2 : 1 + cntM 3 L0 + cntM 1 L1 ≤ 1099511627776) :
    Calls Try.prog 13 #[.agg #[a0, fv], .int .i64 1] w fun e w' => e = .returned (.int .i64 (1 + cntM 3 L0 + cntM 1 L1)) ∧ OwnM 31 4 3 true w' (Span (g + 1) C) a0 (relM 3 1 L0) ∧ OwnFl w' g fv (relM 1 (1 + cntM 3 L0) L1) ∧ Only (Span g C) w w' := by
  have HA0 := hid ha0
  have hv0 := ha0.rd'
  have hp0 := cntM_pos 3 L0
  have hp1 := cntM_pos 1 L1
  have HF := hid hf
  obtain ⟨fo, fc, hfv⟩ := hf.slice
  subst hfv
  obtain ⟨ao0, ac0, hv, _⟩ := hv0
  subst hv
  clear ha0 hf
  go_enter Try.func13, Try.ntmps13
  go_wp2_with fail
  have a0_1 : (w.alloc (.cells #[.slice ao0 L0.length ac0, .slice fo L1.length fc] 36)).cell? ⟨w.heap.size, 0, none⟩ = some (.slice ao0 L0.length ac0) := by go_cell
  have a1_1 : (w.alloc (.cells #[.slice ao0 L0.length ac0, .slice fo L1.length fc] 36)).cell? ⟨w.heap.size, 1, none⟩ = some (.slice fo L1.length fc) := by go_cell
  have al_1 : w.heap.size < (w.alloc (.cells #[.slice ao0 L0.length ac0, .slice fo L1.length fc] 36)).heap.size := by first | (simp; done) | (simp; omega)
  have c1 : Below w.heap.size w (w.alloc (.cells #[.slice ao0 L0.length ac0, .slice fo L1.length fc] 36)) := by go_grown
  have s1 : (w.alloc (.cells #[.slice ao0 L0.length ac0, .slice fo L1.length fc] 36)).heap.size = w.heap.size + 1 := by simp
  generalize (w.alloc (.cells #[.slice ao0 L0.length ac0, .slice fo L1.length fc] 36)) = w1 at a0_1 a1_1 al_1 c1 s1 ⊢
  have qa0_1 := cell_regrown a0_1
  have qa1_1 := cell_regrown a1_1
  have HA0_1 := hid (HA0.out.later c1)
  have HF_1 := hid (HF.out.later c1)
  have HN1 : Hid (Only (Span g C) w w1) := hid (Only.later c1)
  refine (markItemS_any _ L0 1 (Span (g + 1) C) _ HA0_1.out (by omega) (by omega)).mono ?_
  rintro e w2 ⟨rfl, ho, hn⟩
  have a0_2 := (World.cell?_of_block (a := ⟨w.heap.size, 0, none⟩) (hn.block w.heap.size (by have := al_1; omega) (fun q => by have := q.2; omega))).trans a0_1
  have a1_2 := (World.cell?_of_block (a := ⟨w.heap.size, 1, none⟩) (hn.block w.heap.size (by have := al_1; omega) (fun q => by have := q.2; omega))).trans a1_1
  have al_2 : w.heap.size < w2.heap.size := Nat.lt_of_lt_of_le al_1 hn.size
  have HN2 := hid (HN1.out.trans (hn.mono (fun b hb => ⟨Nat.le_of_succ_le hb.1, hb.2⟩)))
  have HA0_2 := hid ho
  have HF_2 := hid (HF_1.out.agree (fun hg => hn.block g hg (fun q => Nat.lt_irrefl _ q.1)))
  clear ho hn HN1 HA0_1 HF_1 a0_1 a1_1
  go_wp2_with fail
  refine (markFl_any g _ L1 (1 + cntM 3 L0) _ HF_2.out (by omega) (by omega)).mono ?_
  rintro e w3 ⟨rfl, ho, hn⟩
  have HN3 := hid (HN2.out.trans (hn.mono (fun b hb => ⟨Nat.le_of_eq hb.symm, by rw [hb]; exact hgC⟩)))
  have HA0_3 := hid (HA0_2.out.only hn (fun b hb _ hc => by have := hb.1; omega))
  have HF_3 := hid ho
  clear ho hn HN2 HA0_2 HF_2 a0_2 a1_2
  go_wp2
  go_ret
  exact ⟨by simp, HA0_3.out, HF_3.out, HN3.out⟩
theorem cntM_le19 (L : List KD) (h : ∀ x ∈ L, x.2.length ≤ 8) : cntM 3 L ≤ 19 * (L.length : Int) := by
  induction L with
  | nil => simp [cntM]
  | cons x r ih =>
    have h1 := ih (fun y hy => h y (List.mem_cons_of_mem _ hy))
    have h2 := h x (List.mem_cons_self ..)
    rw [cntM_cons, List.length_cons]
    unfold cntK
    omega
theorem ansD_small {w : World} {v : Value} (I F : List KD) (key : Int) (h1 : RdM 1 1 false w v F) : 1 + cntM 3 (ansD I F key).1 + cntM 1 (ansD I F key).2 ≤ 1099511627776 := by
  unfold ansD
  split
  · rename_i hok
    have hs := okC_small hok
    have hf := (floF_of h1 (okC_iff.1 hok).1).all
    have h3 := cntM_le19 (dropI key I) (fun x hx => hs.2 x (List.mem_filter.1 hx).1)
    have h4 : (dropI key I).length ≤ I.length := List.length_filter_le _ _
    simp only
    rw [hf]
    omega
  · simp [cntM]
theorem ansF_small {w : World} {v : Value} (I F : List KD) (key ver : Int) (h1 : RdM 1 1 false w v F) : 1 + cntM 3 (ansF I F key ver).1 + cntM 1 (ansF I F key ver).2 ≤ 1099511627776 := by
  unfold ansF
  split
  · rename_i hok
    have hs := okC_small hok
    have hfl := floF_of h1 (okC_iff.1 hok).1
    split
    · rename_i hra
      have hk : 0 ≤ key ∧ key < 24 := by
        have : keyIn key = true := by simp [raB] at hra; exact hra.1
        simpa [keyIn] using this
      have hf := (hfl.set key.toNat ver (by omega)).all
      have h3 := cntM_le19 (dropI key I) (fun x hx => hs.2 x (List.mem_filter.1 hx).1)
      have h4 : (dropI key I).length ≤ I.length := List.length_filter_le _ _
      simp only [putF]
      rw [hf]
      omega
    · have h3 := cntM_le19 I hs.2
      simp only
      rw [hfl.all]
      omega
  · simp [cntM]
end Go.Proofs.Ytnenlnadmdlcfaa

/- Part: A cache with a greater floor, as the document has it: spec.l5Floor, spec.CacheFloor: contracts. Written by a program (gspf.py). -/
namespace Go.Proofs.Ytnenlnadmdlcfaa
open Go.RowKit
attribute [local go_sem ↓] Go.wp_at_zero Go.wp_at_succ

theorem RdK.weaken {G G' : Nat → Prop} {w : World} {v : Value} {L : List KD} (h : RdK G w v L) (hs : ∀ q, q < w.heap.size → G' q → G q) : RdK G' w v L := by
  obtain ⟨ao, cap, rfl, hl, hc⟩ := h
  refine ⟨ao, cap, rfl, hl, fun h0 => ?_⟩
  obtain ⟨b, off, rfl, hb, hbg, hcc⟩ := hc h0
  refine ⟨b, off, rfl, hb, fun q => hbg (hs b hb q), fun i hi => ?_⟩
  obtain ⟨p0, p1, p2, l, u, hx, c0, c1, c2, c3, hu, hn⟩ := hcc i hi
  exact ⟨p0, p1, p2, l, u, hx, c0, c1, c2, c3, hu, fun h1 q hq hG => hn h1 q hq (hs q (hu.own_lt h1 q hq) hG)⟩
set_option maxRecDepth 100000 in
set_option maxHeartbeats 4000000 in
theorem l5Floor_any (N g c B : Nat) (v0 : Value) (I F : List KD) (key ver : Int) (w : World) (hK : RdK (fun q => q < N) w v0 I) (hN : N ≤ w.heap.size) (hg : g < N) (hrow : w.ownsRow B 3 1 (.slice (some ⟨g, 0, none⟩) 24 c) 24 (floC F)) (hf : FloF F) (h4 : I.length ≤ 1000)
    {D : List KD × List KD} (hD : (if raB F key ver then (dropI key I, putF F key ver) else (I, F)) = D) :
    Calls Try.prog 47 #[.agg #[v0, .slice (some ⟨g, 0, none⟩) 24 c], .int .i64 key, .int .i64 ver] w fun e w' => (∃ v, e = .returned (.agg #[v, .slice (some ⟨g, 0, none⟩) 24 c]) ∧ RdK (fun q => q < N) w' v D.1 ∧ w'.ownsRow B 3 1 (.slice (some ⟨g, 0, none⟩) 24 c) 24 (floC D.2)) ∧ Only (fun b => b = g) w w' := by
  have HK := hid hK
  have HROW := hid hrow
  have HFL := hid hf
  obtain ⟨vo, vc, rfl, _⟩ := hK
  clear hrow hf
  by_cases hin : 0 ≤ key ∧ key < 24
  · obtain ⟨kk, rfl⟩ := Int.eq_ofNat_of_zero_le hin.1
    have hk24 : kk < 24 := by omega
    have hkl : keyIn (kk : Int) = true := by simp [keyIn]; omega
    have n0 : ¬ ((kk : Int) < 0) := by omega
    have n1 : ¬ ((kk : Int) ≥ 24) := by omega
    have HFL1 := hid (show kk < F.length from by rw [HFL.out.1]; exact hk24)
    by_cases hle : ver ≤ flr F kk
    · have hr : raB F (kk : Int) ver = false := by simp [raB, hkl]; omega
      rw [hr] at hD
      simp only [Bool.false_eq_true, if_false] at hD
      subst hD
      go_enter Try.func47, Try.ntmps47
      go_upto_region 1 with fail
      have a0_1 : ((w.alloc (.cells #[.slice vo I.length vc, .slice (some ⟨g, 0, none⟩) 24 c] 36)).alloc (.cells #[.slice none 0 0, .slice none 0 0] 36)).cell? ⟨w.heap.size, 0, none⟩ = some (.slice vo I.length vc) := by go_cell
      have a1_1 : ((w.alloc (.cells #[.slice vo I.length vc, .slice (some ⟨g, 0, none⟩) 24 c] 36)).alloc (.cells #[.slice none 0 0, .slice none 0 0] 36)).cell? ⟨w.heap.size, 1, none⟩ = some (.slice (some ⟨g, 0, none⟩) 24 c) := by go_cell
      have al_1 : w.heap.size < ((w.alloc (.cells #[.slice vo I.length vc, .slice (some ⟨g, 0, none⟩) 24 c] 36)).alloc (.cells #[.slice none 0 0, .slice none 0 0] 36)).heap.size := by first | (simp; done) | (simp; omega)
      have r0_1 : ((w.alloc (.cells #[.slice vo I.length vc, .slice (some ⟨g, 0, none⟩) 24 c] 36)).alloc (.cells #[.slice none 0 0, .slice none 0 0] 36)).cell? ⟨w.heap.size + 1, 0, none⟩ = some (.slice none 0 0) := by go_cell
      have rf0_1 : ((w.alloc (.cells #[.slice vo I.length vc, .slice (some ⟨g, 0, none⟩) 24 c] 36)).alloc (.cells #[.slice none 0 0, .slice none 0 0] 36)).frozen? ⟨w.heap.size + 1, 0, none⟩ = false := by (first | go_cell | (simp [World.frozen?, World.alloc]; done) | rfl)
      have r1_1 : ((w.alloc (.cells #[.slice vo I.length vc, .slice (some ⟨g, 0, none⟩) 24 c] 36)).alloc (.cells #[.slice none 0 0, .slice none 0 0] 36)).cell? ⟨w.heap.size + 1, 1, none⟩ = some (.slice none 0 0) := by go_cell
      have rf1_1 : ((w.alloc (.cells #[.slice vo I.length vc, .slice (some ⟨g, 0, none⟩) 24 c] 36)).alloc (.cells #[.slice none 0 0, .slice none 0 0] 36)).frozen? ⟨w.heap.size + 1, 1, none⟩ = false := by (first | go_cell | (simp [World.frozen?, World.alloc]; done) | rfl)
      have rl_1 : w.heap.size + 1 < ((w.alloc (.cells #[.slice vo I.length vc, .slice (some ⟨g, 0, none⟩) 24 c] 36)).alloc (.cells #[.slice none 0 0, .slice none 0 0] 36)).heap.size := by first | (simp; done) | (simp; omega)
      have c1 : Below w.heap.size w ((w.alloc (.cells #[.slice vo I.length vc, .slice (some ⟨g, 0, none⟩) 24 c] 36)).alloc (.cells #[.slice none 0 0, .slice none 0 0] 36)) := by go_grown
      have s1 : ((w.alloc (.cells #[.slice vo I.length vc, .slice (some ⟨g, 0, none⟩) 24 c] 36)).alloc (.cells #[.slice none 0 0, .slice none 0 0] 36)).heap.size = w.heap.size + 2 := by simp
      generalize ((w.alloc (.cells #[.slice vo I.length vc, .slice (some ⟨g, 0, none⟩) 24 c] 36)).alloc (.cells #[.slice none 0 0, .slice none 0 0] 36)) = w1 at a0_1 a1_1 al_1 r0_1 rf0_1 r1_1 rf1_1 rl_1 c1 s1 ⊢
      have qa0_1 := cell_regrown a0_1
      have qa1_1 := cell_regrown a1_1
      have qr0_1 := cell_regrown r0_1
      have qr1_1 := cell_regrown r1_1
      clear qa0_1 qa1_1 qr0_1 qr1_1
      have S1 := hid s1
      clear s1
      have HROW1 := hid (row_later HROW.out c1)
      have f1 : w1.cell? ⟨g, kk, none⟩ = some (.int .i64 (flr F kk)) := by rw [World.ownsRow.cellAt HROW1.out kk (by omega), floC_get HFL1.out]
      have C1 := hid c1
      go_wp2_with fail
      have KB := (C1.out.setCell (p := ⟨w.heap.size + 1, 0, none⟩) (by show w.heap.size ≤ w.heap.size + 1; omega) (.slice vo I.length vc)).setCell (p := ⟨w.heap.size + 1, 1, none⟩) (by show w.heap.size ≤ w.heap.size + 1; omega) (.slice (some ⟨g, 0, none⟩) 24 c)
      have e0 : ((w1.setCell ⟨w.heap.size + 1, 0, none⟩ (.slice vo I.length vc)).setCell ⟨w.heap.size + 1, 1, none⟩ (.slice (some ⟨g, 0, none⟩) 24 c)).cell? ⟨w.heap.size + 1, 0, none⟩ = some (.slice vo I.length vc) := by go_cell
      have e1 : ((w1.setCell ⟨w.heap.size + 1, 0, none⟩ (.slice vo I.length vc)).setCell ⟨w.heap.size + 1, 1, none⟩ (.slice (some ⟨g, 0, none⟩) 24 c)).cell? ⟨w.heap.size + 1, 1, none⟩ = some (.slice (some ⟨g, 0, none⟩) 24 c) := by go_cell
      exact bodyPost_ret (v := .agg #[.slice vo I.length vc, .slice (some ⟨g, 0, none⟩) 24 c]) (by simp [results, Try.results47, go_sem, e0, e1]) rfl ⟨⟨_, rfl, HK.out.later KB, row_later HROW.out KB⟩, Only.later KB⟩
    · by_cases hgt : ver > 60
      · have hr : raB F (kk : Int) ver = false := by simp [raB, hkl]; omega
        rw [hr] at hD
        simp only [Bool.false_eq_true, if_false] at hD
        subst hD
        go_enter Try.func47, Try.ntmps47
        go_upto_region 1 with fail
        have a0_1 : ((w.alloc (.cells #[.slice vo I.length vc, .slice (some ⟨g, 0, none⟩) 24 c] 36)).alloc (.cells #[.slice none 0 0, .slice none 0 0] 36)).cell? ⟨w.heap.size, 0, none⟩ = some (.slice vo I.length vc) := by go_cell
        have a1_1 : ((w.alloc (.cells #[.slice vo I.length vc, .slice (some ⟨g, 0, none⟩) 24 c] 36)).alloc (.cells #[.slice none 0 0, .slice none 0 0] 36)).cell? ⟨w.heap.size, 1, none⟩ = some (.slice (some ⟨g, 0, none⟩) 24 c) := by go_cell
        have al_1 : w.heap.size < ((w.alloc (.cells #[.slice vo I.length vc, .slice (some ⟨g, 0, none⟩) 24 c] 36)).alloc (.cells #[.slice none 0 0, .slice none 0 0] 36)).heap.size := by first | (simp; done) | (simp; omega)
        have r0_1 : ((w.alloc (.cells #[.slice vo I.length vc, .slice (some ⟨g, 0, none⟩) 24 c] 36)).alloc (.cells #[.slice none 0 0, .slice none 0 0] 36)).cell? ⟨w.heap.size + 1, 0, none⟩ = some (.slice none 0 0) := by go_cell
        have rf0_1 : ((w.alloc (.cells #[.slice vo I.length vc, .slice (some ⟨g, 0, none⟩) 24 c] 36)).alloc (.cells #[.slice none 0 0, .slice none 0 0] 36)).frozen? ⟨w.heap.size + 1, 0, none⟩ = false := by (first | go_cell | (simp [World.frozen?, World.alloc]; done) | rfl)
        have r1_1 : ((w.alloc (.cells #[.slice vo I.length vc, .slice (some ⟨g, 0, none⟩) 24 c] 36)).alloc (.cells #[.slice none 0 0, .slice none 0 0] 36)).cell? ⟨w.heap.size + 1, 1, none⟩ = some (.slice none 0 0) := by go_cell
        have rf1_1 : ((w.alloc (.cells #[.slice vo I.length vc, .slice (some ⟨g, 0, none⟩) 24 c] 36)).alloc (.cells #[.slice none 0 0, .slice none 0 0] 36)).frozen? ⟨w.heap.size + 1, 1, none⟩ = false := by (first | go_cell | (simp [World.frozen?, World.alloc]; done) | rfl)
        have rl_1 : w.heap.size + 1 < ((w.alloc (.cells #[.slice vo I.length vc, .slice (some ⟨g, 0, none⟩) 24 c] 36)).alloc (.cells #[.slice none 0 0, .slice none 0 0] 36)).heap.size := by first | (simp; done) | (simp; omega)
        have c1 : Below w.heap.size w ((w.alloc (.cells #[.slice vo I.length vc, .slice (some ⟨g, 0, none⟩) 24 c] 36)).alloc (.cells #[.slice none 0 0, .slice none 0 0] 36)) := by go_grown
        have s1 : ((w.alloc (.cells #[.slice vo I.length vc, .slice (some ⟨g, 0, none⟩) 24 c] 36)).alloc (.cells #[.slice none 0 0, .slice none 0 0] 36)).heap.size = w.heap.size + 2 := by simp
        generalize ((w.alloc (.cells #[.slice vo I.length vc, .slice (some ⟨g, 0, none⟩) 24 c] 36)).alloc (.cells #[.slice none 0 0, .slice none 0 0] 36)) = w1 at a0_1 a1_1 al_1 r0_1 rf0_1 r1_1 rf1_1 rl_1 c1 s1 ⊢
        have qa0_1 := cell_regrown a0_1
        have qa1_1 := cell_regrown a1_1
        have qr0_1 := cell_regrown r0_1
        have qr1_1 := cell_regrown r1_1
        clear qa0_1 qa1_1 qr0_1 qr1_1
        have S1 := hid s1
        clear s1
        have HROW1 := hid (row_later HROW.out c1)
        have f1 : w1.cell? ⟨g, kk, none⟩ = some (.int .i64 (flr F kk)) := by rw [World.ownsRow.cellAt HROW1.out kk (by omega), floC_get HFL1.out]
        have C1 := hid c1
        go_wp2_with fail
        have KB := (C1.out.setCell (p := ⟨w.heap.size + 1, 0, none⟩) (by show w.heap.size ≤ w.heap.size + 1; omega) (.slice vo I.length vc)).setCell (p := ⟨w.heap.size + 1, 1, none⟩) (by show w.heap.size ≤ w.heap.size + 1; omega) (.slice (some ⟨g, 0, none⟩) 24 c)
        have e0 : ((w1.setCell ⟨w.heap.size + 1, 0, none⟩ (.slice vo I.length vc)).setCell ⟨w.heap.size + 1, 1, none⟩ (.slice (some ⟨g, 0, none⟩) 24 c)).cell? ⟨w.heap.size + 1, 0, none⟩ = some (.slice vo I.length vc) := by go_cell
        have e1 : ((w1.setCell ⟨w.heap.size + 1, 0, none⟩ (.slice vo I.length vc)).setCell ⟨w.heap.size + 1, 1, none⟩ (.slice (some ⟨g, 0, none⟩) 24 c)).cell? ⟨w.heap.size + 1, 1, none⟩ = some (.slice (some ⟨g, 0, none⟩) 24 c) := by go_cell
        exact bodyPost_ret (v := .agg #[.slice vo I.length vc, .slice (some ⟨g, 0, none⟩) 24 c]) (by simp [results, Try.results47, go_sem, e0, e1]) rfl ⟨⟨_, rfl, HK.out.later KB, row_later HROW.out KB⟩, Only.later KB⟩
      · have hr : raB F (kk : Int) ver = true := by simp [raB, hkl]; omega
        rw [hr] at hD
        simp only [if_true] at hD
        subst hD
        have HIN := hid hin
        clear hin hkl hr
        go_enter Try.func47, Try.ntmps47
        go_upto_region 1 with fail
        have a0_1 : ((w.alloc (.cells #[.slice vo I.length vc, .slice (some ⟨g, 0, none⟩) 24 c] 36)).alloc (.cells #[.slice none 0 0, .slice none 0 0] 36)).cell? ⟨w.heap.size, 0, none⟩ = some (.slice vo I.length vc) := by go_cell
        have af0_1 : ((w.alloc (.cells #[.slice vo I.length vc, .slice (some ⟨g, 0, none⟩) 24 c] 36)).alloc (.cells #[.slice none 0 0, .slice none 0 0] 36)).frozen? ⟨w.heap.size, 0, none⟩ = false := by (first | go_cell | (simp [World.frozen?, World.alloc]; done) | rfl)
        have a1_1 : ((w.alloc (.cells #[.slice vo I.length vc, .slice (some ⟨g, 0, none⟩) 24 c] 36)).alloc (.cells #[.slice none 0 0, .slice none 0 0] 36)).cell? ⟨w.heap.size, 1, none⟩ = some (.slice (some ⟨g, 0, none⟩) 24 c) := by go_cell
        have af1_1 : ((w.alloc (.cells #[.slice vo I.length vc, .slice (some ⟨g, 0, none⟩) 24 c] 36)).alloc (.cells #[.slice none 0 0, .slice none 0 0] 36)).frozen? ⟨w.heap.size, 1, none⟩ = false := by (first | go_cell | (simp [World.frozen?, World.alloc]; done) | rfl)
        have al_1 : w.heap.size < ((w.alloc (.cells #[.slice vo I.length vc, .slice (some ⟨g, 0, none⟩) 24 c] 36)).alloc (.cells #[.slice none 0 0, .slice none 0 0] 36)).heap.size := by first | (simp; done) | (simp; omega)
        have r0_1 : ((w.alloc (.cells #[.slice vo I.length vc, .slice (some ⟨g, 0, none⟩) 24 c] 36)).alloc (.cells #[.slice none 0 0, .slice none 0 0] 36)).cell? ⟨w.heap.size + 1, 0, none⟩ = some (.slice none 0 0) := by go_cell
        have rf0_1 : ((w.alloc (.cells #[.slice vo I.length vc, .slice (some ⟨g, 0, none⟩) 24 c] 36)).alloc (.cells #[.slice none 0 0, .slice none 0 0] 36)).frozen? ⟨w.heap.size + 1, 0, none⟩ = false := by (first | go_cell | (simp [World.frozen?, World.alloc]; done) | rfl)
        have r1_1 : ((w.alloc (.cells #[.slice vo I.length vc, .slice (some ⟨g, 0, none⟩) 24 c] 36)).alloc (.cells #[.slice none 0 0, .slice none 0 0] 36)).cell? ⟨w.heap.size + 1, 1, none⟩ = some (.slice none 0 0) := by go_cell
        have rf1_1 : ((w.alloc (.cells #[.slice vo I.length vc, .slice (some ⟨g, 0, none⟩) 24 c] 36)).alloc (.cells #[.slice none 0 0, .slice none 0 0] 36)).frozen? ⟨w.heap.size + 1, 1, none⟩ = false := by (first | go_cell | (simp [World.frozen?, World.alloc]; done) | rfl)
        have rl_1 : w.heap.size + 1 < ((w.alloc (.cells #[.slice vo I.length vc, .slice (some ⟨g, 0, none⟩) 24 c] 36)).alloc (.cells #[.slice none 0 0, .slice none 0 0] 36)).heap.size := by first | (simp; done) | (simp; omega)
        have c1 : Below w.heap.size w ((w.alloc (.cells #[.slice vo I.length vc, .slice (some ⟨g, 0, none⟩) 24 c] 36)).alloc (.cells #[.slice none 0 0, .slice none 0 0] 36)) := by go_grown
        have s1 : ((w.alloc (.cells #[.slice vo I.length vc, .slice (some ⟨g, 0, none⟩) 24 c] 36)).alloc (.cells #[.slice none 0 0, .slice none 0 0] 36)).heap.size = w.heap.size + 2 := by simp
        generalize ((w.alloc (.cells #[.slice vo I.length vc, .slice (some ⟨g, 0, none⟩) 24 c] 36)).alloc (.cells #[.slice none 0 0, .slice none 0 0] 36)) = w1 at a0_1 af0_1 a1_1 af1_1 al_1 r0_1 rf0_1 r1_1 rf1_1 rl_1 c1 s1 ⊢
        have qa0_1 := cell_regrown a0_1
        have qa1_1 := cell_regrown a1_1
        have qr0_1 := cell_regrown r0_1
        have qr1_1 := cell_regrown r1_1
        clear qa0_1 qa1_1 qr0_1 qr1_1
        have S1 := hid s1
        have hz1 : w1.heap.size = w.heap.size + 2 := s1
        have HZ1 := hid hz1
        clear s1 hz1
        have HROW1 := hid (row_later HROW.out c1)
        have f1 : w1.cell? ⟨g, kk, none⟩ = some (.int .i64 (flr F kk)) := by rw [World.ownsRow.cellAt HROW1.out kk (by omega), floC_get HFL1.out]
        have C1 := hid c1
        have hw01 := c1.size
        have K1 := hid ((HK.out.weaken (G' := fun q => q < N ∨ (w.heap.size ≤ q ∧ q < w1.heap.size)) (fun q hq hG => hG.elim id (fun h => by omega))).later c1)
        go_wp2_with fail
        refine (l5Drop_any (fun q => q < N ∨ (w.heap.size ≤ q ∧ q < w1.heap.size)) _ (some ⟨g, 0, none⟩) 24 c I (kk : Int) _ K1.out (fun q hq hG => hG.elim (fun h => by omega) (fun h => by omega)) h4).mono ?_
        rintro e w2 ⟨⟨x, rfl, hx⟩, b2⟩
        have HX := hid hx
        obtain ⟨xo, xc, rfl, _⟩ := hx
        have d2 : Below w1.heap.size w1 w2 := (Below.trans (by go_grown) (b2.mono (by first | omega | (simp; done) | (simp; omega))))
        have c2 : Below w.heap.size w w2 := c1.trans (d2.mono c1.size)
        have a0_2 : w2.cell? ⟨w.heap.size, 0, none⟩ = some (.slice vo I.length vc) := (by rw [b2.cell (by first | omega | (simp; done) | (simp; omega))]; go_cell)
        have af0_2 : w2.frozen? ⟨w.heap.size, 0, none⟩ = false := (by rw [b2.frozen (by first | omega | (simp; done) | (simp; omega))]; (first | go_cell | (simp [World.frozen?, World.alloc]; done) | rfl))
        have a1_2 : w2.cell? ⟨w.heap.size, 1, none⟩ = some (.slice (some ⟨g, 0, none⟩) 24 c) := (by rw [b2.cell (by first | omega | (simp; done) | (simp; omega))]; go_cell)
        have af1_2 : w2.frozen? ⟨w.heap.size, 1, none⟩ = false := (by rw [b2.frozen (by first | omega | (simp; done) | (simp; omega))]; (first | go_cell | (simp [World.frozen?, World.alloc]; done) | rfl))
        have al_2 : w.heap.size < w2.heap.size := (by have := b2.size; first | omega | (revert this; simp; done) | (revert this; simp; omega))
        have r0_2 : w2.cell? ⟨w.heap.size + 1, 0, none⟩ = some (.slice none 0 0) := (by rw [b2.cell (by first | omega | (simp; done) | (simp; omega))]; go_cell)
        have rf0_2 : w2.frozen? ⟨w.heap.size + 1, 0, none⟩ = false := (by rw [b2.frozen (by first | omega | (simp; done) | (simp; omega))]; (first | go_cell | (simp [World.frozen?, World.alloc]; done) | rfl))
        have r1_2 : w2.cell? ⟨w.heap.size + 1, 1, none⟩ = some (.slice none 0 0) := (by rw [b2.cell (by first | omega | (simp; done) | (simp; omega))]; go_cell)
        have rf1_2 : w2.frozen? ⟨w.heap.size + 1, 1, none⟩ = false := (by rw [b2.frozen (by first | omega | (simp; done) | (simp; omega))]; (first | go_cell | (simp [World.frozen?, World.alloc]; done) | rfl))
        have rl_2 : w.heap.size + 1 < w2.heap.size := (by have := b2.size; first | omega | (revert this; simp; done) | (revert this; simp; omega))
        clear a0_1 af0_1 a1_1 af1_1 al_1 r0_1 rf0_1 r1_1 rf1_1 rl_1
        have HROW2 := hid (row_later HROW1.out b2)
        have HC2 := hid c2
        have hgw : g < w.heap.size := by omega
        have HGL := hid (HROW2.out.lt g rfl)
        have qf := HROW2.out.frozenAt kk
        obtain ⟨z, hz⟩ := row_cell HROW2.out kk (by omega)
        clear b2 d2 f1 HROW1 K1
        go_wp2_with fail
        have e0 : (((((w2.setCell ⟨w.heap.size, 0, none⟩ (.slice xo (dropI (kk : Int) I).length xc)).setCell ⟨w.heap.size, 1, none⟩ (.slice (some ⟨g, 0, none⟩) 24 c)).setCell ⟨g, kk, none⟩ (.int .i64 ver)).setCell ⟨w.heap.size + 1, 0, none⟩ (.slice xo (dropI (kk : Int) I).length xc)).setCell ⟨w.heap.size + 1, 1, none⟩ (.slice (some ⟨g, 0, none⟩) 24 c)).cell? ⟨w.heap.size + 1, 0, none⟩ = some (.slice xo (dropI (kk : Int) I).length xc) := by go_cell
        have e1 : (((((w2.setCell ⟨w.heap.size, 0, none⟩ (.slice xo (dropI (kk : Int) I).length xc)).setCell ⟨w.heap.size, 1, none⟩ (.slice (some ⟨g, 0, none⟩) 24 c)).setCell ⟨g, kk, none⟩ (.int .i64 ver)).setCell ⟨w.heap.size + 1, 0, none⟩ (.slice xo (dropI (kk : Int) I).length xc)).setCell ⟨w.heap.size + 1, 1, none⟩ (.slice (some ⟨g, 0, none⟩) 24 c)).cell? ⟨w.heap.size + 1, 1, none⟩ = some (.slice (some ⟨g, 0, none⟩) 24 c) := by go_cell
        have zz := HZ1.out
        have q0 : ∀ (W : World) (u : Value), Only (fun q => q < N ∨ (w.heap.size ≤ q ∧ q < w1.heap.size)) W (W.setCell ⟨w.heap.size, 0, none⟩ u) := fun W u => Only.set (F := fun q => q < N ∨ (w.heap.size ≤ q ∧ q < w1.heap.size)) W (p := ⟨w.heap.size, 0, none⟩) (Or.inr ⟨Nat.le_refl _, by show w.heap.size < _; omega⟩) u
        have q1 : ∀ (W : World) (u : Value), Only (fun q => q < N ∨ (w.heap.size ≤ q ∧ q < w1.heap.size)) W (W.setCell ⟨w.heap.size, 1, none⟩ u) := fun W u => Only.set (F := fun q => q < N ∨ (w.heap.size ≤ q ∧ q < w1.heap.size)) W (p := ⟨w.heap.size, 1, none⟩) (Or.inr ⟨Nat.le_refl _, by show w.heap.size < _; omega⟩) u
        have q2 : ∀ (W : World) (u : Value), Only (fun q => q < N ∨ (w.heap.size ≤ q ∧ q < w1.heap.size)) W (W.setCell ⟨g, kk, none⟩ u) := fun W u => Only.set (F := fun q => q < N ∨ (w.heap.size ≤ q ∧ q < w1.heap.size)) W (p := ⟨g, kk, none⟩) (Or.inl hg) u
        have q3 : ∀ (t : Nat) (W : World) (u : Value), Only (fun q => q < N ∨ (w.heap.size ≤ q ∧ q < w1.heap.size)) W (W.setCell ⟨w.heap.size + 1, t, none⟩ u) := fun t W u => Only.set (F := fun q => q < N ∨ (w.heap.size ≤ q ∧ q < w1.heap.size)) W (p := ⟨w.heap.size + 1, t, none⟩) (Or.inr ⟨by show w.heap.size ≤ w.heap.size + 1; omega, by show w.heap.size + 1 < _; omega⟩) u
        have R9 := (HX.out.only (((((q0 w2 (.slice xo (dropI (kk : Int) I).length xc)).trans (q1 _ (.slice (some ⟨g, 0, none⟩) 24 c))).trans (q2 _ (.int .i64 ver))).trans (q3 0 _ (.slice xo (dropI (kk : Int) I).length xc))).trans (q3 1 _ (.slice (some ⟨g, 0, none⟩) 24 c)))).weaken (G' := fun q => q < N) (fun q _ h => Or.inl h)
        have F3 := row_put1 (row_agree (row_agree HROW2.out (w' := w2.setCell ⟨w.heap.size, 0, none⟩ (.slice xo (dropI (kk : Int) I).length xc)) (fun q hq => by cases hq; exact Below.heap_setCell _ _ _ _ (by show g ≠ w.heap.size; omega))) (w' := (w2.setCell ⟨w.heap.size, 0, none⟩ (.slice xo (dropI (kk : Int) I).length xc)).setCell ⟨w.heap.size, 1, none⟩ (.slice (some ⟨g, 0, none⟩) 24 c)) (fun q hq => by cases hq; exact Below.heap_setCell _ _ _ _ (by show g ≠ w.heap.size; omega))) kk (.int .i64 ver)
        rw [floC_set] at F3
        have F9 := row_agree (row_agree F3 (w' := (((w2.setCell ⟨w.heap.size, 0, none⟩ (.slice xo (dropI (kk : Int) I).length xc)).setCell ⟨w.heap.size, 1, none⟩ (.slice (some ⟨g, 0, none⟩) 24 c)).setCell ⟨g, kk, none⟩ (.int .i64 ver)).setCell ⟨w.heap.size + 1, 0, none⟩ (.slice xo (dropI (kk : Int) I).length xc)) (fun q hq => by cases hq; exact Below.heap_setCell _ _ _ _ (by show g ≠ w.heap.size + 1; omega))) (w' := ((((w2.setCell ⟨w.heap.size, 0, none⟩ (.slice xo (dropI (kk : Int) I).length xc)).setCell ⟨w.heap.size, 1, none⟩ (.slice (some ⟨g, 0, none⟩) 24 c)).setCell ⟨g, kk, none⟩ (.int .i64 ver)).setCell ⟨w.heap.size + 1, 0, none⟩ (.slice xo (dropI (kk : Int) I).length xc)).setCell ⟨w.heap.size + 1, 1, none⟩ (.slice (some ⟨g, 0, none⟩) 24 c)) (fun q hq => by cases hq; exact Below.heap_setCell _ _ _ _ (by show g ≠ w.heap.size + 1; omega))
        have O9 : Only (fun b => b = g) w (((((w2.setCell ⟨w.heap.size, 0, none⟩ (.slice xo (dropI (kk : Int) I).length xc)).setCell ⟨w.heap.size, 1, none⟩ (.slice (some ⟨g, 0, none⟩) 24 c)).setCell ⟨g, kk, none⟩ (.int .i64 ver)).setCell ⟨w.heap.size + 1, 0, none⟩ (.slice xo (dropI (kk : Int) I).length xc)).setCell ⟨w.heap.size + 1, 1, none⟩ (.slice (some ⟨g, 0, none⟩) 24 c)) := by
          refine ⟨HC2.out.os, HC2.out.tape, HC2.out.output, by have := HC2.out.size; simp; exact this, fun q hq hne => ?_⟩
          exact (Below.heap_setCell _ _ _ _ (by show q ≠ w.heap.size + 1; omega)).trans ((Below.heap_setCell _ _ _ _ (by show q ≠ w.heap.size + 1; omega)).trans ((Below.heap_setCell _ _ _ _ (by show q ≠ g; exact hne)).trans ((Below.heap_setCell _ _ _ _ (by show q ≠ w.heap.size; omega)).trans ((Below.heap_setCell _ _ _ _ (by show q ≠ w.heap.size; omega)).trans (HC2.out.block q hq)))))
        exact bodyPost_ret (v := .agg #[.slice xo (dropI (kk : Int) I).length xc, .slice (some ⟨g, 0, none⟩) 24 c]) (by simp [results, Try.results47, go_sem, e0, e1]) rfl ⟨⟨_, rfl, R9, F9⟩, O9⟩
  · have hkl : keyIn key = false := by
      cases h : keyIn key with
      | false => rfl
      | true => exact absurd (by simpa [keyIn] using h) hin
    have hr : raB F key ver = false := by simp [raB, hkl]
    rw [hr] at hD
    simp only [Bool.false_eq_true, if_false] at hD
    subst hD
    by_cases n0 : key < 0
    · skip
      go_enter Try.func47, Try.ntmps47
      go_upto_region 1 with fail
      have a0_1 : ((w.alloc (.cells #[.slice vo I.length vc, .slice (some ⟨g, 0, none⟩) 24 c] 36)).alloc (.cells #[.slice none 0 0, .slice none 0 0] 36)).cell? ⟨w.heap.size, 0, none⟩ = some (.slice vo I.length vc) := by go_cell
      have a1_1 : ((w.alloc (.cells #[.slice vo I.length vc, .slice (some ⟨g, 0, none⟩) 24 c] 36)).alloc (.cells #[.slice none 0 0, .slice none 0 0] 36)).cell? ⟨w.heap.size, 1, none⟩ = some (.slice (some ⟨g, 0, none⟩) 24 c) := by go_cell
      have al_1 : w.heap.size < ((w.alloc (.cells #[.slice vo I.length vc, .slice (some ⟨g, 0, none⟩) 24 c] 36)).alloc (.cells #[.slice none 0 0, .slice none 0 0] 36)).heap.size := by first | (simp; done) | (simp; omega)
      have r0_1 : ((w.alloc (.cells #[.slice vo I.length vc, .slice (some ⟨g, 0, none⟩) 24 c] 36)).alloc (.cells #[.slice none 0 0, .slice none 0 0] 36)).cell? ⟨w.heap.size + 1, 0, none⟩ = some (.slice none 0 0) := by go_cell
      have rf0_1 : ((w.alloc (.cells #[.slice vo I.length vc, .slice (some ⟨g, 0, none⟩) 24 c] 36)).alloc (.cells #[.slice none 0 0, .slice none 0 0] 36)).frozen? ⟨w.heap.size + 1, 0, none⟩ = false := by (first | go_cell | (simp [World.frozen?, World.alloc]; done) | rfl)
      have r1_1 : ((w.alloc (.cells #[.slice vo I.length vc, .slice (some ⟨g, 0, none⟩) 24 c] 36)).alloc (.cells #[.slice none 0 0, .slice none 0 0] 36)).cell? ⟨w.heap.size + 1, 1, none⟩ = some (.slice none 0 0) := by go_cell
      have rf1_1 : ((w.alloc (.cells #[.slice vo I.length vc, .slice (some ⟨g, 0, none⟩) 24 c] 36)).alloc (.cells #[.slice none 0 0, .slice none 0 0] 36)).frozen? ⟨w.heap.size + 1, 1, none⟩ = false := by (first | go_cell | (simp [World.frozen?, World.alloc]; done) | rfl)
      have rl_1 : w.heap.size + 1 < ((w.alloc (.cells #[.slice vo I.length vc, .slice (some ⟨g, 0, none⟩) 24 c] 36)).alloc (.cells #[.slice none 0 0, .slice none 0 0] 36)).heap.size := by first | (simp; done) | (simp; omega)
      have c1 : Below w.heap.size w ((w.alloc (.cells #[.slice vo I.length vc, .slice (some ⟨g, 0, none⟩) 24 c] 36)).alloc (.cells #[.slice none 0 0, .slice none 0 0] 36)) := by go_grown
      have s1 : ((w.alloc (.cells #[.slice vo I.length vc, .slice (some ⟨g, 0, none⟩) 24 c] 36)).alloc (.cells #[.slice none 0 0, .slice none 0 0] 36)).heap.size = w.heap.size + 2 := by simp
      generalize ((w.alloc (.cells #[.slice vo I.length vc, .slice (some ⟨g, 0, none⟩) 24 c] 36)).alloc (.cells #[.slice none 0 0, .slice none 0 0] 36)) = w1 at a0_1 a1_1 al_1 r0_1 rf0_1 r1_1 rf1_1 rl_1 c1 s1 ⊢
      have qa0_1 := cell_regrown a0_1
      have qa1_1 := cell_regrown a1_1
      have qr0_1 := cell_regrown r0_1
      have qr1_1 := cell_regrown r1_1
      clear qa0_1 qa1_1 qr0_1 qr1_1
      have S1 := hid s1
      clear s1
      have C1 := hid c1
      go_wp2_with fail
      have KB := (C1.out.setCell (p := ⟨w.heap.size + 1, 0, none⟩) (by show w.heap.size ≤ w.heap.size + 1; omega) (.slice vo I.length vc)).setCell (p := ⟨w.heap.size + 1, 1, none⟩) (by show w.heap.size ≤ w.heap.size + 1; omega) (.slice (some ⟨g, 0, none⟩) 24 c)
      have e0 : ((w1.setCell ⟨w.heap.size + 1, 0, none⟩ (.slice vo I.length vc)).setCell ⟨w.heap.size + 1, 1, none⟩ (.slice (some ⟨g, 0, none⟩) 24 c)).cell? ⟨w.heap.size + 1, 0, none⟩ = some (.slice vo I.length vc) := by go_cell
      have e1 : ((w1.setCell ⟨w.heap.size + 1, 0, none⟩ (.slice vo I.length vc)).setCell ⟨w.heap.size + 1, 1, none⟩ (.slice (some ⟨g, 0, none⟩) 24 c)).cell? ⟨w.heap.size + 1, 1, none⟩ = some (.slice (some ⟨g, 0, none⟩) 24 c) := by go_cell
      exact bodyPost_ret (v := .agg #[.slice vo I.length vc, .slice (some ⟨g, 0, none⟩) 24 c]) (by simp [results, Try.results47, go_sem, e0, e1]) rfl ⟨⟨_, rfl, HK.out.later KB, row_later HROW.out KB⟩, Only.later KB⟩
    · have n1 : key ≥ 24 := by omega
      go_enter Try.func47, Try.ntmps47
      go_upto_region 1 with fail
      have a0_1 : ((w.alloc (.cells #[.slice vo I.length vc, .slice (some ⟨g, 0, none⟩) 24 c] 36)).alloc (.cells #[.slice none 0 0, .slice none 0 0] 36)).cell? ⟨w.heap.size, 0, none⟩ = some (.slice vo I.length vc) := by go_cell
      have a1_1 : ((w.alloc (.cells #[.slice vo I.length vc, .slice (some ⟨g, 0, none⟩) 24 c] 36)).alloc (.cells #[.slice none 0 0, .slice none 0 0] 36)).cell? ⟨w.heap.size, 1, none⟩ = some (.slice (some ⟨g, 0, none⟩) 24 c) := by go_cell
      have al_1 : w.heap.size < ((w.alloc (.cells #[.slice vo I.length vc, .slice (some ⟨g, 0, none⟩) 24 c] 36)).alloc (.cells #[.slice none 0 0, .slice none 0 0] 36)).heap.size := by first | (simp; done) | (simp; omega)
      have r0_1 : ((w.alloc (.cells #[.slice vo I.length vc, .slice (some ⟨g, 0, none⟩) 24 c] 36)).alloc (.cells #[.slice none 0 0, .slice none 0 0] 36)).cell? ⟨w.heap.size + 1, 0, none⟩ = some (.slice none 0 0) := by go_cell
      have rf0_1 : ((w.alloc (.cells #[.slice vo I.length vc, .slice (some ⟨g, 0, none⟩) 24 c] 36)).alloc (.cells #[.slice none 0 0, .slice none 0 0] 36)).frozen? ⟨w.heap.size + 1, 0, none⟩ = false := by (first | go_cell | (simp [World.frozen?, World.alloc]; done) | rfl)
      have r1_1 : ((w.alloc (.cells #[.slice vo I.length vc, .slice (some ⟨g, 0, none⟩) 24 c] 36)).alloc (.cells #[.slice none 0 0, .slice none 0 0] 36)).cell? ⟨w.heap.size + 1, 1, none⟩ = some (.slice none 0 0) := by go_cell
      have rf1_1 : ((w.alloc (.cells #[.slice vo I.length vc, .slice (some ⟨g, 0, none⟩) 24 c] 36)).alloc (.cells #[.slice none 0 0, .slice none 0 0] 36)).frozen? ⟨w.heap.size + 1, 1, none⟩ = false := by (first | go_cell | (simp [World.frozen?, World.alloc]; done) | rfl)
      have rl_1 : w.heap.size + 1 < ((w.alloc (.cells #[.slice vo I.length vc, .slice (some ⟨g, 0, none⟩) 24 c] 36)).alloc (.cells #[.slice none 0 0, .slice none 0 0] 36)).heap.size := by first | (simp; done) | (simp; omega)
      have c1 : Below w.heap.size w ((w.alloc (.cells #[.slice vo I.length vc, .slice (some ⟨g, 0, none⟩) 24 c] 36)).alloc (.cells #[.slice none 0 0, .slice none 0 0] 36)) := by go_grown
      have s1 : ((w.alloc (.cells #[.slice vo I.length vc, .slice (some ⟨g, 0, none⟩) 24 c] 36)).alloc (.cells #[.slice none 0 0, .slice none 0 0] 36)).heap.size = w.heap.size + 2 := by simp
      generalize ((w.alloc (.cells #[.slice vo I.length vc, .slice (some ⟨g, 0, none⟩) 24 c] 36)).alloc (.cells #[.slice none 0 0, .slice none 0 0] 36)) = w1 at a0_1 a1_1 al_1 r0_1 rf0_1 r1_1 rf1_1 rl_1 c1 s1 ⊢
      have qa0_1 := cell_regrown a0_1
      have qa1_1 := cell_regrown a1_1
      have qr0_1 := cell_regrown r0_1
      have qr1_1 := cell_regrown r1_1
      clear qa0_1 qa1_1 qr0_1 qr1_1
      have S1 := hid s1
      clear s1
      have C1 := hid c1
      go_wp2_with fail
      have KB := (C1.out.setCell (p := ⟨w.heap.size + 1, 0, none⟩) (by show w.heap.size ≤ w.heap.size + 1; omega) (.slice vo I.length vc)).setCell (p := ⟨w.heap.size + 1, 1, none⟩) (by show w.heap.size ≤ w.heap.size + 1; omega) (.slice (some ⟨g, 0, none⟩) 24 c)
      have e0 : ((w1.setCell ⟨w.heap.size + 1, 0, none⟩ (.slice vo I.length vc)).setCell ⟨w.heap.size + 1, 1, none⟩ (.slice (some ⟨g, 0, none⟩) 24 c)).cell? ⟨w.heap.size + 1, 0, none⟩ = some (.slice vo I.length vc) := by go_cell
      have e1 : ((w1.setCell ⟨w.heap.size + 1, 0, none⟩ (.slice vo I.length vc)).setCell ⟨w.heap.size + 1, 1, none⟩ (.slice (some ⟨g, 0, none⟩) 24 c)).cell? ⟨w.heap.size + 1, 1, none⟩ = some (.slice (some ⟨g, 0, none⟩) 24 c) := by go_cell
      exact bodyPost_ret (v := .agg #[.slice vo I.length vc, .slice (some ⟨g, 0, none⟩) 24 c]) (by simp [results, Try.results47, go_sem, e0, e1]) rfl ⟨⟨_, rfl, HK.out.later KB, row_later HROW.out KB⟩, Only.later KB⟩

/-! ### spec.CacheFloor -/
set_option maxRecDepth 100000 in
set_option maxHeartbeats 4000000 in
theorem specCFloor_any (v0 v1 : Value) (I F : List KD) (key ver : Int) (w : World) (h0 : RdM 4 3 true w v0 I) (h1 : RdM 1 1 false w v1 F) {D : List KD × List KD} (hD : ansF I F key ver = D) :
    Calls Try.prog 19 #[.agg #[v0, v1], .int .i64 key, .int .i64 ver] w fun e w' => EndR w' D.1 D.2 e ∧ Below w.heap.size w w' := by
  have H0 := hid h0
  have H1 := hid h1
  obtain ⟨ai, ci, rfl, hq0, hq1⟩ := h0
  obtain ⟨af, cf, rfl, hq2, hq3⟩ := h1
  clear hq0 hq1 hq2 hq3
  have hco := fun (W : World) (a : RdM 4 3 true W (.slice ai I.length ci) I) (b : RdM 1 1 false W (.slice af F.length cf) F) => specCOk_any _ _ I F W a b
  go_enter Try.func19, Try.ntmps19
  go_wp2_with fail
  have a0_1 : ((w.alloc (.cells #[.slice ai I.length ci, .slice af F.length cf] 36)).alloc (.cells #[.slice none 0 0, .slice none 0 0] 36)).cell? ⟨w.heap.size, 0, none⟩ = some (.slice ai I.length ci) := by go_cell
  have a1_1 : ((w.alloc (.cells #[.slice ai I.length ci, .slice af F.length cf] 36)).alloc (.cells #[.slice none 0 0, .slice none 0 0] 36)).cell? ⟨w.heap.size, 1, none⟩ = some (.slice af F.length cf) := by go_cell
  have al_1 : w.heap.size < ((w.alloc (.cells #[.slice ai I.length ci, .slice af F.length cf] 36)).alloc (.cells #[.slice none 0 0, .slice none 0 0] 36)).heap.size := by first | (simp; done) | (simp; omega)
  have r0_1 : ((w.alloc (.cells #[.slice ai I.length ci, .slice af F.length cf] 36)).alloc (.cells #[.slice none 0 0, .slice none 0 0] 36)).cell? ⟨w.heap.size + 1, 0, none⟩ = some (.slice none 0 0) := by go_cell
  have rf0_1 : ((w.alloc (.cells #[.slice ai I.length ci, .slice af F.length cf] 36)).alloc (.cells #[.slice none 0 0, .slice none 0 0] 36)).frozen? ⟨w.heap.size + 1, 0, none⟩ = false := by (first | go_cell | (simp [World.frozen?, World.alloc]; done) | rfl)
  have r1_1 : ((w.alloc (.cells #[.slice ai I.length ci, .slice af F.length cf] 36)).alloc (.cells #[.slice none 0 0, .slice none 0 0] 36)).cell? ⟨w.heap.size + 1, 1, none⟩ = some (.slice none 0 0) := by go_cell
  have rf1_1 : ((w.alloc (.cells #[.slice ai I.length ci, .slice af F.length cf] 36)).alloc (.cells #[.slice none 0 0, .slice none 0 0] 36)).frozen? ⟨w.heap.size + 1, 1, none⟩ = false := by (first | go_cell | (simp [World.frozen?, World.alloc]; done) | rfl)
  have rl_1 : w.heap.size + 1 < ((w.alloc (.cells #[.slice ai I.length ci, .slice af F.length cf] 36)).alloc (.cells #[.slice none 0 0, .slice none 0 0] 36)).heap.size := by first | (simp; done) | (simp; omega)
  have c1 : Below w.heap.size w ((w.alloc (.cells #[.slice ai I.length ci, .slice af F.length cf] 36)).alloc (.cells #[.slice none 0 0, .slice none 0 0] 36)) := by go_grown
  have s1 : ((w.alloc (.cells #[.slice ai I.length ci, .slice af F.length cf] 36)).alloc (.cells #[.slice none 0 0, .slice none 0 0] 36)).heap.size = w.heap.size + 2 := by simp
  generalize ((w.alloc (.cells #[.slice ai I.length ci, .slice af F.length cf] 36)).alloc (.cells #[.slice none 0 0, .slice none 0 0] 36)) = w1 at a0_1 a1_1 al_1 r0_1 rf0_1 r1_1 rf1_1 rl_1 c1 s1 ⊢
  have qa0_1 := cell_regrown a0_1
  have qa1_1 := cell_regrown a1_1
  have qr0_1 := cell_regrown r0_1
  have qr1_1 := cell_regrown r1_1
  clear qa0_1 qa1_1 qr0_1 qr1_1
  cases hok : okC I F with
  | false =>
    rw [hok] at hco
    obtain rfl : D = ([], []) := by rw [← hD]; simp [ansF, hok]
    refine (hco _ (H0.out.later c1) (H1.out.later c1)).mono ?_
    rintro e w2 ⟨rfl, b2⟩
    have d2 : Below w1.heap.size w1 w2 := (Below.trans (by go_grown) (b2.mono (by first | omega | (simp; done) | (simp; omega))))
    have c2 : Below w.heap.size w w2 := c1.trans (d2.mono c1.size)
    have r0_2 : w2.cell? ⟨w.heap.size + 1, 0, none⟩ = some (.slice none 0 0) := (by rw [b2.cell (by first | omega | (simp; done) | (simp; omega))]; go_cell)
    have rf0_2 : w2.frozen? ⟨w.heap.size + 1, 0, none⟩ = false := (by rw [b2.frozen (by first | omega | (simp; done) | (simp; omega))]; (first | go_cell | (simp [World.frozen?, World.alloc]; done) | rfl))
    have r1_2 : w2.cell? ⟨w.heap.size + 1, 1, none⟩ = some (.slice none 0 0) := (by rw [b2.cell (by first | omega | (simp; done) | (simp; omega))]; go_cell)
    have rf1_2 : w2.frozen? ⟨w.heap.size + 1, 1, none⟩ = false := (by rw [b2.frozen (by first | omega | (simp; done) | (simp; omega))]; (first | go_cell | (simp [World.frozen?, World.alloc]; done) | rfl))
    have rl_2 : w.heap.size + 1 < w2.heap.size := (by have := b2.size; first | omega | (revert this; simp; done) | (revert this; simp; omega))
    clear r0_1 rf0_1 r1_1 rf1_1 rl_1
    have HC := hid c2
    clear b2 d2 hco hok hD
    go_wp2_with fail
    have KB := (HC.out.setCell (p := ⟨w.heap.size + 1, 0, none⟩) (by show w.heap.size ≤ w.heap.size + 1; omega) (.slice none 0 0)).setCell (p := ⟨w.heap.size + 1, 1, none⟩) (by show w.heap.size ≤ w.heap.size + 1; omega) (.slice none 0 0)
    have e0 : ((w2.setCell ⟨w.heap.size + 1, 0, none⟩ (.slice none 0 0)).setCell ⟨w.heap.size + 1, 1, none⟩ (.slice none 0 0)).cell? ⟨w.heap.size + 1, 0, none⟩ = some (.slice none 0 0) := by go_cell
    have e1 : ((w2.setCell ⟨w.heap.size + 1, 0, none⟩ (.slice none 0 0)).setCell ⟨w.heap.size + 1, 1, none⟩ (.slice none 0 0)).cell? ⟨w.heap.size + 1, 1, none⟩ = some (.slice none 0 0) := by go_cell
    exact bodyPost_ret (v := .agg #[.slice none 0 0, .slice none 0 0]) (by simp [results, Try.results19, go_sem, e0, e1]) rfl ⟨⟨_, _, rfl, RdM.nil _ none 0, RdM.nil _ none 0⟩, KB⟩
  | true =>
    rw [hok] at hco
    have hD' : (if raB F key ver then (dropI key I, putF F key ver) else (I, F)) = D := by rw [← hD]; simp [ansF, hok]
    have HFP : Hid (FloF D.2) := hid (by
      rw [← hD']
      have hfl := floF_of H1.out (okC_iff.1 hok).1
      split
      · rename_i hra
        have hk : 0 ≤ key ∧ key < 24 := by
          have : keyIn key = true := by simp [raB] at hra; exact hra.1
          simpa [keyIn] using this
        exact hfl.set _ _ (by omega)
      · exact hfl)
    have HFL := hid (floF_of H1.out (okC_iff.1 hok).1)
    have HSM := hid (okC_small hok)
    have hl4 : I.length ≤ 1000 := by have := HSM.out.1; omega
    refine (hco _ (H0.out.later c1) (H1.out.later c1)).mono ?_
    rintro e w2 ⟨rfl, b2⟩
    have d2 : Below w1.heap.size w1 w2 := (Below.trans (by go_grown) (b2.mono (by first | omega | (simp; done) | (simp; omega))))
    have c2 : Below w.heap.size w w2 := c1.trans (d2.mono c1.size)
    have a0_2 : w2.cell? ⟨w.heap.size, 0, none⟩ = some (.slice ai I.length ci) := (by rw [b2.cell (by first | omega | (simp; done) | (simp; omega))]; go_cell)
    have a1_2 : w2.cell? ⟨w.heap.size, 1, none⟩ = some (.slice af F.length cf) := (by rw [b2.cell (by first | omega | (simp; done) | (simp; omega))]; go_cell)
    have al_2 : w.heap.size < w2.heap.size := (by have := b2.size; first | omega | (revert this; simp; done) | (revert this; simp; omega))
    have r0_2 : w2.cell? ⟨w.heap.size + 1, 0, none⟩ = some (.slice none 0 0) := (by rw [b2.cell (by first | omega | (simp; done) | (simp; omega))]; go_cell)
    have rf0_2 : w2.frozen? ⟨w.heap.size + 1, 0, none⟩ = false := (by rw [b2.frozen (by first | omega | (simp; done) | (simp; omega))]; (first | go_cell | (simp [World.frozen?, World.alloc]; done) | rfl))
    have r1_2 : w2.cell? ⟨w.heap.size + 1, 1, none⟩ = some (.slice none 0 0) := (by rw [b2.cell (by first | omega | (simp; done) | (simp; omega))]; go_cell)
    have rf1_2 : w2.frozen? ⟨w.heap.size + 1, 1, none⟩ = false := (by rw [b2.frozen (by first | omega | (simp; done) | (simp; omega))]; (first | go_cell | (simp [World.frozen?, World.alloc]; done) | rfl))
    have rl_2 : w.heap.size + 1 < w2.heap.size := (by have := b2.size; first | omega | (revert this; simp; done) | (revert this; simp; omega))
    clear a0_1 a1_1 al_1 r0_1 rf0_1 r1_1 rf1_1 rl_1
    have HC2 := hid c2
    have rl2 : w.heap.size + 1 < w2.heap.size := rl_2
    clear b2 d2 hco hok hD
    go_wp2_with fail
    refine (l5Cache_any _ _ I F _ (H0.out.later HC2.out) (H1.out.later HC2.out) HFL.out HSM.out.1 HSM.out.2).mono ?_
    rintro e w3 ⟨⟨v, g, cg, N, rfl, hg1, hg2, hN, hrow, hrk⟩, b3⟩
    have HROW := hid hrow
    have HRK := hid hrk
    obtain ⟨vo, vc, hv, _⟩ := hrk
    subst hv
    have d3 : Below w2.heap.size w2 w3 := (Below.trans (by go_grown) (b3.mono (by first | omega | (simp; done) | (simp; omega))))
    have c3 : Below w.heap.size w w3 := c2.trans (d3.mono c2.size)
    have r0_3 : w3.cell? ⟨w.heap.size + 1, 0, none⟩ = some (.slice none 0 0) := (by rw [b3.cell (by first | omega | (simp; done) | (simp; omega))]; go_cell)
    have rf0_3 : w3.frozen? ⟨w.heap.size + 1, 0, none⟩ = false := (by rw [b3.frozen (by first | omega | (simp; done) | (simp; omega))]; (first | go_cell | (simp [World.frozen?, World.alloc]; done) | rfl))
    have r1_3 : w3.cell? ⟨w.heap.size + 1, 1, none⟩ = some (.slice none 0 0) := (by rw [b3.cell (by first | omega | (simp; done) | (simp; omega))]; go_cell)
    have rf1_3 : w3.frozen? ⟨w.heap.size + 1, 1, none⟩ = false := (by rw [b3.frozen (by first | omega | (simp; done) | (simp; omega))]; (first | go_cell | (simp [World.frozen?, World.alloc]; done) | rfl))
    have rl_3 : w.heap.size + 1 < w3.heap.size := (by have := b3.size; first | omega | (revert this; simp; done) | (revert this; simp; omega))
    clear r0_2 rf0_2 r1_2 rf1_2 rl_2
    have hgr : w.heap.size + 1 < N := by omega
    clear b3 d3 hrow
    go_wp2_with fail
    refine (l5Floor_any N g cg _ _ I F key ver _ HRK.out hN hg2 HROW.out HFL.out hl4 hD').mono ?_
    rintro e w4 ⟨⟨x, rfl, hx, hrow4⟩, o4⟩
    have HX := hid hx
    have HROW4 := hid hrow4
    obtain ⟨xo, xc, hv, _⟩ := hx
    subst hv
    obtain ⟨I', F'⟩ := D
    simp only at HX HROW4 HFP ⊢
    have hne : ¬ w.heap.size + 1 = g := by omega
    have r0_4 := (World.cell?_of_block (a := ⟨w.heap.size + 1, 0, none⟩) (o4.block (w.heap.size + 1) rl_3 hne)).trans r0_3
    have r1_4 := (World.cell?_of_block (a := ⟨w.heap.size + 1, 1, none⟩) (o4.block (w.heap.size + 1) rl_3 hne)).trans r1_3
    have rf0_4 := (World.frozen?_of_block (a := ⟨w.heap.size + 1, 0, none⟩) (o4.block (w.heap.size + 1) rl_3 hne)).trans rf0_3
    have rf1_4 := (World.frozen?_of_block (a := ⟨w.heap.size + 1, 1, none⟩) (o4.block (w.heap.size + 1) rl_3 hne)).trans rf1_3
    have HC4 := hid (c3.trans (o4.below (B := w.heap.size) (fun q hq => by omega) c3.size))
    clear o4 hrow4 HRK HROW r0_3 r1_3 rf0_3 rf1_3 hD'
    go_wp2_with fail
    have KB := (HC4.out.setCell (p := ⟨w.heap.size + 1, 0, none⟩) (by show w.heap.size ≤ w.heap.size + 1; omega) (.slice xo I'.length xc)).setCell (p := ⟨w.heap.size + 1, 1, none⟩) (by show w.heap.size ≤ w.heap.size + 1; omega) (.slice (some ⟨g, 0, none⟩) 24 cg)
    have KO : Only (fun q => q < N) w4 ((w4.setCell ⟨w.heap.size + 1, 0, none⟩ (.slice xo I'.length xc)).setCell ⟨w.heap.size + 1, 1, none⟩ (.slice (some ⟨g, 0, none⟩) 24 cg)) := (Only.set (F := fun q => q < N) _ (p := ⟨w.heap.size + 1, 0, none⟩) hgr _).trans (Only.set (F := fun q => q < N) _ (p := ⟨w.heap.size + 1, 1, none⟩) hgr _)
    have R9 := (HX.out.only KO).rd
    have F9 := rowF_rd (row_agree HROW4.out (w' := ((w4.setCell ⟨w.heap.size + 1, 0, none⟩ (.slice xo I'.length xc)).setCell ⟨w.heap.size + 1, 1, none⟩ (.slice (some ⟨g, 0, none⟩) 24 cg))) (fun q hq => by cases hq; exact (Below.heap_setCell _ _ _ _ (by show g ≠ w.heap.size + 1; omega)).trans (Below.heap_setCell _ _ _ _ (by show g ≠ w.heap.size + 1; omega)))) HFP.out
    have e0 : ((w4.setCell ⟨w.heap.size + 1, 0, none⟩ (.slice xo I'.length xc)).setCell ⟨w.heap.size + 1, 1, none⟩ (.slice (some ⟨g, 0, none⟩) 24 cg)).cell? ⟨w.heap.size + 1, 0, none⟩ = some (.slice xo I'.length xc) := by go_cell
    have e1 : ((w4.setCell ⟨w.heap.size + 1, 0, none⟩ (.slice xo I'.length xc)).setCell ⟨w.heap.size + 1, 1, none⟩ (.slice (some ⟨g, 0, none⟩) 24 cg)).cell? ⟨w.heap.size + 1, 1, none⟩ = some (.slice (some ⟨g, 0, none⟩) 24 cg) := by go_cell
    exact bodyPost_ret (v := .agg #[.slice xo I'.length xc, .slice (some ⟨g, 0, none⟩) 24 cg]) (by simp [results, Try.results19, go_sem, e0, e1]) rfl ⟨⟨_, _, rfl, R9, F9⟩, KB⟩
end Go.Proofs.Ytnenlnadmdlcfaa

/- Part: A cache with an item put in, as the document has it: spec.l5Put, spec.CachePut: contracts. Written by a program (gspp.py). -/
namespace Go.Proofs.Ytnenlnadmdlcfaa
open Go.RowKit
attribute [local go_sem ↓] Go.wp_at_zero Go.wp_at_succ

/-- The cells of the items of a list. -/
theorem RdK.cells {G : Nat → Prop} {w : World} {ao : Option Addr} {n cap : Nat} {L : List KD} (h : RdK G w (.slice ao n cap) L) : n = L.length ∧ (L = [] ∨ ∃ (b off : Nat) (us : Nat → Value) (cs : List Value), ao = some ⟨b, off, none⟩ ∧ cs.length = L.length * 4 ∧ (∀ j y, cs[j]? = some y → w.cell? ⟨b, off + j, none⟩ = some y) ∧ (∀ y ∈ cs, y.oneCell' = true) ∧
    (∀ i, i < L.length → (L.getD i kd0).1.length = 3) ∧ (∀ i, i < L.length → ∀ j, j < 3 → cs[i * 4 + j]? = some (.int .i64 ((L.getD i kd0).1.getD j 0))) ∧ (∀ i, i < L.length → cs[i * 4 + 3]? = some (us i)) ∧
    (∀ i, i < L.length → Rd w (us i) (L.getD i kd0).2 ∧ (0 < (L.getD i kd0).2.length → ∀ q, (us i).ownBlock = some q → ¬ G q))) := by
  obtain ⟨ao', cap', hv, hl, hc⟩ := h
  injection hv with h1 h2 h3
  subst h1 h2 h3
  refine ⟨rfl, ?_⟩
  by_cases h0 : 0 < L.length
  · right
    obtain ⟨b, off, rfl, hb, hbg, hcc⟩ := hc h0
    have key : ∀ j, j < L.length * 4 → ∃ y, w.cell? ⟨b, off + j, none⟩ = some y ∧ y.oneCell' = true := fun j hj => by
      obtain ⟨p0, p1, p2, l, u, hx, c0, c1, c2, c3, hu, _⟩ := hcc (j / 4) (by omega)
      have hm : j % 4 = 0 ∨ j % 4 = 1 ∨ j % 4 = 2 ∨ j % 4 = 3 := by omega
      rcases hm with hm | hm | hm | hm
      · exact ⟨_, by rw [← c0]; congr 2; omega, rfl⟩
      · exact ⟨_, by rw [← c1]; congr 2; omega, rfl⟩
      · exact ⟨_, by rw [← c2]; congr 2; omega, rfl⟩
      · obtain ⟨_, _, rfl, _⟩ := hu
        exact ⟨_, by rw [← c3]; congr 2; omega, rfl⟩
    let cs := (List.range (L.length * 4)).map (fun j => (w.cell? ⟨b, off + j, none⟩).getD (.bool false))
    have hcs : ∀ j, j < L.length * 4 → ∀ y, w.cell? ⟨b, off + j, none⟩ = some y → cs[j]? = some y := fun j hj y hy => by simp [cs, hj, hy]
    refine ⟨b, off, fun i => (w.cell? ⟨b, off + i * 4 + 3, none⟩).getD (.bool false), cs, rfl, by simp [cs], fun j y hy => ?_, fun y hy => ?_, fun i hi => ?_, fun i hi j hj => ?_, fun i hi => ?_, fun i hi => ?_⟩
    · have hj : j < L.length * 4 := by have := (List.getElem?_eq_some_iff.1 hy).1; simpa [cs] using this
      obtain ⟨z, hz, _⟩ := key j hj
      rw [hcs j hj z hz] at hy
      rw [hz, hy]
    · simp only [cs, List.mem_map, List.mem_range] at hy
      obtain ⟨j, hj, rfl⟩ := hy
      obtain ⟨z, hz, h1⟩ := key j hj
      rw [hz]
      exact h1
    · obtain ⟨p0, p1, p2, l, u, hx, _⟩ := hcc i hi
      rw [hx]; rfl
    · obtain ⟨p0, p1, p2, l, u, hx, c0, c1, c2, _⟩ := hcc i hi
      rw [hx]
      match j, hj with
      | 0, _ => exact hcs _ (by omega) _ c0
      | 1, _ => exact hcs _ (by omega) _ (by rw [← Nat.add_assoc]; exact c1)
      | 2, _ => exact hcs _ (by omega) _ (by rw [← Nat.add_assoc]; exact c2)
    · obtain ⟨p0, p1, p2, l, u, hx, c0, c1, c2, c3, _⟩ := hcc i hi
      have e : (w.cell? ⟨b, off + i * 4 + 3, none⟩).getD (.bool false) = u := by rw [c3]; rfl
      simp only [e]
      exact hcs _ (by omega) _ (by rw [← Nat.add_assoc]; exact c3)
    · obtain ⟨p0, p1, p2, l, u, hx, c0, c1, c2, c3, hu, hn⟩ := hcc i hi
      have e : (w.cell? ⟨b, off + i * 4 + 3, none⟩).getD (.bool false) = u := by rw [c3]; rfl
      simp only [e, hx]
      exact ⟨hu, hn⟩
  · left
    exact List.eq_nil_of_length_eq_zero (by omega)

/-- append of items that are read onto a row that is owned. -/
theorem run_append_rd (w : World) (base : Nat) (ty : TypeId) (v : Value) (n : Nat) (xs : List Value) (hown : w.ownsRow base 31 4 v n xs) (xo : Option Addr) (n1 xc : Nat) (cs : List Value)
    (hc : (n1 = 0 ∧ cs = []) ∨ (∃ b off, xo = some ⟨b, off, none⟩ ∧ cs.length = n1 * 4 ∧ (∀ j y, cs[j]? = some y → w.cell? ⟨b, off + j, none⟩ = some y) ∧ (∀ y ∈ cs, y.oneCell' = true)))
    (h63 : n + n1 ≤ maxLen) (hbytes : (n + n1) * 48 ≤ 140737488355328) (hbase : base ≤ w.heap.size) :
    ∃ v' w', (Builtin.append_ #[34, 34] ty #[v, .slice xo n1 xc]).run Try.prog w = .ok v' w' ∧ w'.ownsRow base 31 4 v' (n + n1) (xs ++ cs) ∧ w.grownBy w' v.ownBlock := by
  obtain ⟨i0, hi, hz0, hz1, hz2⟩ := info_parts Try.infoItem_K
  have go : ∀ ad : Addr, xo = some ad → cs.length = n1 * 4 → (∀ j u, cs[j]? = some u → w.cell? (ad.add j) = some u) → (∀ y ∈ cs, y.oneCell' = true) →
      ∃ v' w', (Builtin.append_ #[34, 34] ty #[v, .slice xo n1 xc]).run Try.prog w = .ok v' w' ∧ w'.ownsRow base 31 4 v' (n + n1) (xs ++ cs) ∧ w.grownBy w' v.ownBlock := fun ad e h1 h2 h3 => by
    subst e
    obtain ⟨v', w', hr, k2, k3, _⟩ := run_append_own (P := Try.prog) w base 34 ty 31 i0 (.agg #[.int .i64 0, .int .i64 0, .int .i64 0, .slice none 0 0]) 4 48 Try.underlying34 hi hz0 hz1 hz2 rfl (by decide) v n xs hown ad n1 xc cs h1 h2 h3 h63 hbytes hbase
    exact ⟨v', w', hr, k2, k3⟩
  rcases hc with ⟨rfl, rfl⟩ | ⟨b, off, rfl, h1, h2, h3⟩
  · cases xo with
    | none =>
      refine ⟨v, w, run_append_cap (P := Try.prog) (w := w) base 34 ty 31 i0 4 xc Try.underlying34 hi v n xs hown, by rw [Nat.add_zero, List.append_nil]; exact hown, ⟨rfl, rfl, rfl, Nat.le_refl _, fun _ _ _ => rfl⟩⟩
    | some ad => exact go ad rfl rfl (fun j u h => by simp at h) (fun _ h => by simp at h)
  · exact go ⟨b, off, none⟩ rfl h1 (fun j u h => by
      have e : (⟨b, off, none⟩ : Addr).add j = ⟨b, off + j, none⟩ := by cases j <;> simp [Addr.add]
      rw [e]
      exact h2 j u h) h3
theorem step_append_rd {ops : Array Oper} {o : Oper} {a : Act} {w : World} {K : Act → World → Prop} {Q : Exit → Act → World → Prop} {E : Prop} (hgd : o.guard = none) (s x : Operand)
    (ho : o.op = .call { callee := .builtin .append, args := #[s, x], argTypes := #[34, 34] })
    (base : Nat) (v : Value) (n : Nat) (xs : List Value) (hs : a.eval s = v) (hown : w.ownsRow base 31 4 v n xs) (xo : Option Addr) (n1 xc : Nat) (cs : List Value) (hx : a.eval x = .slice xo n1 xc)
    (hc : (n1 = 0 ∧ cs = []) ∨ (∃ b off, xo = some ⟨b, off, none⟩ ∧ cs.length = n1 * 4 ∧ (∀ j y, cs[j]? = some y → w.cell? ⟨b, off + j, none⟩ = some y) ∧ (∀ y ∈ cs, y.oneCell' = true)))
    (h63 : n + n1 ≤ maxLen) (hbytes : (n + n1) * 48 ≤ 140737488355328) (hbase : base ≤ w.heap.size)
    (h : ∀ v' w', w'.ownsRow base 31 4 v' (n + n1) (xs ++ cs) → w.grownBy w' v.ownBlock → K (a.put o.dst v') w') :
    if Region.wanted o (yielded ops a.tmps) = true then Oper.wp Try.prog o a w K Q else E := by
  have hw : Region.wanted o (yielded ops a.tmps) = true := by simp [Region.wanted, hgd]
  rw [if_pos hw]
  obtain ⟨v', w', hr, h2, h3⟩ := run_append_rd w base o.type v n xs hown xo n1 xc cs hc h63 hbytes hbase
  unfold Oper.wp
  simp [execOp, ho, resolve, invoke, builtin, hs, hx, hr, Result.andThen]
  exact h v' w' h2 h3
/-- An item ahead of others. -/
def usC (u : Value) (us : Nat → Value) : Nat → Value := fun i => match i with
  | 0 => u
  | i + 1 => us i
theorem rowA_cons {w : World} {B : Nat} {v u : Value} {L : List KD} {cs : List Value} {us : Nat → Value} {k p n : Int} {l : List (Int × Int)} (ho : w.ownsRow B 31 4 v (1 + L.length) ([.int .i64 k, .int .i64 p, .int .i64 n, u] ++ cs))
    (hl : ∀ i, i < L.length → (L.getD i kd0).1.length = 3) (hn : ∀ i, i < L.length → ∀ j, j < 3 → cs[i * 4 + j]? = some (.int .i64 ((L.getD i kd0).1.getD j 0))) (hk : ∀ i, i < L.length → cs[i * 4 + 3]? = some (us i)) :
    RowA w B v (([k, p, n], l) :: L) ([.int .i64 k, .int .i64 p, .int .i64 n, u] ++ cs) (usC u us) := by
  refine ⟨by rw [List.length_cons, Nat.add_comm]; exact ho, fun i hi => ?_, fun i hi j hj => ?_, fun i hi => ?_⟩
  · cases i with
    | zero => rfl
    | succ i => rw [List.getD_cons_succ]; exact hl i (by simpa using hi)
  · cases i with
    | zero => match j, hj with
      | 0, _ => rfl
      | 1, _ => rfl
      | 2, _ => rfl
    | succ i =>
      rw [List.getD_cons_succ, List.getElem?_append_right (by simp; omega), ← hn i (by simpa using hi) j hj]
      congr 1
      simp
      omega
  · cases i with
    | zero => rfl
    | succ i =>
      rw [List.getElem?_append_right (by simp; omega)]
      show _ = some (us i)
      rw [← hk i (by simpa using hi)]
      congr 1
      simp
      omega
theorem RdK.take {G : Nat → Prop} {w : World} {ao : Option Addr} {n cap m : Nat} {L : List KD} (h : RdK G w (.slice ao n cap) L) (hm : m ≤ L.length) : RdK G w (.slice ao m cap) (L.take m) := by
  obtain ⟨ao', cap', hv, hl, hc⟩ := h
  injection hv with h1 h2 h3
  subst h1 h2 h3
  have hlen : (L.take m).length = m := by rw [List.length_take]; omega
  refine ⟨ao, cap, by rw [hlen], by omega, fun h0 => ?_⟩
  obtain ⟨b, off, rfl, hb, hbg, hcc⟩ := hc (by omega)
  refine ⟨b, off, rfl, hb, hbg, fun i hi => ?_⟩
  have e : (L.take m).getD i kd0 = L.getD i kd0 := by
    rw [hlen] at hi
    simp [hi]
  rw [e]
  exact hcc i (by omega)
end Go.Proofs.Ytnenlnadmdlcfaa

/- Part: A cache with an item put in, as the document has it: spec.l5Put: contract. Written by a program (gspq.py). -/
namespace Go.Proofs.Ytnenlnadmdlcfaa
open Go.RowKit
attribute [local go_sem ↓] Go.wp_at_zero Go.wp_at_succ

theorem RdK.forAppend {G : Nat → Prop} {w : World} {ao : Option Addr} {n cap : Nat} {L : List KD} (h : RdK G w (.slice ao n cap) L) : ∃ (us : Nat → Value) (cs : List Value),
    ((n = 0 ∧ cs = []) ∨ (∃ b off, ao = some ⟨b, off, none⟩ ∧ cs.length = n * 4 ∧ (∀ j y, cs[j]? = some y → w.cell? ⟨b, off + j, none⟩ = some y) ∧ (∀ y ∈ cs, y.oneCell' = true))) ∧
    (∀ i, i < L.length → (L.getD i kd0).1.length = 3) ∧ (∀ i, i < L.length → ∀ j, j < 3 → cs[i * 4 + j]? = some (.int .i64 ((L.getD i kd0).1.getD j 0))) ∧ (∀ i, i < L.length → cs[i * 4 + 3]? = some (us i)) ∧
    (∀ i, i < L.length → Rd w (us i) (L.getD i kd0).2 ∧ (0 < (L.getD i kd0).2.length → ∀ q, (us i).ownBlock = some q → ¬ G q)) := by
  obtain ⟨rfl, hc⟩ := h.cells
  rcases hc with rfl | ⟨b, off, us, cs, rfl, h1, h2, h3, h4, h5, h6, h7⟩
  · exact ⟨fun _ => .bool false, [], Or.inl ⟨rfl, rfl⟩, fun _ h => absurd h (Nat.not_lt_zero _), fun _ h => absurd h (Nat.not_lt_zero _), fun _ h => absurd h (Nat.not_lt_zero _), fun _ h => absurd h (Nat.not_lt_zero _)⟩
  · exact ⟨us, cs, Or.inr ⟨b, off, rfl, h1, h2, h3⟩, h4, h5, h6, h7⟩
theorem ownsRow_cap {w : World} {B n g c : Nat} {e : TypeId} {sz : Nat} {xs : List Value} (h : w.ownsRow B e sz (.slice (some ⟨g, 0, none⟩) n c) n xs) : n ≤ c := by
  rcases h.2 with ⟨hv, _⟩ | ⟨g', cap, cur, hv, _, _, hnc, _⟩
  · cases hv
  · injection hv with _ _ hc
    rw [hc]
    exact hnc
theorem only_new {w w5 w6 : World} {o : Obj} {g : Nat} (h5 : Only (fun b => b = g) w w5) (hgr : (w5.alloc o).grownBy w6 (some w5.heap.size)) : Only (fun b => b = g) w w6 := by
  refine h5.trans ⟨hgr.os, hgr.tape, hgr.output, Nat.le_trans (by simp) hgr.size, fun k hk _ => ?_⟩
  exact (hgr.block k (by simp; omega) (fun e => by injection e with e; omega)).trans (Below.heap_alloc _ _ _ hk)
/-- Behind the append: the copy's first cell is the new row, all else stands. -/
structure MidP (w : World) (A R B g c : Nat) (G : Nat → Prop) (L F' : List KD) (x : KD) (wx : World) : Prop where
  ex : ∃ g6 c6, wx.cell? ⟨A, 0, none⟩ = some (.slice (some ⟨g6, 0, none⟩) (L.length + 1) c6) ∧ L.length + 1 ≤ c6 ∧ RdK G wx (.slice (some ⟨g6, 0, none⟩) (L.length + 1) c6) (x :: L)
  a1 : wx.cell? ⟨A, 1, none⟩ = some (.slice (some ⟨g, 0, none⟩) 24 c)
  af : wx.frozen? ⟨A, 0, none⟩ = false
  r0 : wx.cell? ⟨R, 0, none⟩ = some (.slice none 0 0)
  r1 : wx.cell? ⟨R, 1, none⟩ = some (.slice none 0 0)
  rf0 : wx.frozen? ⟨R, 0, none⟩ = false
  rf1 : wx.frozen? ⟨R, 1, none⟩ = false
  row : wx.ownsRow B 3 1 (.slice (some ⟨g, 0, none⟩) 24 c) 24 (floC F')
  only : Only (fun b => b = g) w wx
theorem midP_set {w w6 : World} {A R B g c g6 c6 : Nat} {G : Nat → Prop} {L F' : List KD} {x : KD} (hA : w6.cell? ⟨A, 0, none⟩ ≠ none) (hf : w6.frozen? ⟨A, 0, none⟩ = false) (hc : L.length + 1 ≤ c6) (hG : G A) (hAR : A ≠ R) (hAg : g ≠ A) (hAw : w.heap.size ≤ A)
    (hK : RdK G w6 (.slice (some ⟨g6, 0, none⟩) (L.length + 1) c6) (x :: L)) (a1 : w6.cell? ⟨A, 1, none⟩ = some (.slice (some ⟨g, 0, none⟩) 24 c)) (r0 : w6.cell? ⟨R, 0, none⟩ = some (.slice none 0 0)) (r1 : w6.cell? ⟨R, 1, none⟩ = some (.slice none 0 0))
    (rf0 : w6.frozen? ⟨R, 0, none⟩ = false) (rf1 : w6.frozen? ⟨R, 1, none⟩ = false) (hrow : w6.ownsRow B 3 1 (.slice (some ⟨g, 0, none⟩) 24 c) 24 (floC F')) (ho : Only (fun b => b = g) w w6) :
    MidP w A R B g c G L F' x (w6.setCell ⟨A, 0, none⟩ (.slice (some ⟨g6, 0, none⟩) (L.length + 1) c6)) := by
  obtain ⟨z, hz⟩ := Option.ne_none_iff_exists'.1 hA
  have e0 : (w6.setCell ⟨A, 0, none⟩ (.slice (some ⟨g6, 0, none⟩) (L.length + 1) c6)).cell? ⟨A, 0, none⟩ = some (.slice (some ⟨g6, 0, none⟩) (L.length + 1) c6) := by go_cell
  have hR : ∀ i, (w6.setCell ⟨A, 0, none⟩ (.slice (some ⟨g6, 0, none⟩) (L.length + 1) c6)).cell? ⟨R, i, none⟩ = w6.cell? ⟨R, i, none⟩ := fun i => World.cell?_of_block (a := ⟨R, i, none⟩) (Below.heap_setCell _ _ _ _ (fun e => hAR e.symm))
  refine ⟨⟨g6, c6, e0, hc, hK.only (Only.set (F := G) _ (p := ⟨A, 0, none⟩) hG _)⟩, ?_, by simpa using hf, by rw [hR]; exact r0, by rw [hR]; exact r1, by simpa using rf0, by simpa using rf1, row_agree hrow (fun q hq => by cases hq; exact Below.heap_setCell _ _ _ _ hAg), ?_⟩
  · rw [World.cell?_setCell_other _ _ _ _ (by intro q; injection q with _ q; omega)]
    exact a1
  · exact ⟨ho.os, ho.tape, ho.output, by have := ho.size; simp; exact this, fun q hq hne => (Below.heap_setCell _ _ _ _ (by show q ≠ A; omega)).trans (ho.block q hq hne)⟩
/-- What the new row reads as. -/
theorem put_rdK {G : Nat → Prop} {w4 w5 w6 : World} {o : Obj} {L : List KD} {cs : List Value} {us : Nat → Value} {k p n : Int} {l : List (Int × Int)} {x v6 : Value} (hd : w4.heap.size ≤ w5.heap.size) (hG : ∀ q, w4.heap.size ≤ q → ¬ G q)
    (ho : w6.ownsRow w5.heap.size 31 4 v6 (1 + L.length) ([.int .i64 k, .int .i64 p, .int .i64 n, x] ++ cs)) (hx : Own w5 w4.heap.size x l) (hgr : (w5.alloc o).grownBy w6 (some w5.heap.size))
    (hl : ∀ i, i < L.length → (L.getD i kd0).1.length = 3) (hn : ∀ i, i < L.length → ∀ j, j < 3 → cs[i * 4 + j]? = some (.int .i64 ((L.getD i kd0).1.getD j 0))) (hk : ∀ i, i < L.length → cs[i * 4 + 3]? = some (us i))
    (hr : ∀ i, i < L.length → Rd (w5.alloc o) (us i) (L.getD i kd0).2 ∧ (0 < (L.getD i kd0).2.length → ∀ q, (us i).ownBlock = some q → ¬ (G q ∨ q = w5.heap.size))) : RdK G w6 v6 (([k, p, n], l) :: L) := by
  have hR := rowA_cons (l := l) ho hl hn hk
  have hO : Only (fun q => q = w5.heap.size) (w5.alloc o) w6 := Only.of_grown hgr (fun q hq => by injection hq with hq; exact hq.symm)
  refine hR.rdK (fun q hq => hG q (by have := (hR.row.lt q hq).1; omega)) (fun i hi => ?_)
  cases i with
  | zero =>
    have hb := hx.block
    refine ⟨Rd.only (Own.rd (row_later hx (show Below w5.heap.size w5 (w5.alloc o) from (Below.refl _ w5).alloc (Nat.le_refl _) _))) hO (fun _ q hq e => by have := (hb q hq).2; omega), fun _ q hq => hG q (hb q hq).1⟩
  | succ i =>
    rw [List.getD_cons_succ]
    have hi' : i < L.length := by simpa using hi
    exact ⟨(hr i hi').1.only hO (fun h0 q hq e => (hr i hi').2 h0 q hq (Or.inr e)), fun h0 q hq hg => (hr i hi').2 h0 q hq (Or.inl hg)⟩
set_option maxRecDepth 100000 in
set_option maxHeartbeats 8000000 in
theorem l5Put_any (N g c B : Nat) (v0 : Value) (I F : List KD) (k v n : Int) (u : Value) (l : List (Int × Int)) (w : World) (hK : RdK (fun q => q < N) w v0 I) (hN : N ≤ w.heap.size) (hg : g < N) (hrow : w.ownsRow B 3 1 (.slice (some ⟨g, 0, none⟩) 24 c) 24 (floC F)) (hf : FloF F) (h4 : I.length ≤ 4)
    (hu : Rd w u l) (hub : 0 < l.length → ∀ b, u.ownBlock = some b → ¬ b = g) {D : (List KD × List KD) × Bool} (hD : (if putB F k v n l then ((putI k v n l I, putF F k v), true) else ((I, F), false)) = D) :
    Calls Try.prog 50 #[.agg #[v0, .slice (some ⟨g, 0, none⟩) 24 c], .agg #[.int .i64 k, .int .i64 v, .int .i64 n, u]] w fun e w' => (∃ x, e = .returned (.tuple #[.agg #[x, .slice (some ⟨g, 0, none⟩) 24 c], .bool D.2]) ∧ RdK (fun q => q < N) w' x D.1.1 ∧ w'.ownsRow B 3 1 (.slice (some ⟨g, 0, none⟩) 24 c) 24 (floC D.1.2)) ∧ Only (fun b => b = g) w w' := by
  have HK := hid hK
  have HROW := hid hrow
  have HFL := hid hf
  have HU := hid hu
  have HUB := hid hub
  obtain ⟨vo, vc, rfl, _⟩ := hK
  obtain ⟨uo, uc, rfl, _⟩ := hu
  clear hrow hf hub
  have hco := fun (W : World) (hr : Rd W (.slice uo l.length uc) l) => specItem_any k v n _ l W hr rfl
  cases hit : itR k v n l with
  | false =>
    rw [hit] at hco
    have hp : putB F k v n l = false := by simp [putB, hit]
    rw [hp] at hD
    simp only [Bool.false_eq_true, if_false] at hD
    subst hD
    clear hit hp
    go_enter Try.func50, Try.ntmps50
    go_wp2_with fail
    have a0_1 : (((w.alloc (.cells #[.slice vo I.length vc, .slice (some ⟨g, 0, none⟩) 24 c] 36)).alloc (.cells #[.int .i64 k, .int .i64 v, .int .i64 n, .slice uo l.length uc] 31)).alloc (.cells #[.slice none 0 0, .slice none 0 0] 36)).cell? ⟨w.heap.size, 0, none⟩ = some (.slice vo I.length vc) := by go_cell
    have a1_1 : (((w.alloc (.cells #[.slice vo I.length vc, .slice (some ⟨g, 0, none⟩) 24 c] 36)).alloc (.cells #[.int .i64 k, .int .i64 v, .int .i64 n, .slice uo l.length uc] 31)).alloc (.cells #[.slice none 0 0, .slice none 0 0] 36)).cell? ⟨w.heap.size, 1, none⟩ = some (.slice (some ⟨g, 0, none⟩) 24 c) := by go_cell
    have al_1 : w.heap.size < (((w.alloc (.cells #[.slice vo I.length vc, .slice (some ⟨g, 0, none⟩) 24 c] 36)).alloc (.cells #[.int .i64 k, .int .i64 v, .int .i64 n, .slice uo l.length uc] 31)).alloc (.cells #[.slice none 0 0, .slice none 0 0] 36)).heap.size := by first | (simp; done) | (simp; omega)
    have b0_1 : (((w.alloc (.cells #[.slice vo I.length vc, .slice (some ⟨g, 0, none⟩) 24 c] 36)).alloc (.cells #[.int .i64 k, .int .i64 v, .int .i64 n, .slice uo l.length uc] 31)).alloc (.cells #[.slice none 0 0, .slice none 0 0] 36)).cell? ⟨w.heap.size + 1, 0, none⟩ = some (.int .i64 k) := by go_cell
    have b1_1 : (((w.alloc (.cells #[.slice vo I.length vc, .slice (some ⟨g, 0, none⟩) 24 c] 36)).alloc (.cells #[.int .i64 k, .int .i64 v, .int .i64 n, .slice uo l.length uc] 31)).alloc (.cells #[.slice none 0 0, .slice none 0 0] 36)).cell? ⟨w.heap.size + 1, 1, none⟩ = some (.int .i64 v) := by go_cell
    have b2_1 : (((w.alloc (.cells #[.slice vo I.length vc, .slice (some ⟨g, 0, none⟩) 24 c] 36)).alloc (.cells #[.int .i64 k, .int .i64 v, .int .i64 n, .slice uo l.length uc] 31)).alloc (.cells #[.slice none 0 0, .slice none 0 0] 36)).cell? ⟨w.heap.size + 1, 2, none⟩ = some (.int .i64 n) := by go_cell
    have b3_1 : (((w.alloc (.cells #[.slice vo I.length vc, .slice (some ⟨g, 0, none⟩) 24 c] 36)).alloc (.cells #[.int .i64 k, .int .i64 v, .int .i64 n, .slice uo l.length uc] 31)).alloc (.cells #[.slice none 0 0, .slice none 0 0] 36)).cell? ⟨w.heap.size + 1, 3, none⟩ = some (.slice uo l.length uc) := by go_cell
    have bl_1 : w.heap.size + 1 < (((w.alloc (.cells #[.slice vo I.length vc, .slice (some ⟨g, 0, none⟩) 24 c] 36)).alloc (.cells #[.int .i64 k, .int .i64 v, .int .i64 n, .slice uo l.length uc] 31)).alloc (.cells #[.slice none 0 0, .slice none 0 0] 36)).heap.size := by first | (simp; done) | (simp; omega)
    have r0_1 : (((w.alloc (.cells #[.slice vo I.length vc, .slice (some ⟨g, 0, none⟩) 24 c] 36)).alloc (.cells #[.int .i64 k, .int .i64 v, .int .i64 n, .slice uo l.length uc] 31)).alloc (.cells #[.slice none 0 0, .slice none 0 0] 36)).cell? ⟨w.heap.size + 1 + 1, 0, none⟩ = some (.slice none 0 0) := by go_cell
    have rf0_1 : (((w.alloc (.cells #[.slice vo I.length vc, .slice (some ⟨g, 0, none⟩) 24 c] 36)).alloc (.cells #[.int .i64 k, .int .i64 v, .int .i64 n, .slice uo l.length uc] 31)).alloc (.cells #[.slice none 0 0, .slice none 0 0] 36)).frozen? ⟨w.heap.size + 1 + 1, 0, none⟩ = false := by (first | go_cell | (simp [World.frozen?, World.alloc]; done) | rfl)
    have r1_1 : (((w.alloc (.cells #[.slice vo I.length vc, .slice (some ⟨g, 0, none⟩) 24 c] 36)).alloc (.cells #[.int .i64 k, .int .i64 v, .int .i64 n, .slice uo l.length uc] 31)).alloc (.cells #[.slice none 0 0, .slice none 0 0] 36)).cell? ⟨w.heap.size + 1 + 1, 1, none⟩ = some (.slice none 0 0) := by go_cell
    have rf1_1 : (((w.alloc (.cells #[.slice vo I.length vc, .slice (some ⟨g, 0, none⟩) 24 c] 36)).alloc (.cells #[.int .i64 k, .int .i64 v, .int .i64 n, .slice uo l.length uc] 31)).alloc (.cells #[.slice none 0 0, .slice none 0 0] 36)).frozen? ⟨w.heap.size + 1 + 1, 1, none⟩ = false := by (first | go_cell | (simp [World.frozen?, World.alloc]; done) | rfl)
    have rl_1 : w.heap.size + 1 + 1 < (((w.alloc (.cells #[.slice vo I.length vc, .slice (some ⟨g, 0, none⟩) 24 c] 36)).alloc (.cells #[.int .i64 k, .int .i64 v, .int .i64 n, .slice uo l.length uc] 31)).alloc (.cells #[.slice none 0 0, .slice none 0 0] 36)).heap.size := by first | (simp; done) | (simp; omega)
    have c1 : Below w.heap.size w (((w.alloc (.cells #[.slice vo I.length vc, .slice (some ⟨g, 0, none⟩) 24 c] 36)).alloc (.cells #[.int .i64 k, .int .i64 v, .int .i64 n, .slice uo l.length uc] 31)).alloc (.cells #[.slice none 0 0, .slice none 0 0] 36)) := by go_grown
    have s1 : (((w.alloc (.cells #[.slice vo I.length vc, .slice (some ⟨g, 0, none⟩) 24 c] 36)).alloc (.cells #[.int .i64 k, .int .i64 v, .int .i64 n, .slice uo l.length uc] 31)).alloc (.cells #[.slice none 0 0, .slice none 0 0] 36)).heap.size = w.heap.size + 3 := by simp
    generalize (((w.alloc (.cells #[.slice vo I.length vc, .slice (some ⟨g, 0, none⟩) 24 c] 36)).alloc (.cells #[.int .i64 k, .int .i64 v, .int .i64 n, .slice uo l.length uc] 31)).alloc (.cells #[.slice none 0 0, .slice none 0 0] 36)) = w1 at a0_1 a1_1 al_1 b0_1 b1_1 b2_1 b3_1 bl_1 r0_1 rf0_1 r1_1 rf1_1 rl_1 c1 s1 ⊢
    have qa0_1 := cell_regrown a0_1
    have qa1_1 := cell_regrown a1_1
    have qb0_1 := cell_regrown b0_1
    have qb1_1 := cell_regrown b1_1
    have qb2_1 := cell_regrown b2_1
    have qb3_1 := cell_regrown b3_1
    have qr0_1 := cell_regrown r0_1
    have qr1_1 := cell_regrown r1_1
    clear qr0_1 qr1_1
    have S1 := hid s1
    clear s1
    have HU1 := hid (HU.out.later c1)
    refine wp_region_quiet_below (by kernel_rfl) (by kernel_rfl) ?_
    repeat (first | go_big_quiet_skip | (go_big_quiet_want; go_big_quiet_op; first | go_big_quiet_on | go_big_quiet_call (first | (go_at_call 53; exact Calls.regrown_of (hco _ (HU1.out.later (below_regrown _ _ _)))))))
    refine wpQuiet_nil ?_
    rintro wq ⟨pq, hwq⟩
    have hq : Below w1.heap.size w1 wq := by rw [hwq]; exact below_regrown _ _ _
    clear hwq pq
    have C2 := hid (c1.trans (hq.mono c1.size))
    have r0_2 := (hq.cell (p := ⟨w.heap.size + 1 + 1, 0, none⟩) rl_1).trans r0_1
    have r1_2 := (hq.cell (p := ⟨w.heap.size + 1 + 1, 1, none⟩) rl_1).trans r1_1
    have rf0_2 := (hq.frozen (p := ⟨w.heap.size + 1 + 1, 0, none⟩) rl_1).trans rf0_1
    have rf1_2 := (hq.frozen (p := ⟨w.heap.size + 1 + 1, 1, none⟩) rl_1).trans rf1_1
    have a0_2 := (hq.cell (p := ⟨w.heap.size, 0, none⟩) al_1).trans a0_1
    have a1_2 := (hq.cell (p := ⟨w.heap.size, 1, none⟩) al_1).trans a1_1
    clear hq hco r0_1 r1_1 rf0_1 rf1_1 a0_1 a1_1
    go_wp2_with fail
    have KB := (C2.out.setCell (p := ⟨w.heap.size + 1 + 1, 0, none⟩) (by show w.heap.size ≤ w.heap.size + 1 + 1; omega) (.slice vo I.length vc)).setCell (p := ⟨w.heap.size + 1 + 1, 1, none⟩) (by show w.heap.size ≤ w.heap.size + 1 + 1; omega) (.slice (some ⟨g, 0, none⟩) 24 c)
    have e0 : ((wq.setCell ⟨w.heap.size + 1 + 1, 0, none⟩ (.slice vo I.length vc)).setCell ⟨w.heap.size + 1 + 1, 1, none⟩ (.slice (some ⟨g, 0, none⟩) 24 c)).cell? ⟨w.heap.size + 1 + 1, 0, none⟩ = some (.slice vo I.length vc) := by go_cell
    have e1 : ((wq.setCell ⟨w.heap.size + 1 + 1, 0, none⟩ (.slice vo I.length vc)).setCell ⟨w.heap.size + 1 + 1, 1, none⟩ (.slice (some ⟨g, 0, none⟩) 24 c)).cell? ⟨w.heap.size + 1 + 1, 1, none⟩ = some (.slice (some ⟨g, 0, none⟩) 24 c) := by go_cell
    exact bodyPost_ret (v := .tuple #[.agg #[.slice vo I.length vc, .slice (some ⟨g, 0, none⟩) 24 c], .bool false]) (by simp [results, Try.results50, go_sem, e0, e1]) rfl ⟨⟨_, rfl, HK.out.later KB, row_later HROW.out KB⟩, Only.later KB⟩
  | true =>
    rw [hit] at hco
    have hk := itR_key hit
    obtain ⟨kk, rfl⟩ := Int.eq_ofNat_of_zero_le hk.1
    have hkk : kk < 24 := by omega
    have HL8 : Hid (l.length ≤ 8) := hid (by unfold itR at hit; rw [Bool.and_eq_true] at hit; exact okV_le hit.2)
    have HFL1 := hid (show kk < F.length from by rw [HFL.out.1]; exact hkk)
    cases hpb : putB F (kk : Int) v n l with
    | false =>
      rw [hpb] at hD
      simp only [Bool.false_eq_true, if_false] at hD
      subst hD
      have hlt : decide (v < flr F kk) = true := by
        simp [putB, hit] at hpb
        simpa using hpb
      clear hk hit hpb
      go_enter Try.func50, Try.ntmps50
      go_wp2_with fail
      have a0_1 : (((w.alloc (.cells #[.slice vo I.length vc, .slice (some ⟨g, 0, none⟩) 24 c] 36)).alloc (.cells #[.int .i64 (kk : Int), .int .i64 v, .int .i64 n, .slice uo l.length uc] 31)).alloc (.cells #[.slice none 0 0, .slice none 0 0] 36)).cell? ⟨w.heap.size, 0, none⟩ = some (.slice vo I.length vc) := by go_cell
      have a1_1 : (((w.alloc (.cells #[.slice vo I.length vc, .slice (some ⟨g, 0, none⟩) 24 c] 36)).alloc (.cells #[.int .i64 (kk : Int), .int .i64 v, .int .i64 n, .slice uo l.length uc] 31)).alloc (.cells #[.slice none 0 0, .slice none 0 0] 36)).cell? ⟨w.heap.size, 1, none⟩ = some (.slice (some ⟨g, 0, none⟩) 24 c) := by go_cell
      have al_1 : w.heap.size < (((w.alloc (.cells #[.slice vo I.length vc, .slice (some ⟨g, 0, none⟩) 24 c] 36)).alloc (.cells #[.int .i64 (kk : Int), .int .i64 v, .int .i64 n, .slice uo l.length uc] 31)).alloc (.cells #[.slice none 0 0, .slice none 0 0] 36)).heap.size := by first | (simp; done) | (simp; omega)
      have b0_1 : (((w.alloc (.cells #[.slice vo I.length vc, .slice (some ⟨g, 0, none⟩) 24 c] 36)).alloc (.cells #[.int .i64 (kk : Int), .int .i64 v, .int .i64 n, .slice uo l.length uc] 31)).alloc (.cells #[.slice none 0 0, .slice none 0 0] 36)).cell? ⟨w.heap.size + 1, 0, none⟩ = some (.int .i64 (kk : Int)) := by go_cell
      have b1_1 : (((w.alloc (.cells #[.slice vo I.length vc, .slice (some ⟨g, 0, none⟩) 24 c] 36)).alloc (.cells #[.int .i64 (kk : Int), .int .i64 v, .int .i64 n, .slice uo l.length uc] 31)).alloc (.cells #[.slice none 0 0, .slice none 0 0] 36)).cell? ⟨w.heap.size + 1, 1, none⟩ = some (.int .i64 v) := by go_cell
      have b2_1 : (((w.alloc (.cells #[.slice vo I.length vc, .slice (some ⟨g, 0, none⟩) 24 c] 36)).alloc (.cells #[.int .i64 (kk : Int), .int .i64 v, .int .i64 n, .slice uo l.length uc] 31)).alloc (.cells #[.slice none 0 0, .slice none 0 0] 36)).cell? ⟨w.heap.size + 1, 2, none⟩ = some (.int .i64 n) := by go_cell
      have b3_1 : (((w.alloc (.cells #[.slice vo I.length vc, .slice (some ⟨g, 0, none⟩) 24 c] 36)).alloc (.cells #[.int .i64 (kk : Int), .int .i64 v, .int .i64 n, .slice uo l.length uc] 31)).alloc (.cells #[.slice none 0 0, .slice none 0 0] 36)).cell? ⟨w.heap.size + 1, 3, none⟩ = some (.slice uo l.length uc) := by go_cell
      have bl_1 : w.heap.size + 1 < (((w.alloc (.cells #[.slice vo I.length vc, .slice (some ⟨g, 0, none⟩) 24 c] 36)).alloc (.cells #[.int .i64 (kk : Int), .int .i64 v, .int .i64 n, .slice uo l.length uc] 31)).alloc (.cells #[.slice none 0 0, .slice none 0 0] 36)).heap.size := by first | (simp; done) | (simp; omega)
      have r0_1 : (((w.alloc (.cells #[.slice vo I.length vc, .slice (some ⟨g, 0, none⟩) 24 c] 36)).alloc (.cells #[.int .i64 (kk : Int), .int .i64 v, .int .i64 n, .slice uo l.length uc] 31)).alloc (.cells #[.slice none 0 0, .slice none 0 0] 36)).cell? ⟨w.heap.size + 1 + 1, 0, none⟩ = some (.slice none 0 0) := by go_cell
      have rf0_1 : (((w.alloc (.cells #[.slice vo I.length vc, .slice (some ⟨g, 0, none⟩) 24 c] 36)).alloc (.cells #[.int .i64 (kk : Int), .int .i64 v, .int .i64 n, .slice uo l.length uc] 31)).alloc (.cells #[.slice none 0 0, .slice none 0 0] 36)).frozen? ⟨w.heap.size + 1 + 1, 0, none⟩ = false := by (first | go_cell | (simp [World.frozen?, World.alloc]; done) | rfl)
      have r1_1 : (((w.alloc (.cells #[.slice vo I.length vc, .slice (some ⟨g, 0, none⟩) 24 c] 36)).alloc (.cells #[.int .i64 (kk : Int), .int .i64 v, .int .i64 n, .slice uo l.length uc] 31)).alloc (.cells #[.slice none 0 0, .slice none 0 0] 36)).cell? ⟨w.heap.size + 1 + 1, 1, none⟩ = some (.slice none 0 0) := by go_cell
      have rf1_1 : (((w.alloc (.cells #[.slice vo I.length vc, .slice (some ⟨g, 0, none⟩) 24 c] 36)).alloc (.cells #[.int .i64 (kk : Int), .int .i64 v, .int .i64 n, .slice uo l.length uc] 31)).alloc (.cells #[.slice none 0 0, .slice none 0 0] 36)).frozen? ⟨w.heap.size + 1 + 1, 1, none⟩ = false := by (first | go_cell | (simp [World.frozen?, World.alloc]; done) | rfl)
      have rl_1 : w.heap.size + 1 + 1 < (((w.alloc (.cells #[.slice vo I.length vc, .slice (some ⟨g, 0, none⟩) 24 c] 36)).alloc (.cells #[.int .i64 (kk : Int), .int .i64 v, .int .i64 n, .slice uo l.length uc] 31)).alloc (.cells #[.slice none 0 0, .slice none 0 0] 36)).heap.size := by first | (simp; done) | (simp; omega)
      have c1 : Below w.heap.size w (((w.alloc (.cells #[.slice vo I.length vc, .slice (some ⟨g, 0, none⟩) 24 c] 36)).alloc (.cells #[.int .i64 (kk : Int), .int .i64 v, .int .i64 n, .slice uo l.length uc] 31)).alloc (.cells #[.slice none 0 0, .slice none 0 0] 36)) := by go_grown
      have s1 : (((w.alloc (.cells #[.slice vo I.length vc, .slice (some ⟨g, 0, none⟩) 24 c] 36)).alloc (.cells #[.int .i64 (kk : Int), .int .i64 v, .int .i64 n, .slice uo l.length uc] 31)).alloc (.cells #[.slice none 0 0, .slice none 0 0] 36)).heap.size = w.heap.size + 3 := by simp
      generalize (((w.alloc (.cells #[.slice vo I.length vc, .slice (some ⟨g, 0, none⟩) 24 c] 36)).alloc (.cells #[.int .i64 (kk : Int), .int .i64 v, .int .i64 n, .slice uo l.length uc] 31)).alloc (.cells #[.slice none 0 0, .slice none 0 0] 36)) = w1 at a0_1 a1_1 al_1 b0_1 b1_1 b2_1 b3_1 bl_1 r0_1 rf0_1 r1_1 rf1_1 rl_1 c1 s1 ⊢
      have qa0_1 := cell_regrown a0_1
      have qa1_1 := cell_regrown a1_1
      have qb0_1 := cell_regrown b0_1
      have qb1_1 := cell_regrown b1_1
      have qb2_1 := cell_regrown b2_1
      have qb3_1 := cell_regrown b3_1
      have qr0_1 := cell_regrown r0_1
      have qr1_1 := cell_regrown r1_1
      clear qr0_1 qr1_1
      have S1 := hid s1
      clear s1
      have HU1 := hid (HU.out.later c1)
      have HROW1 := hid (row_later HROW.out c1)
      have f1 : w1.cell? ⟨g, kk, none⟩ = some (.int .i64 (flr F kk)) := by rw [World.ownsRow.cellAt HROW1.out kk (by omega), floC_get HFL1.out]
      have qf1 := cell_regrown f1
      refine wp_region_quiet_below (by kernel_rfl) (by kernel_rfl) ?_
      repeat (first | go_big_quiet_skip | (go_big_quiet_want; go_big_quiet_op; first | go_big_quiet_on | go_big_quiet_call (first | (go_at_call 53; exact Calls.regrown_of (hco _ (HU1.out.later (below_regrown _ _ _)))))))
      refine wpQuiet_nil ?_
      rintro wq ⟨pq, hwq⟩
      have hq : Below w1.heap.size w1 wq := by rw [hwq]; exact below_regrown _ _ _
      clear hwq pq
      have C2 := hid (c1.trans (hq.mono c1.size))
      have r0_2 := (hq.cell (p := ⟨w.heap.size + 1 + 1, 0, none⟩) rl_1).trans r0_1
      have r1_2 := (hq.cell (p := ⟨w.heap.size + 1 + 1, 1, none⟩) rl_1).trans r1_1
      have rf0_2 := (hq.frozen (p := ⟨w.heap.size + 1 + 1, 0, none⟩) rl_1).trans rf0_1
      have rf1_2 := (hq.frozen (p := ⟨w.heap.size + 1 + 1, 1, none⟩) rl_1).trans rf1_1
      have a0_2 := (hq.cell (p := ⟨w.heap.size, 0, none⟩) al_1).trans a0_1
      have a1_2 := (hq.cell (p := ⟨w.heap.size, 1, none⟩) al_1).trans a1_1
      clear hq hco r0_1 r1_1 rf0_1 rf1_1 a0_1 a1_1
      go_wp2_with fail
      have KB := (C2.out.setCell (p := ⟨w.heap.size + 1 + 1, 0, none⟩) (by show w.heap.size ≤ w.heap.size + 1 + 1; omega) (.slice vo I.length vc)).setCell (p := ⟨w.heap.size + 1 + 1, 1, none⟩) (by show w.heap.size ≤ w.heap.size + 1 + 1; omega) (.slice (some ⟨g, 0, none⟩) 24 c)
      have e0 : ((wq.setCell ⟨w.heap.size + 1 + 1, 0, none⟩ (.slice vo I.length vc)).setCell ⟨w.heap.size + 1 + 1, 1, none⟩ (.slice (some ⟨g, 0, none⟩) 24 c)).cell? ⟨w.heap.size + 1 + 1, 0, none⟩ = some (.slice vo I.length vc) := by go_cell
      have e1 : ((wq.setCell ⟨w.heap.size + 1 + 1, 0, none⟩ (.slice vo I.length vc)).setCell ⟨w.heap.size + 1 + 1, 1, none⟩ (.slice (some ⟨g, 0, none⟩) 24 c)).cell? ⟨w.heap.size + 1 + 1, 1, none⟩ = some (.slice (some ⟨g, 0, none⟩) 24 c) := by go_cell
      exact bodyPost_ret (v := .tuple #[.agg #[.slice vo I.length vc, .slice (some ⟨g, 0, none⟩) 24 c], .bool false]) (by simp [results, Try.results50, go_sem, e0, e1]) rfl ⟨⟨_, rfl, HK.out.later KB, row_later HROW.out KB⟩, Only.later KB⟩
    | true =>
      rw [hpb] at hD
      simp only [if_true] at hD
      subst hD
      have hlt : decide (v < flr F kk) = false := by
        simp [putB, hit] at hpb
        simp
        omega
      clear hk hit hpb
      go_enter Try.func50, Try.ntmps50
      go_wp2_with fail
      have a0_1 : (((w.alloc (.cells #[.slice vo I.length vc, .slice (some ⟨g, 0, none⟩) 24 c] 36)).alloc (.cells #[.int .i64 (kk : Int), .int .i64 v, .int .i64 n, .slice uo l.length uc] 31)).alloc (.cells #[.slice none 0 0, .slice none 0 0] 36)).cell? ⟨w.heap.size, 0, none⟩ = some (.slice vo I.length vc) := by go_cell
      have af0_1 : (((w.alloc (.cells #[.slice vo I.length vc, .slice (some ⟨g, 0, none⟩) 24 c] 36)).alloc (.cells #[.int .i64 (kk : Int), .int .i64 v, .int .i64 n, .slice uo l.length uc] 31)).alloc (.cells #[.slice none 0 0, .slice none 0 0] 36)).frozen? ⟨w.heap.size, 0, none⟩ = false := by (first | go_cell | (simp [World.frozen?, World.alloc]; done) | rfl)
      have a1_1 : (((w.alloc (.cells #[.slice vo I.length vc, .slice (some ⟨g, 0, none⟩) 24 c] 36)).alloc (.cells #[.int .i64 (kk : Int), .int .i64 v, .int .i64 n, .slice uo l.length uc] 31)).alloc (.cells #[.slice none 0 0, .slice none 0 0] 36)).cell? ⟨w.heap.size, 1, none⟩ = some (.slice (some ⟨g, 0, none⟩) 24 c) := by go_cell
      have af1_1 : (((w.alloc (.cells #[.slice vo I.length vc, .slice (some ⟨g, 0, none⟩) 24 c] 36)).alloc (.cells #[.int .i64 (kk : Int), .int .i64 v, .int .i64 n, .slice uo l.length uc] 31)).alloc (.cells #[.slice none 0 0, .slice none 0 0] 36)).frozen? ⟨w.heap.size, 1, none⟩ = false := by (first | go_cell | (simp [World.frozen?, World.alloc]; done) | rfl)
      have al_1 : w.heap.size < (((w.alloc (.cells #[.slice vo I.length vc, .slice (some ⟨g, 0, none⟩) 24 c] 36)).alloc (.cells #[.int .i64 (kk : Int), .int .i64 v, .int .i64 n, .slice uo l.length uc] 31)).alloc (.cells #[.slice none 0 0, .slice none 0 0] 36)).heap.size := by first | (simp; done) | (simp; omega)
      have b0_1 : (((w.alloc (.cells #[.slice vo I.length vc, .slice (some ⟨g, 0, none⟩) 24 c] 36)).alloc (.cells #[.int .i64 (kk : Int), .int .i64 v, .int .i64 n, .slice uo l.length uc] 31)).alloc (.cells #[.slice none 0 0, .slice none 0 0] 36)).cell? ⟨w.heap.size + 1, 0, none⟩ = some (.int .i64 (kk : Int)) := by go_cell
      have b1_1 : (((w.alloc (.cells #[.slice vo I.length vc, .slice (some ⟨g, 0, none⟩) 24 c] 36)).alloc (.cells #[.int .i64 (kk : Int), .int .i64 v, .int .i64 n, .slice uo l.length uc] 31)).alloc (.cells #[.slice none 0 0, .slice none 0 0] 36)).cell? ⟨w.heap.size + 1, 1, none⟩ = some (.int .i64 v) := by go_cell
      have b2_1 : (((w.alloc (.cells #[.slice vo I.length vc, .slice (some ⟨g, 0, none⟩) 24 c] 36)).alloc (.cells #[.int .i64 (kk : Int), .int .i64 v, .int .i64 n, .slice uo l.length uc] 31)).alloc (.cells #[.slice none 0 0, .slice none 0 0] 36)).cell? ⟨w.heap.size + 1, 2, none⟩ = some (.int .i64 n) := by go_cell
      have b3_1 : (((w.alloc (.cells #[.slice vo I.length vc, .slice (some ⟨g, 0, none⟩) 24 c] 36)).alloc (.cells #[.int .i64 (kk : Int), .int .i64 v, .int .i64 n, .slice uo l.length uc] 31)).alloc (.cells #[.slice none 0 0, .slice none 0 0] 36)).cell? ⟨w.heap.size + 1, 3, none⟩ = some (.slice uo l.length uc) := by go_cell
      have bl_1 : w.heap.size + 1 < (((w.alloc (.cells #[.slice vo I.length vc, .slice (some ⟨g, 0, none⟩) 24 c] 36)).alloc (.cells #[.int .i64 (kk : Int), .int .i64 v, .int .i64 n, .slice uo l.length uc] 31)).alloc (.cells #[.slice none 0 0, .slice none 0 0] 36)).heap.size := by first | (simp; done) | (simp; omega)
      have r0_1 : (((w.alloc (.cells #[.slice vo I.length vc, .slice (some ⟨g, 0, none⟩) 24 c] 36)).alloc (.cells #[.int .i64 (kk : Int), .int .i64 v, .int .i64 n, .slice uo l.length uc] 31)).alloc (.cells #[.slice none 0 0, .slice none 0 0] 36)).cell? ⟨w.heap.size + 1 + 1, 0, none⟩ = some (.slice none 0 0) := by go_cell
      have rf0_1 : (((w.alloc (.cells #[.slice vo I.length vc, .slice (some ⟨g, 0, none⟩) 24 c] 36)).alloc (.cells #[.int .i64 (kk : Int), .int .i64 v, .int .i64 n, .slice uo l.length uc] 31)).alloc (.cells #[.slice none 0 0, .slice none 0 0] 36)).frozen? ⟨w.heap.size + 1 + 1, 0, none⟩ = false := by (first | go_cell | (simp [World.frozen?, World.alloc]; done) | rfl)
      have r1_1 : (((w.alloc (.cells #[.slice vo I.length vc, .slice (some ⟨g, 0, none⟩) 24 c] 36)).alloc (.cells #[.int .i64 (kk : Int), .int .i64 v, .int .i64 n, .slice uo l.length uc] 31)).alloc (.cells #[.slice none 0 0, .slice none 0 0] 36)).cell? ⟨w.heap.size + 1 + 1, 1, none⟩ = some (.slice none 0 0) := by go_cell
      have rf1_1 : (((w.alloc (.cells #[.slice vo I.length vc, .slice (some ⟨g, 0, none⟩) 24 c] 36)).alloc (.cells #[.int .i64 (kk : Int), .int .i64 v, .int .i64 n, .slice uo l.length uc] 31)).alloc (.cells #[.slice none 0 0, .slice none 0 0] 36)).frozen? ⟨w.heap.size + 1 + 1, 1, none⟩ = false := by (first | go_cell | (simp [World.frozen?, World.alloc]; done) | rfl)
      have rl_1 : w.heap.size + 1 + 1 < (((w.alloc (.cells #[.slice vo I.length vc, .slice (some ⟨g, 0, none⟩) 24 c] 36)).alloc (.cells #[.int .i64 (kk : Int), .int .i64 v, .int .i64 n, .slice uo l.length uc] 31)).alloc (.cells #[.slice none 0 0, .slice none 0 0] 36)).heap.size := by first | (simp; done) | (simp; omega)
      have c1 : Below w.heap.size w (((w.alloc (.cells #[.slice vo I.length vc, .slice (some ⟨g, 0, none⟩) 24 c] 36)).alloc (.cells #[.int .i64 (kk : Int), .int .i64 v, .int .i64 n, .slice uo l.length uc] 31)).alloc (.cells #[.slice none 0 0, .slice none 0 0] 36)) := by go_grown
      have s1 : (((w.alloc (.cells #[.slice vo I.length vc, .slice (some ⟨g, 0, none⟩) 24 c] 36)).alloc (.cells #[.int .i64 (kk : Int), .int .i64 v, .int .i64 n, .slice uo l.length uc] 31)).alloc (.cells #[.slice none 0 0, .slice none 0 0] 36)).heap.size = w.heap.size + 3 := by simp
      generalize (((w.alloc (.cells #[.slice vo I.length vc, .slice (some ⟨g, 0, none⟩) 24 c] 36)).alloc (.cells #[.int .i64 (kk : Int), .int .i64 v, .int .i64 n, .slice uo l.length uc] 31)).alloc (.cells #[.slice none 0 0, .slice none 0 0] 36)) = w1 at a0_1 af0_1 a1_1 af1_1 al_1 b0_1 b1_1 b2_1 b3_1 bl_1 r0_1 rf0_1 r1_1 rf1_1 rl_1 c1 s1 ⊢
      have qa0_1 := cell_regrown a0_1
      have qa1_1 := cell_regrown a1_1
      have qb0_1 := cell_regrown b0_1
      have qb1_1 := cell_regrown b1_1
      have qb2_1 := cell_regrown b2_1
      have qb3_1 := cell_regrown b3_1
      have qr0_1 := cell_regrown r0_1
      have qr1_1 := cell_regrown r1_1
      clear qr0_1 qr1_1
      have S1 := hid s1
      clear s1
      have HU1 := hid (HU.out.later c1)
      have HZ1 : Hid (w1.heap.size = w.heap.size + 3) := hid (by have := S1.out; omega)
      have HROW1 := hid (row_later HROW.out c1)
      have f1 : w1.cell? ⟨g, kk, none⟩ = some (.int .i64 (flr F kk)) := by rw [World.ownsRow.cellAt HROW1.out kk (by omega), floC_get HFL1.out]
      have qf1 := cell_regrown f1
      have K1 := hid ((HK.out.weaken (G' := (fun q => q < N ∨ (w.heap.size ≤ q ∧ q < w1.heap.size))) (fun q hq hG => hG.elim id (fun h => by omega))).later c1)
      have hw01 := c1.size
      refine wp_region_quiet_below (by kernel_rfl) (by kernel_rfl) ?_
      repeat (first | go_big_quiet_skip | (go_big_quiet_want; go_big_quiet_op; first | go_big_quiet_on | go_big_quiet_call (first | (go_at_call 53; exact Calls.regrown_of (hco _ (HU1.out.later (below_regrown _ _ _)))))))
      refine wpQuiet_nil ?_
      rintro wq ⟨pq, hwq⟩
      have hq : Below w1.heap.size w1 wq := by rw [hwq]; exact below_regrown _ _ _
      clear hwq pq
      have b2 := hq
      have C1 := hid c1
      have a0_2 := (b2.cell (p := ⟨w.heap.size, 0, none⟩) al_1).trans a0_1
      have af0_2 := (b2.frozen (p := ⟨w.heap.size, 0, none⟩) al_1).trans af0_1
      have a1_2 := (b2.cell (p := ⟨w.heap.size, 1, none⟩) al_1).trans a1_1
      have af1_2 := (b2.frozen (p := ⟨w.heap.size, 1, none⟩) al_1).trans af1_1
      have b0_2 := (b2.cell (p := ⟨w.heap.size + 1, 0, none⟩) bl_1).trans b0_1
      have b1_2 := (b2.cell (p := ⟨w.heap.size + 1, 1, none⟩) bl_1).trans b1_1
      have b2_2 := (b2.cell (p := ⟨w.heap.size + 1, 2, none⟩) bl_1).trans b2_1
      have b3_2 := (b2.cell (p := ⟨w.heap.size + 1, 3, none⟩) bl_1).trans b3_1
      have r0_2 := (b2.cell (p := ⟨w.heap.size + 1 + 1, 0, none⟩) rl_1).trans r0_1
      have rf0_2 := (b2.frozen (p := ⟨w.heap.size + 1 + 1, 0, none⟩) rl_1).trans rf0_1
      have r1_2 := (b2.cell (p := ⟨w.heap.size + 1 + 1, 1, none⟩) rl_1).trans r1_1
      have rf1_2 := (b2.frozen (p := ⟨w.heap.size + 1 + 1, 1, none⟩) rl_1).trans rf1_1
      have al_2 := Nat.lt_of_lt_of_le al_1 b2.size
      have bl_2 := Nat.lt_of_lt_of_le bl_1 b2.size
      have rl_2 := Nat.lt_of_lt_of_le rl_1 b2.size
      have HROW2 := hid (row_later HROW1.out b2)
      have K2 := hid (K1.out.later b2)
      have HU2 := hid (HU1.out.later b2)
      have C2 := hid (c1.trans (b2.mono c1.size))
      have hz2 := b2.size
      clear a0_1 a1_1 b0_1 b1_1 b2_1 b3_1 r0_1 r1_1 af0_1 af1_1 rf0_1 rf1_1 qa0_1 qa1_1 qb0_1 qb1_1 qb2_1 qb3_1 f1 qf1 hq b2 hco HROW1 K1 HU1
      go_wp2_with fail
      refine (l5Drop_any (fun q => q < N ∨ (w.heap.size ≤ q ∧ q < w1.heap.size)) _ (some ⟨g, 0, none⟩) 24 c I (kk : Int) _ K2.out (fun q hq hG => hG.elim (fun h => by omega) (fun h => by omega)) (by omega)).mono ?_
      rintro e w3 ⟨⟨x, rfl, hx⟩, b3⟩
      have HX := hid hx
      obtain ⟨xo, xc, rfl, _⟩ := hx
      have a0_3 := (b3.cell (p := ⟨w.heap.size, 0, none⟩) al_2).trans a0_2
      have af0_3 := (b3.frozen (p := ⟨w.heap.size, 0, none⟩) al_2).trans af0_2
      have a1_3 := (b3.cell (p := ⟨w.heap.size, 1, none⟩) al_2).trans a1_2
      have af1_3 := (b3.frozen (p := ⟨w.heap.size, 1, none⟩) al_2).trans af1_2
      have b0_3 := (b3.cell (p := ⟨w.heap.size + 1, 0, none⟩) bl_2).trans b0_2
      have b1_3 := (b3.cell (p := ⟨w.heap.size + 1, 1, none⟩) bl_2).trans b1_2
      have b2_3 := (b3.cell (p := ⟨w.heap.size + 1, 2, none⟩) bl_2).trans b2_2
      have b3_3 := (b3.cell (p := ⟨w.heap.size + 1, 3, none⟩) bl_2).trans b3_2
      have r0_3 := (b3.cell (p := ⟨w.heap.size + 1 + 1, 0, none⟩) rl_2).trans r0_2
      have rf0_3 := (b3.frozen (p := ⟨w.heap.size + 1 + 1, 0, none⟩) rl_2).trans rf0_2
      have r1_3 := (b3.cell (p := ⟨w.heap.size + 1 + 1, 1, none⟩) rl_2).trans r1_2
      have rf1_3 := (b3.frozen (p := ⟨w.heap.size + 1 + 1, 1, none⟩) rl_2).trans rf1_2
      have al_3 := Nat.lt_of_lt_of_le al_2 b3.size
      have bl_3 := Nat.lt_of_lt_of_le bl_2 b3.size
      have rl_3 := Nat.lt_of_lt_of_le rl_2 b3.size
      have HROW3 := hid (row_later HROW2.out b3)
      have HU3 := hid (HU2.out.later b3)
      have C3 := hid (C2.out.trans (b3.mono C2.out.size))
      have hz3 := b3.size
      have hgl : g < w3.heap.size := (HROW3.out.lt g rfl).2
      have qf := HROW3.out.frozenAt kk
      obtain ⟨z, hz⟩ := row_cell HROW3.out kk (by omega)
      have hgw : g < w.heap.size := by omega
      clear a0_2 a1_2 b0_2 b1_2 b2_2 b3_2 r0_2 r1_2 af0_2 af1_2 rf0_2 rf1_2 b3 HROW2 K2 HU2
      go_upto_region 5 with fail
      have q0 : ∀ (i : Nat) (W : World) (y : Value), Only (fun q => q < N ∨ (w.heap.size ≤ q ∧ q < w1.heap.size)) W (W.setCell ⟨w.heap.size, i, none⟩ y) := fun i W y => Only.set (F := (fun q => q < N ∨ (w.heap.size ≤ q ∧ q < w1.heap.size))) W (p := ⟨w.heap.size, i, none⟩) (Or.inr ⟨Nat.le_refl _, by show w.heap.size < _; have := HZ1.out; omega⟩) y
      have q2 : ∀ (W : World) (y : Value), Only (fun q => q < N ∨ (w.heap.size ≤ q ∧ q < w1.heap.size)) W (W.setCell ⟨g, kk, none⟩ y) := fun W y => Only.set (F := (fun q => q < N ∨ (w.heap.size ≤ q ∧ q < w1.heap.size))) W (p := ⟨g, kk, none⟩) (Or.inl hg) y
      have HX4 := hid (HX.out.only (((q0 0 w3 (.slice xo (dropI (kk : Int) I).length xc)).trans (q0 1 _ (.slice (some ⟨g, 0, none⟩) 24 c))).trans (q2 _ (.int .i64 v))))
      have F4 := row_put1 (row_agree (row_agree HROW3.out (w' := w3.setCell ⟨w.heap.size, 0, none⟩ (.slice xo (dropI (kk : Int) I).length xc)) (fun q hq => by cases hq; exact Below.heap_setCell _ _ _ _ (by show g ≠ w.heap.size; omega))) (w' := ((w3.setCell ⟨w.heap.size, 0, none⟩ (.slice xo (dropI (kk : Int) I).length xc)).setCell ⟨w.heap.size, 1, none⟩ (.slice (some ⟨g, 0, none⟩) 24 c))) (fun q hq => by cases hq; exact Below.heap_setCell _ _ _ _ (by show g ≠ w.heap.size; omega))) kk (.int .i64 v)
      rw [floC_set] at F4
      have HF4 := hid F4
      have HO4 : Hid (Only (fun b => b = g) w (((w3.setCell ⟨w.heap.size, 0, none⟩ (.slice xo (dropI (kk : Int) I).length xc)).setCell ⟨w.heap.size, 1, none⟩ (.slice (some ⟨g, 0, none⟩) 24 c)).setCell ⟨g, kk, none⟩ (.int .i64 v))) := hid (by
        refine ⟨C3.out.os, C3.out.tape, C3.out.output, by have := C3.out.size; simp; exact this, fun q hq hne => ?_⟩
        exact (Below.heap_setCell _ _ _ _ (by show q ≠ g; exact hne)).trans ((Below.heap_setCell _ _ _ _ (by show q ≠ w.heap.size; omega)).trans ((Below.heap_setCell _ _ _ _ (by show q ≠ w.heap.size; omega)).trans (C3.out.block q hq))))
      have HU4 : Hid (Rd (((w3.setCell ⟨w.heap.size, 0, none⟩ (.slice xo (dropI (kk : Int) I).length xc)).setCell ⟨w.heap.size, 1, none⟩ (.slice (some ⟨g, 0, none⟩) 24 c)).setCell ⟨g, kk, none⟩ (.int .i64 v)) (.slice uo l.length uc) l) := hid (HU.out.only HO4.out HUB.out)
      have zz := HZ1.out
      have a0_4 : (((w3.setCell ⟨w.heap.size, 0, none⟩ (.slice xo (dropI (kk : Int) I).length xc)).setCell ⟨w.heap.size, 1, none⟩ (.slice (some ⟨g, 0, none⟩) 24 c)).setCell ⟨g, kk, none⟩ (.int .i64 v)).cell? ⟨w.heap.size, 0, none⟩ = some (.slice xo (dropI (kk : Int) I).length xc) := by go_cell
      have a1_4 : (((w3.setCell ⟨w.heap.size, 0, none⟩ (.slice xo (dropI (kk : Int) I).length xc)).setCell ⟨w.heap.size, 1, none⟩ (.slice (some ⟨g, 0, none⟩) 24 c)).setCell ⟨g, kk, none⟩ (.int .i64 v)).cell? ⟨w.heap.size, 1, none⟩ = some (.slice (some ⟨g, 0, none⟩) 24 c) := by go_cell
      have b0_4 : (((w3.setCell ⟨w.heap.size, 0, none⟩ (.slice xo (dropI (kk : Int) I).length xc)).setCell ⟨w.heap.size, 1, none⟩ (.slice (some ⟨g, 0, none⟩) 24 c)).setCell ⟨g, kk, none⟩ (.int .i64 v)).cell? ⟨w.heap.size + 1, 0, none⟩ = some (.int .i64 (kk : Int)) := by go_cell
      have b1_4 : (((w3.setCell ⟨w.heap.size, 0, none⟩ (.slice xo (dropI (kk : Int) I).length xc)).setCell ⟨w.heap.size, 1, none⟩ (.slice (some ⟨g, 0, none⟩) 24 c)).setCell ⟨g, kk, none⟩ (.int .i64 v)).cell? ⟨w.heap.size + 1, 1, none⟩ = some (.int .i64 v) := by go_cell
      have b2_4 : (((w3.setCell ⟨w.heap.size, 0, none⟩ (.slice xo (dropI (kk : Int) I).length xc)).setCell ⟨w.heap.size, 1, none⟩ (.slice (some ⟨g, 0, none⟩) 24 c)).setCell ⟨g, kk, none⟩ (.int .i64 v)).cell? ⟨w.heap.size + 1, 2, none⟩ = some (.int .i64 n) := by go_cell
      have b3_4 : (((w3.setCell ⟨w.heap.size, 0, none⟩ (.slice xo (dropI (kk : Int) I).length xc)).setCell ⟨w.heap.size, 1, none⟩ (.slice (some ⟨g, 0, none⟩) 24 c)).setCell ⟨g, kk, none⟩ (.int .i64 v)).cell? ⟨w.heap.size + 1, 3, none⟩ = some (.slice uo l.length uc) := by go_cell
      have r0_4 : (((w3.setCell ⟨w.heap.size, 0, none⟩ (.slice xo (dropI (kk : Int) I).length xc)).setCell ⟨w.heap.size, 1, none⟩ (.slice (some ⟨g, 0, none⟩) 24 c)).setCell ⟨g, kk, none⟩ (.int .i64 v)).cell? ⟨w.heap.size + 1 + 1, 0, none⟩ = some (.slice none 0 0) := by go_cell
      have r1_4 : (((w3.setCell ⟨w.heap.size, 0, none⟩ (.slice xo (dropI (kk : Int) I).length xc)).setCell ⟨w.heap.size, 1, none⟩ (.slice (some ⟨g, 0, none⟩) 24 c)).setCell ⟨g, kk, none⟩ (.int .i64 v)).cell? ⟨w.heap.size + 1 + 1, 1, none⟩ = some (.slice none 0 0) := by go_cell
      have rf0_4 : (((w3.setCell ⟨w.heap.size, 0, none⟩ (.slice xo (dropI (kk : Int) I).length xc)).setCell ⟨w.heap.size, 1, none⟩ (.slice (some ⟨g, 0, none⟩) 24 c)).setCell ⟨g, kk, none⟩ (.int .i64 v)).frozen? ⟨w.heap.size + 1 + 1, 0, none⟩ = false := by simpa using rf0_3
      have rf1_4 : (((w3.setCell ⟨w.heap.size, 0, none⟩ (.slice xo (dropI (kk : Int) I).length xc)).setCell ⟨w.heap.size, 1, none⟩ (.slice (some ⟨g, 0, none⟩) 24 c)).setCell ⟨g, kk, none⟩ (.int .i64 v)).frozen? ⟨w.heap.size + 1 + 1, 1, none⟩ = false := by simpa using rf1_3
      have af0_4 : (((w3.setCell ⟨w.heap.size, 0, none⟩ (.slice xo (dropI (kk : Int) I).length xc)).setCell ⟨w.heap.size, 1, none⟩ (.slice (some ⟨g, 0, none⟩) 24 c)).setCell ⟨g, kk, none⟩ (.int .i64 v)).frozen? ⟨w.heap.size, 0, none⟩ = false := by simpa using af0_3
      have z4 : (((w3.setCell ⟨w.heap.size, 0, none⟩ (.slice xo (dropI (kk : Int) I).length xc)).setCell ⟨w.heap.size, 1, none⟩ (.slice (some ⟨g, 0, none⟩) 24 c)).setCell ⟨g, kk, none⟩ (.int .i64 v)).heap.size = w3.heap.size := by simp
      clear a0_3 a1_3 b0_3 b1_3 b2_3 b3_3 r0_3 r1_3 af0_3 af1_3 rf0_3 rf1_3 F4 zz qf hz
      obtain ⟨w4, hw4⟩ : ∃ y, y = (((w3.setCell ⟨w.heap.size, 0, none⟩ (.slice xo (dropI (kk : Int) I).length xc)).setCell ⟨w.heap.size, 1, none⟩ (.slice (some ⟨g, 0, none⟩) 24 c)).setCell ⟨g, kk, none⟩ (.int .i64 v)) := ⟨_, rfl⟩
      rw [← hw4] at HX4 HF4 HO4 HU4 a0_4 a1_4 b0_4 b1_4 b2_4 b3_4 r0_4 r1_4 rf0_4 rf1_4 af0_4 z4 ⊢
      clear hw4 q0 q2
      have hz4 : w.heap.size + 3 ≤ w4.heap.size := by have := HZ1.out; omega
      have hmk : l.length ≤ 1099511627776 := by have := HL8.out; omega
      have hDL : (dropI (kk : Int) I).length ≤ 4 := by have := List.length_filter_le (fun x => !isKey (kk : Int) x) I; unfold dropI; omega
      have hk1 : 1 + (dropI (kk : Int) I).length ≤ maxLen := by unfold maxLen; omega
      have hk2 : (1 + (dropI (kk : Int) I).length) * 48 ≤ 140737488355328 := by omega
      have hGn : ∀ q, w4.heap.size ≤ q → ¬ (q < N ∨ (w.heap.size ≤ q ∧ q < w1.heap.size)) := fun q hq hG => hG.elim (fun h => by omega) (fun h => by have := HZ1.out; omega)
      have HGN := hid hGn
      clear hGn
      clear al_3 bl_3 rl_3 z4 hgl hz2 hz3 hw01 hlt
      go_cut [38] from 32 (fun s wx => Hid (MidP w w.heap.size (w.heap.size + 1 + 1) B g c (fun q => q < N ∨ (w.heap.size ≤ q ∧ q < w1.heap.size)) (dropI (kk : Int) I) (putF F (kk : Int) v) ([(kk : Int), v, n], l) wx))
      case first =>
        go_region_law (first
          | (refine step_callK rfl 54 _ _ rfl _ (by simp [Act.eval]) Try.call54 _ (l5Copy_any (kk : Int) v n _ l _ (HU4.out.later (by go_grown)) hmk) ?_; rintro e w5 ⟨⟨uo', uc', rfl, ho⟩, b5⟩; refine ⟨_, rfl, ?_⟩; have d5 : Below w4.heap.size w4 w5 := (Below.refl _ w4).drew.trans b5; have hz5 := d5.size; have HO5 := hid (Own.mono ho (B' := w4.heap.size) (Nat.le_refl _)); have a0_5 := (d5.cell (p := ⟨w.heap.size, 0, none⟩) (by show w.heap.size < w4.heap.size; omega)).trans a0_4; have a1_5 := (d5.cell (p := ⟨w.heap.size, 1, none⟩) (by show w.heap.size < w4.heap.size; omega)).trans a1_4; have r0_5 := (d5.cell (p := ⟨w.heap.size + 1 + 1, 0, none⟩) (by show w.heap.size + 1 + 1 < w4.heap.size; omega)).trans r0_4; have r1_5 := (d5.cell (p := ⟨w.heap.size + 1 + 1, 1, none⟩) (by show w.heap.size + 1 + 1 < w4.heap.size; omega)).trans r1_4; have rf0_5 := (d5.frozen (p := ⟨w.heap.size + 1 + 1, 0, none⟩) (by show w.heap.size + 1 + 1 < w4.heap.size; omega)).trans rf0_4; have rf1_5 := (d5.frozen (p := ⟨w.heap.size + 1 + 1, 1, none⟩) (by show w.heap.size + 1 + 1 < w4.heap.size; omega)).trans rf1_4; have af0_5 := (d5.frozen (p := ⟨w.heap.size, 0, none⟩) (by show w.heap.size < w4.heap.size; omega)).trans af0_4; have HF5 := hid (row_later HF4.out d5); have O5 := hid (HO4.out.trans (Only.later d5)); have HX5 := hid (HX4.out.later d5); have L6 : Below w5.heap.size w5 (w5.alloc (.cells #[.int .i64 (kk : Int), .int .i64 v, .int .i64 n, .slice uo' l.length uc'] 31)) := (by go_grown); have a0_6 := (L6.cell (p := ⟨w.heap.size, 0, none⟩) (by show w.heap.size < w5.heap.size; omega)).trans a0_5; have a1_6 := (L6.cell (p := ⟨w.heap.size, 1, none⟩) (by show w.heap.size < w5.heap.size; omega)).trans a1_5; have r0_6 := (L6.cell (p := ⟨w.heap.size + 1 + 1, 0, none⟩) (by show w.heap.size + 1 + 1 < w5.heap.size; omega)).trans r0_5; have r1_6 := (L6.cell (p := ⟨w.heap.size + 1 + 1, 1, none⟩) (by show w.heap.size + 1 + 1 < w5.heap.size; omega)).trans r1_5; have rf0_6 := (L6.frozen (p := ⟨w.heap.size + 1 + 1, 0, none⟩) (by show w.heap.size + 1 + 1 < w5.heap.size; omega)).trans rf0_5; have rf1_6 := (L6.frozen (p := ⟨w.heap.size + 1 + 1, 1, none⟩) (by show w.heap.size + 1 + 1 < w5.heap.size; omega)).trans rf1_5; have af0_6 := (L6.frozen (p := ⟨w.heap.size, 0, none⟩) (by show w.heap.size < w5.heap.size; omega)).trans af0_5; have HX6 := hid ((HX5.out.weaken (G' := fun q => (q < N ∨ (w.heap.size ≤ q ∧ q < w1.heap.size)) ∨ q = w5.heap.size) (fun q hq h => h.elim id (fun e => by omega))).later L6); have HLIT := hid (World.ownsRow_lit (base := w5.heap.size) (e := 31) (size := 4) w5 #[.int .i64 (kk : Int), .int .i64 v, .int .i64 n, .slice uo' l.length uc'] 1 (Nat.le_refl _) (by decide) rfl); have HF6 := hid (row_later HF5.out L6); have hz6 := L6.size; clear ho b5 d5)
          | (obtain ⟨us, cs, hcs, hl3, hnm, hkn, hrr⟩ := HX6.out.forAppend; refine step_append_rd rfl _ _ rfl w5.heap.size (.slice (some ⟨w5.heap.size, 0, none⟩) 1 1) 1 [.int .i64 (kk : Int), .int .i64 v, .int .i64 n, .slice uo' l.length uc'] (by simp [Act.eval]) HLIT.out xo (dropI (kk : Int) I).length xc cs (by simp [Act.eval]) hcs hk1 hk2 hz6 ?_; intro v6 w6 hown6 hgr6; have HP6 := hid (put_rdK (l := l) hz5 HGN.out hown6 HO5.out hgr6 hl3 hnm hkn hrr); have hown6' := hown6; rw [Nat.add_comm] at hown6'; obtain ⟨g6, c6, hv6⟩ := ownsRow_succ hown6'; subst hv6; have HC6 : Hid ((dropI (kk : Int) I).length + 1 ≤ c6) := hid (ownsRow_cap hown6'); have a0_7 := (World.cell?_of_block (a := ⟨w.heap.size, 0, none⟩) (hgr6.block (w.heap.size) (by have := L6.size; omega) (fun e => absurd (Option.some.inj e : _ = w5.heap.size) (by omega)))).trans a0_6; have a1_7 := (World.cell?_of_block (a := ⟨w.heap.size, 1, none⟩) (hgr6.block (w.heap.size) (by have := L6.size; omega) (fun e => absurd (Option.some.inj e : _ = w5.heap.size) (by omega)))).trans a1_6; have r0_7 := (World.cell?_of_block (a := ⟨w.heap.size + 1 + 1, 0, none⟩) (hgr6.block (w.heap.size + 1 + 1) (by have := L6.size; omega) (fun e => absurd (Option.some.inj e : _ = w5.heap.size) (by omega)))).trans r0_6; have r1_7 := (World.cell?_of_block (a := ⟨w.heap.size + 1 + 1, 1, none⟩) (hgr6.block (w.heap.size + 1 + 1) (by have := L6.size; omega) (fun e => absurd (Option.some.inj e : _ = w5.heap.size) (by omega)))).trans r1_6; have rf0_7 := (World.frozen?_of_block (a := ⟨w.heap.size + 1 + 1, 0, none⟩) (hgr6.block (w.heap.size + 1 + 1) (by have := L6.size; omega) (fun e => absurd (Option.some.inj e : _ = w5.heap.size) (by omega)))).trans rf0_6; have rf1_7 := (World.frozen?_of_block (a := ⟨w.heap.size + 1 + 1, 1, none⟩) (hgr6.block (w.heap.size + 1 + 1) (by have := L6.size; omega) (fun e => absurd (Option.some.inj e : _ = w5.heap.size) (by omega)))).trans rf1_6; have af0_7 := (World.frozen?_of_block (a := ⟨w.heap.size, 0, none⟩) (hgr6.block (w.heap.size) (by have := L6.size; omega) (fun e => absurd (Option.some.inj e : _ = w5.heap.size) (by omega)))).trans af0_6; have HF7 := hid (row_agree HF6.out (w' := w6) (fun q hq => by cases hq; exact hgr6.block g (by have := L6.size; omega) (fun e => absurd (Option.some.inj e : _ = w5.heap.size) (by omega)))); have O7 := hid (only_new O5.out hgr6); have hz7 := hgr6.size; clear hown6 hown6' hgr6 hcs hl3 hnm hkn hrr L6))
        all_goals
          go_wp2_with fail
          go_meet
          exact hid (midP_set (by rw [a0_7]; simp) af0_7 HC6.out (Or.inr ⟨Nat.le_refl _, by have := HZ1.out; omega⟩) (by omega) (by omega) (Nat.le_refl _) HP6.out a1_7 r0_7 r1_7 rf0_7 rf1_7 HF7.out O7.out)
      case rest =>
        obtain ⟨⟨g6, c6, e0, hc6, hk6⟩, a1_6, af_6, r0_6, r1_6, rf0_6, rf1_6, hrow6, ho6⟩ := hcut.out
        obtain ⟨w6, hw6⟩ : ∃ y, y = wc := ⟨_, rfl⟩
        subst hw6
        have HROW6 := hid hrow6
        have HO6 := hid ho6
        have HK6 := hid hk6
        clear hcut hrow6 ho6 hk6 a0_4 a1_4 b0_4 b1_4 b2_4 b3_4 r0_4 r1_4 rf0_4 rf1_4 af0_4 hk1 hk2
        obtain ⟨m, hm⟩ : ∃ m, (dropI (kk : Int) I).length + 1 = m := ⟨_, rfl⟩
        have HM := hid hm
        have hm5 : m ≤ 5 := by omega
        rw [hm] at e0 hc6 HK6
        clear hm
        have q3 : ∀ (i : Nat) (W : World) (y : Value), Only (fun q => q < N ∨ (w.heap.size ≤ q ∧ q < w1.heap.size)) W (W.setCell ⟨w.heap.size + 1 + 1, i, none⟩ y) := fun i W y => Only.set (F := (fun q => q < N ∨ (w.heap.size ≤ q ∧ q < w1.heap.size))) W (p := ⟨w.heap.size + 1 + 1, i, none⟩) (Or.inr ⟨by show w.heap.size ≤ w.heap.size + 1 + 1; omega, by show w.heap.size + 1 + 1 < _; have := HZ1.out; omega⟩) y
        have q0 : ∀ (W : World) (y : Value), Only (fun q => q < N ∨ (w.heap.size ≤ q ∧ q < w1.heap.size)) W (W.setCell ⟨w.heap.size, 0, none⟩ y) := fun W y => Only.set (F := (fun q => q < N ∨ (w.heap.size ≤ q ∧ q < w1.heap.size))) W (p := ⟨w.heap.size, 0, none⟩) (Or.inr ⟨Nat.le_refl _, by show w.heap.size < _; have := HZ1.out; omega⟩) y
        have Q3 := hid q3
        have Q0 := hid q0
        clear q3 q0
        by_cases hgt : m ≤ 4
        · have hgi : ¬ ((m : Int) > 4) := by omega
          have HP : Hid (putI (kk : Int) v n l I = ([(kk : Int), v, n], l) :: dropI (kk : Int) I) := hid (by rw [putI, List.take_of_length_le]; rw [List.length_cons, HM.out]; exact hgt)
          go_wp2_with fail
          have k0 : ((w6.setCell ⟨w.heap.size + 1 + 1, 0, none⟩ (.slice (some ⟨g6, 0, none⟩) m c6)).setCell ⟨w.heap.size + 1 + 1, 1, none⟩ (.slice (some ⟨g, 0, none⟩) 24 c)).cell? ⟨w.heap.size + 1 + 1, 0, none⟩ = some (.slice (some ⟨g6, 0, none⟩) m c6) := by go_cell
          have k1 : ((w6.setCell ⟨w.heap.size + 1 + 1, 0, none⟩ (.slice (some ⟨g6, 0, none⟩) m c6)).setCell ⟨w.heap.size + 1 + 1, 1, none⟩ (.slice (some ⟨g, 0, none⟩) 24 c)).cell? ⟨w.heap.size + 1 + 1, 1, none⟩ = some (.slice (some ⟨g, 0, none⟩) 24 c) := by go_cell
          have R9 := (HK6.out.only ((Q3.out 0 w6 (.slice (some ⟨g6, 0, none⟩) m c6)).trans (Q3.out 1 _ (.slice (some ⟨g, 0, none⟩) 24 c)))).weaken (G' := fun q => q < N) (fun q _ h => Or.inl h)
          rw [← HP.out] at R9
          have F9 := row_agree HROW6.out (w' := (w6.setCell ⟨w.heap.size + 1 + 1, 0, none⟩ (.slice (some ⟨g6, 0, none⟩) m c6)).setCell ⟨w.heap.size + 1 + 1, 1, none⟩ (.slice (some ⟨g, 0, none⟩) 24 c)) (fun q hq => by cases hq; exact (Below.heap_setCell _ _ _ _ (by show g ≠ w.heap.size + 1 + 1; omega)).trans (Below.heap_setCell _ _ _ _ (by show g ≠ w.heap.size + 1 + 1; omega)))
          have O9 : Only (fun b => b = g) w ((w6.setCell ⟨w.heap.size + 1 + 1, 0, none⟩ (.slice (some ⟨g6, 0, none⟩) m c6)).setCell ⟨w.heap.size + 1 + 1, 1, none⟩ (.slice (some ⟨g, 0, none⟩) 24 c)) :=
            ⟨HO6.out.os, HO6.out.tape, HO6.out.output, by have := HO6.out.size; simp; exact this, fun q hq hne => (Below.heap_setCell _ _ _ _ (by show q ≠ w.heap.size + 1 + 1; omega)).trans ((Below.heap_setCell _ _ _ _ (by show q ≠ w.heap.size + 1 + 1; omega)).trans (HO6.out.block q hq hne))⟩
          exact bodyPost_ret (v := .tuple #[.agg #[(.slice (some ⟨g6, 0, none⟩) m c6), (.slice (some ⟨g, 0, none⟩) 24 c)], .bool true]) (by simp [results, Try.results50, go_sem, k0, k1]) rfl ⟨⟨_, rfl, R9, F9⟩, O9⟩
        · have hgi : (m : Int) > 4 := by omega
          have hc4 : 4 ≤ c6 := by omega
          have hm4 : m = 5 := by omega
          have HP : Hid (putI (kk : Int) v n l I = (([(kk : Int), v, n], l) :: dropI (kk : Int) I).take 4) := hid rfl
          have HK4 := hid (HK6.out.take (m := 4) (by rw [List.length_cons, HM.out]; omega))
          clear HK6
          go_wp2_with fail
          have k0 : (((w6.setCell ⟨w.heap.size, 0, none⟩ (.slice (some ⟨g6, 0, none⟩) 4 c6)).setCell ⟨w.heap.size + 1 + 1, 0, none⟩ (.slice (some ⟨g6, 0, none⟩) 4 c6)).setCell ⟨w.heap.size + 1 + 1, 1, none⟩ (.slice (some ⟨g, 0, none⟩) 24 c)).cell? ⟨w.heap.size + 1 + 1, 0, none⟩ = some (.slice (some ⟨g6, 0, none⟩) 4 c6) := by go_cell
          have k1 : (((w6.setCell ⟨w.heap.size, 0, none⟩ (.slice (some ⟨g6, 0, none⟩) 4 c6)).setCell ⟨w.heap.size + 1 + 1, 0, none⟩ (.slice (some ⟨g6, 0, none⟩) 4 c6)).setCell ⟨w.heap.size + 1 + 1, 1, none⟩ (.slice (some ⟨g, 0, none⟩) 24 c)).cell? ⟨w.heap.size + 1 + 1, 1, none⟩ = some (.slice (some ⟨g, 0, none⟩) 24 c) := by go_cell
          have R9 := (HK4.out.only (((Q0.out w6 (.slice (some ⟨g6, 0, none⟩) 4 c6)).trans (Q3.out 0 _ (.slice (some ⟨g6, 0, none⟩) 4 c6))).trans (Q3.out 1 _ (.slice (some ⟨g, 0, none⟩) 24 c)))).weaken (G' := fun q => q < N) (fun q _ h => Or.inl h)
          rw [← HP.out] at R9
          have F9 := row_agree HROW6.out (w' := ((w6.setCell ⟨w.heap.size, 0, none⟩ (.slice (some ⟨g6, 0, none⟩) 4 c6)).setCell ⟨w.heap.size + 1 + 1, 0, none⟩ (.slice (some ⟨g6, 0, none⟩) 4 c6)).setCell ⟨w.heap.size + 1 + 1, 1, none⟩ (.slice (some ⟨g, 0, none⟩) 24 c)) (fun q hq => by cases hq; exact (Below.heap_setCell _ _ _ _ (by show g ≠ w.heap.size + 1 + 1; omega)).trans ((Below.heap_setCell _ _ _ _ (by show g ≠ w.heap.size + 1 + 1; omega)).trans (Below.heap_setCell _ _ _ _ (by show g ≠ w.heap.size; omega))))
          have O9 : Only (fun b => b = g) w (((w6.setCell ⟨w.heap.size, 0, none⟩ (.slice (some ⟨g6, 0, none⟩) 4 c6)).setCell ⟨w.heap.size + 1 + 1, 0, none⟩ (.slice (some ⟨g6, 0, none⟩) 4 c6)).setCell ⟨w.heap.size + 1 + 1, 1, none⟩ (.slice (some ⟨g, 0, none⟩) 24 c)) :=
            ⟨HO6.out.os, HO6.out.tape, HO6.out.output, by have := HO6.out.size; simp; exact this, fun q hq hne => (Below.heap_setCell _ _ _ _ (by show q ≠ w.heap.size + 1 + 1; omega)).trans ((Below.heap_setCell _ _ _ _ (by show q ≠ w.heap.size + 1 + 1; omega)).trans ((Below.heap_setCell _ _ _ _ (by show q ≠ w.heap.size; omega)).trans (HO6.out.block q hq hne)))⟩
          exact bodyPost_ret (v := .tuple #[.agg #[(.slice (some ⟨g6, 0, none⟩) 4 c6), (.slice (some ⟨g, 0, none⟩) 24 c)], .bool true]) (by simp [results, Try.results50, go_sem, k0, k1]) rfl ⟨⟨_, rfl, R9, F9⟩, O9⟩
end Go.Proofs.Ytnenlnadmdlcfaa

/- Part: spec.CachePut: contract. Written by a program (gspr.py). -/
namespace Go.Proofs.Ytnenlnadmdlcfaa
open Go.RowKit
attribute [local go_sem ↓] Go.wp_at_zero Go.wp_at_succ

/-- A cache that reads so whatever becomes of the blocks below B. -/
def Apart (B : Nat) (w : World) (v0 v1 : Value) (I F : List KD) : Prop := ∀ w2, Only (fun q => q < B) w w2 → RSCache w2 v0 v1 I F
theorem Apart.self {B : Nat} {w : World} {v0 v1 : Value} {I F : List KD} (h : Apart B w v0 v1 I F) : RSCache w v0 v1 I F := h w (Only.refl _ _)
def EndP (B : Nat) (w' : World) (I F : List KD) (b : Bool) (e : Ending) : Prop := ∃ v0 v1, e = .returned (.tuple #[.agg #[v0, v1], .bool b]) ∧ Apart B w' v0 v1 I F
set_option maxRecDepth 100000 in
set_option maxHeartbeats 8000000 in
theorem specCPut_any (v0 v1 : Value) (I F : List KD) (k v n : Int) (u : Value) (l : List (Int × Int)) (w : World) (h0 : RdM 4 3 true w v0 I) (h1 : RdM 1 1 false w v1 F) (hu : Rd w u l) {D : (List KD × List KD) × Bool} (hD : ansP I F k v n l = D) :
    Calls Try.prog 22 #[.agg #[v0, v1], .agg #[.int .i64 k, .int .i64 v, .int .i64 n, u]] w fun e w' => EndP w.heap.size w' D.1.1 D.1.2 D.2 e ∧ Below w.heap.size w w' := by
  have H0 := hid h0
  have H1 := hid h1
  have HU := hid hu
  have HUL := hid (hu.own_lt)
  obtain ⟨ai, ci, rfl, hq0, hq1⟩ := h0
  obtain ⟨af, cf, rfl, hq2, hq3⟩ := h1
  obtain ⟨uo, uc, rfl, _⟩ := hu
  clear hq0 hq1 hq2 hq3
  have hco := fun (W : World) (a : RdM 4 3 true W (.slice ai I.length ci) I) (b : RdM 1 1 false W (.slice af F.length cf) F) => specCOk_any _ _ I F W a b
  go_enter Try.func22, Try.ntmps22
  go_wp2_with fail
  have a0_1 : (((w.alloc (.cells #[.slice ai I.length ci, .slice af F.length cf] 36)).alloc (.cells #[.int .i64 k, .int .i64 v, .int .i64 n, .slice uo l.length uc] 31)).alloc (.cells #[.slice none 0 0, .slice none 0 0] 36)).cell? ⟨w.heap.size, 0, none⟩ = some (.slice ai I.length ci) := by go_cell
  have a1_1 : (((w.alloc (.cells #[.slice ai I.length ci, .slice af F.length cf] 36)).alloc (.cells #[.int .i64 k, .int .i64 v, .int .i64 n, .slice uo l.length uc] 31)).alloc (.cells #[.slice none 0 0, .slice none 0 0] 36)).cell? ⟨w.heap.size, 1, none⟩ = some (.slice af F.length cf) := by go_cell
  have al_1 : w.heap.size < (((w.alloc (.cells #[.slice ai I.length ci, .slice af F.length cf] 36)).alloc (.cells #[.int .i64 k, .int .i64 v, .int .i64 n, .slice uo l.length uc] 31)).alloc (.cells #[.slice none 0 0, .slice none 0 0] 36)).heap.size := by first | (simp; done) | (simp; omega)
  have b0_1 : (((w.alloc (.cells #[.slice ai I.length ci, .slice af F.length cf] 36)).alloc (.cells #[.int .i64 k, .int .i64 v, .int .i64 n, .slice uo l.length uc] 31)).alloc (.cells #[.slice none 0 0, .slice none 0 0] 36)).cell? ⟨w.heap.size + 1, 0, none⟩ = some (.int .i64 k) := by go_cell
  have b1_1 : (((w.alloc (.cells #[.slice ai I.length ci, .slice af F.length cf] 36)).alloc (.cells #[.int .i64 k, .int .i64 v, .int .i64 n, .slice uo l.length uc] 31)).alloc (.cells #[.slice none 0 0, .slice none 0 0] 36)).cell? ⟨w.heap.size + 1, 1, none⟩ = some (.int .i64 v) := by go_cell
  have b2_1 : (((w.alloc (.cells #[.slice ai I.length ci, .slice af F.length cf] 36)).alloc (.cells #[.int .i64 k, .int .i64 v, .int .i64 n, .slice uo l.length uc] 31)).alloc (.cells #[.slice none 0 0, .slice none 0 0] 36)).cell? ⟨w.heap.size + 1, 2, none⟩ = some (.int .i64 n) := by go_cell
  have b3_1 : (((w.alloc (.cells #[.slice ai I.length ci, .slice af F.length cf] 36)).alloc (.cells #[.int .i64 k, .int .i64 v, .int .i64 n, .slice uo l.length uc] 31)).alloc (.cells #[.slice none 0 0, .slice none 0 0] 36)).cell? ⟨w.heap.size + 1, 3, none⟩ = some (.slice uo l.length uc) := by go_cell
  have bl_1 : w.heap.size + 1 < (((w.alloc (.cells #[.slice ai I.length ci, .slice af F.length cf] 36)).alloc (.cells #[.int .i64 k, .int .i64 v, .int .i64 n, .slice uo l.length uc] 31)).alloc (.cells #[.slice none 0 0, .slice none 0 0] 36)).heap.size := by first | (simp; done) | (simp; omega)
  have r0_1 : (((w.alloc (.cells #[.slice ai I.length ci, .slice af F.length cf] 36)).alloc (.cells #[.int .i64 k, .int .i64 v, .int .i64 n, .slice uo l.length uc] 31)).alloc (.cells #[.slice none 0 0, .slice none 0 0] 36)).cell? ⟨w.heap.size + 1 + 1, 0, none⟩ = some (.slice none 0 0) := by go_cell
  have rf0_1 : (((w.alloc (.cells #[.slice ai I.length ci, .slice af F.length cf] 36)).alloc (.cells #[.int .i64 k, .int .i64 v, .int .i64 n, .slice uo l.length uc] 31)).alloc (.cells #[.slice none 0 0, .slice none 0 0] 36)).frozen? ⟨w.heap.size + 1 + 1, 0, none⟩ = false := by (first | go_cell | (simp [World.frozen?, World.alloc]; done) | rfl)
  have r1_1 : (((w.alloc (.cells #[.slice ai I.length ci, .slice af F.length cf] 36)).alloc (.cells #[.int .i64 k, .int .i64 v, .int .i64 n, .slice uo l.length uc] 31)).alloc (.cells #[.slice none 0 0, .slice none 0 0] 36)).cell? ⟨w.heap.size + 1 + 1, 1, none⟩ = some (.slice none 0 0) := by go_cell
  have rf1_1 : (((w.alloc (.cells #[.slice ai I.length ci, .slice af F.length cf] 36)).alloc (.cells #[.int .i64 k, .int .i64 v, .int .i64 n, .slice uo l.length uc] 31)).alloc (.cells #[.slice none 0 0, .slice none 0 0] 36)).frozen? ⟨w.heap.size + 1 + 1, 1, none⟩ = false := by (first | go_cell | (simp [World.frozen?, World.alloc]; done) | rfl)
  have rl_1 : w.heap.size + 1 + 1 < (((w.alloc (.cells #[.slice ai I.length ci, .slice af F.length cf] 36)).alloc (.cells #[.int .i64 k, .int .i64 v, .int .i64 n, .slice uo l.length uc] 31)).alloc (.cells #[.slice none 0 0, .slice none 0 0] 36)).heap.size := by first | (simp; done) | (simp; omega)
  have c1 : Below w.heap.size w (((w.alloc (.cells #[.slice ai I.length ci, .slice af F.length cf] 36)).alloc (.cells #[.int .i64 k, .int .i64 v, .int .i64 n, .slice uo l.length uc] 31)).alloc (.cells #[.slice none 0 0, .slice none 0 0] 36)) := by go_grown
  have s1 : (((w.alloc (.cells #[.slice ai I.length ci, .slice af F.length cf] 36)).alloc (.cells #[.int .i64 k, .int .i64 v, .int .i64 n, .slice uo l.length uc] 31)).alloc (.cells #[.slice none 0 0, .slice none 0 0] 36)).heap.size = w.heap.size + 3 := by simp
  generalize (((w.alloc (.cells #[.slice ai I.length ci, .slice af F.length cf] 36)).alloc (.cells #[.int .i64 k, .int .i64 v, .int .i64 n, .slice uo l.length uc] 31)).alloc (.cells #[.slice none 0 0, .slice none 0 0] 36)) = w1 at a0_1 a1_1 al_1 b0_1 b1_1 b2_1 b3_1 bl_1 r0_1 rf0_1 r1_1 rf1_1 rl_1 c1 s1 ⊢
  have qa0_1 := cell_regrown a0_1
  have qa1_1 := cell_regrown a1_1
  have qb0_1 := cell_regrown b0_1
  have qb1_1 := cell_regrown b1_1
  have qb2_1 := cell_regrown b2_1
  have qb3_1 := cell_regrown b3_1
  have qr0_1 := cell_regrown r0_1
  have qr1_1 := cell_regrown r1_1
  clear qa0_1 qa1_1 qb0_1 qb1_1 qb2_1 qb3_1 qr0_1 qr1_1
  cases hok : okC I F with
  | false =>
    rw [hok] at hco
    obtain rfl : D = (([], []), false) := by rw [← hD]; simp [ansP, hok]
    refine (hco _ (H0.out.later c1) (H1.out.later c1)).mono ?_
    rintro e w2 ⟨rfl, b2⟩
    have d2 : Below w1.heap.size w1 w2 := (Below.trans (by go_grown) (b2.mono (by first | omega | (simp; done) | (simp; omega))))
    have c2 : Below w.heap.size w w2 := c1.trans (d2.mono c1.size)
    have r0_2 : w2.cell? ⟨w.heap.size + 1 + 1, 0, none⟩ = some (.slice none 0 0) := (by rw [b2.cell (by first | omega | (simp; done) | (simp; omega))]; go_cell)
    have rf0_2 : w2.frozen? ⟨w.heap.size + 1 + 1, 0, none⟩ = false := (by rw [b2.frozen (by first | omega | (simp; done) | (simp; omega))]; (first | go_cell | (simp [World.frozen?, World.alloc]; done) | rfl))
    have r1_2 : w2.cell? ⟨w.heap.size + 1 + 1, 1, none⟩ = some (.slice none 0 0) := (by rw [b2.cell (by first | omega | (simp; done) | (simp; omega))]; go_cell)
    have rf1_2 : w2.frozen? ⟨w.heap.size + 1 + 1, 1, none⟩ = false := (by rw [b2.frozen (by first | omega | (simp; done) | (simp; omega))]; (first | go_cell | (simp [World.frozen?, World.alloc]; done) | rfl))
    have rl_2 : w.heap.size + 1 + 1 < w2.heap.size := (by have := b2.size; first | omega | (revert this; simp; done) | (revert this; simp; omega))
    clear r0_1 rf0_1 r1_1 rf1_1 rl_1
    have HC := hid c2
    clear b2 d2 hco hok hD
    go_wp2_with fail
    have KB := (HC.out.setCell (p := ⟨w.heap.size + 1 + 1, 0, none⟩) (by show w.heap.size ≤ w.heap.size + 1 + 1; omega) (.slice none 0 0)).setCell (p := ⟨w.heap.size + 1 + 1, 1, none⟩) (by show w.heap.size ≤ w.heap.size + 1 + 1; omega) (.slice none 0 0)
    have e0 : ((w2.setCell ⟨w.heap.size + 1 + 1, 0, none⟩ (.slice none 0 0)).setCell ⟨w.heap.size + 1 + 1, 1, none⟩ (.slice none 0 0)).cell? ⟨w.heap.size + 1 + 1, 0, none⟩ = some (.slice none 0 0) := by go_cell
    have e1 : ((w2.setCell ⟨w.heap.size + 1 + 1, 0, none⟩ (.slice none 0 0)).setCell ⟨w.heap.size + 1 + 1, 1, none⟩ (.slice none 0 0)).cell? ⟨w.heap.size + 1 + 1, 1, none⟩ = some (.slice none 0 0) := by go_cell
    exact bodyPost_ret (v := .tuple #[.agg #[.slice none 0 0, .slice none 0 0], .bool false]) (by simp [results, Try.results22, go_sem, e0, e1]) rfl ⟨⟨_, _, rfl, fun _ _ => ⟨RdM.nil _ none 0, RdM.nil _ none 0⟩⟩, KB⟩
  | true =>
    rw [hok] at hco
    have hD' : (if putB F k v n l then ((putI k v n l I, putF F k v), true) else ((I, F), false)) = D := by rw [← hD]; simp [ansP, hok]
    have HFL := hid (floF_of H1.out (okC_iff.1 hok).1)
    have HFP : Hid (FloF D.1.2) := hid (by
      rw [← hD']
      cases hp : putB F k v n l with
      | true => exact okC_putF HFL.out hp
      | false => exact HFL.out)
    have HSM := hid (okC_small hok)
    obtain ⟨⟨I', F'⟩, bo⟩ := D
    simp only at HFP ⊢
    refine (hco _ (H0.out.later c1) (H1.out.later c1)).mono ?_
    rintro e w2 ⟨rfl, b2⟩
    have d2 : Below w1.heap.size w1 w2 := (Below.trans (by go_grown) (b2.mono (by first | omega | (simp; done) | (simp; omega))))
    have c2 : Below w.heap.size w w2 := c1.trans (d2.mono c1.size)
    have a0_2 : w2.cell? ⟨w.heap.size, 0, none⟩ = some (.slice ai I.length ci) := (by rw [b2.cell (by first | omega | (simp; done) | (simp; omega))]; go_cell)
    have a1_2 : w2.cell? ⟨w.heap.size, 1, none⟩ = some (.slice af F.length cf) := (by rw [b2.cell (by first | omega | (simp; done) | (simp; omega))]; go_cell)
    have al_2 : w.heap.size < w2.heap.size := (by have := b2.size; first | omega | (revert this; simp; done) | (revert this; simp; omega))
    have b0_2 : w2.cell? ⟨w.heap.size + 1, 0, none⟩ = some (.int .i64 k) := (by rw [b2.cell (by first | omega | (simp; done) | (simp; omega))]; go_cell)
    have b1_2 : w2.cell? ⟨w.heap.size + 1, 1, none⟩ = some (.int .i64 v) := (by rw [b2.cell (by first | omega | (simp; done) | (simp; omega))]; go_cell)
    have b2_2 : w2.cell? ⟨w.heap.size + 1, 2, none⟩ = some (.int .i64 n) := (by rw [b2.cell (by first | omega | (simp; done) | (simp; omega))]; go_cell)
    have b3_2 : w2.cell? ⟨w.heap.size + 1, 3, none⟩ = some (.slice uo l.length uc) := (by rw [b2.cell (by first | omega | (simp; done) | (simp; omega))]; go_cell)
    have bl_2 : w.heap.size + 1 < w2.heap.size := (by have := b2.size; first | omega | (revert this; simp; done) | (revert this; simp; omega))
    have r0_2 : w2.cell? ⟨w.heap.size + 1 + 1, 0, none⟩ = some (.slice none 0 0) := (by rw [b2.cell (by first | omega | (simp; done) | (simp; omega))]; go_cell)
    have rf0_2 : w2.frozen? ⟨w.heap.size + 1 + 1, 0, none⟩ = false := (by rw [b2.frozen (by first | omega | (simp; done) | (simp; omega))]; (first | go_cell | (simp [World.frozen?, World.alloc]; done) | rfl))
    have r1_2 : w2.cell? ⟨w.heap.size + 1 + 1, 1, none⟩ = some (.slice none 0 0) := (by rw [b2.cell (by first | omega | (simp; done) | (simp; omega))]; go_cell)
    have rf1_2 : w2.frozen? ⟨w.heap.size + 1 + 1, 1, none⟩ = false := (by rw [b2.frozen (by first | omega | (simp; done) | (simp; omega))]; (first | go_cell | (simp [World.frozen?, World.alloc]; done) | rfl))
    have rl_2 : w.heap.size + 1 + 1 < w2.heap.size := (by have := b2.size; first | omega | (revert this; simp; done) | (revert this; simp; omega))
    clear a0_1 a1_1 al_1 b0_1 b1_1 b2_1 b3_1 bl_1 r0_1 rf0_1 r1_1 rf1_1 rl_1
    have HC2 := hid c2
    have rl2 : w.heap.size + 1 + 1 < w2.heap.size := rl_2
    have HD := hid hD'
    clear b2 d2 hco hok hD hD'
    go_upto_region 3 with fail
    go_region_with (first
      | (go_at_call 42; refine (l5Cache_any _ _ I F _ (H0.out.later (HC2.out.trans (Below.mono (by go_grown) HC2.out.size))) (H1.out.later (HC2.out.trans (Below.mono (by go_grown) HC2.out.size))) HFL.out HSM.out.1 HSM.out.2).mono ?_; rintro e w3 ⟨⟨x0, g, cg, N, rfl, hg1, hg2, hN, hrow, hrk⟩, b3⟩; have HROW := hid hrow; have HRK := hid hrk; obtain ⟨vo, vc, hv, _⟩ := hrk; subst hv; have d3 : Below w2.heap.size w2 w3 := (Below.trans (by go_grown) (b3.mono (by first | omega | (simp; done) | (simp; omega)))); have c3 : Below w.heap.size w w3 := c2.trans (d3.mono c2.size); have b0_3 : w3.cell? ⟨w.heap.size + 1, 0, none⟩ = some (.int .i64 k) := (by rw [b3.cell (by first | omega | (simp; done) | (simp; omega))]; go_cell); have b1_3 : w3.cell? ⟨w.heap.size + 1, 1, none⟩ = some (.int .i64 v) := (by rw [b3.cell (by first | omega | (simp; done) | (simp; omega))]; go_cell); have b2_3 : w3.cell? ⟨w.heap.size + 1, 2, none⟩ = some (.int .i64 n) := (by rw [b3.cell (by first | omega | (simp; done) | (simp; omega))]; go_cell); have b3_3 : w3.cell? ⟨w.heap.size + 1, 3, none⟩ = some (.slice uo l.length uc) := (by rw [b3.cell (by first | omega | (simp; done) | (simp; omega))]; go_cell); have bl_3 : w.heap.size + 1 < w3.heap.size := (by have := b3.size; first | omega | (revert this; simp; done) | (revert this; simp; omega)); have r0_3 : w3.cell? ⟨w.heap.size + 1 + 1, 0, none⟩ = some (.slice none 0 0) := (by rw [b3.cell (by first | omega | (simp; done) | (simp; omega))]; go_cell); have rf0_3 : w3.frozen? ⟨w.heap.size + 1 + 1, 0, none⟩ = false := (by rw [b3.frozen (by first | omega | (simp; done) | (simp; omega))]; (first | go_cell | (simp [World.frozen?, World.alloc]; done) | rfl)); have r1_3 : w3.cell? ⟨w.heap.size + 1 + 1, 1, none⟩ = some (.slice none 0 0) := (by rw [b3.cell (by first | omega | (simp; done) | (simp; omega))]; go_cell); have rf1_3 : w3.frozen? ⟨w.heap.size + 1 + 1, 1, none⟩ = false := (by rw [b3.frozen (by first | omega | (simp; done) | (simp; omega))]; (first | go_cell | (simp [World.frozen?, World.alloc]; done) | rfl)); have rl_3 : w.heap.size + 1 + 1 < w3.heap.size := (by have := b3.size; first | omega | (revert this; simp; done) | (revert this; simp; omega)); clear b0_2 b1_2 b2_2 b3_2 bl_2 r0_2 rf0_2 r1_2 rf1_2 rl_2; have HC3 := hid c3; have HG := hid (And.intro (show w2.heap.size ≤ g from hg1) (And.intro hg2 hN)); clear hrow b3 hg1 hg2 hN)
      | (go_at_call 50; refine (l5Put_any N g cg _ _ I F k v n _ l _ (HRK.out.later (by go_grown)) (by have := HG.out.2.2; first | omega | (simp; omega)) HG.out.2.1 (row_later HROW.out (by go_grown)) HFL.out HSM.out.1 (HU.out.later (HC3.out.trans (Below.mono (by go_grown) HC3.out.size))) (fun h0 b hb e => by have := HUL.out h0 b hb; have h9 := HG.out.1; first | omega | (simp at h9; omega)) HD.out).mono ?_; rintro e w4 ⟨⟨x, rfl, hx, hrow4⟩, o4⟩; simp only at hx hrow4; have HX := hid hx; have HROW4 := hid hrow4; obtain ⟨xo, xc, hv, _⟩ := hx; subst hv; have o34 : Only (fun b => b = g) w3 w4 := Only.trans (Only.later (by go_grown)) o4; have hne : ¬ w.heap.size + 1 + 1 = g := (by have := HG.out.1; omega); have r0_4 := (World.cell?_of_block (a := ⟨w.heap.size + 1 + 1, 0, none⟩) (o34.block (w.heap.size + 1 + 1) rl_3 hne)).trans r0_3; have r1_4 := (World.cell?_of_block (a := ⟨w.heap.size + 1 + 1, 1, none⟩) (o34.block (w.heap.size + 1 + 1) rl_3 hne)).trans r1_3; have rf0_4 := (World.frozen?_of_block (a := ⟨w.heap.size + 1 + 1, 0, none⟩) (o34.block (w.heap.size + 1 + 1) rl_3 hne)).trans rf0_3; have rf1_4 := (World.frozen?_of_block (a := ⟨w.heap.size + 1 + 1, 1, none⟩) (o34.block (w.heap.size + 1 + 1) rl_3 hne)).trans rf1_3; have HC4 := hid (HC3.out.trans (o34.below (B := w.heap.size) (fun q hq => by have := HG.out.1; omega) HC3.out.size)); clear o4 hrow4))
    all_goals
      have hg1 := HG.out.1
      have hg2 := HG.out.2.1
      have hgr : w.heap.size + 1 + 1 < N := by omega
      clear r0_3 r1_3 rf0_3 rf1_3 o34
      go_wp2_with fail
      have KB := (HC4.out.setCell (p := ⟨w.heap.size + 1 + 1, 0, none⟩) (by show w.heap.size ≤ w.heap.size + 1 + 1; omega) (.slice xo I'.length xc)).setCell (p := ⟨w.heap.size + 1 + 1, 1, none⟩) (by show w.heap.size ≤ w.heap.size + 1 + 1; omega) (.slice (some ⟨g, 0, none⟩) 24 cg)
      have KO : Only (fun q => q < N) w4 ((w4.setCell ⟨w.heap.size + 1 + 1, 0, none⟩ (.slice xo I'.length xc)).setCell ⟨w.heap.size + 1 + 1, 1, none⟩ (.slice (some ⟨g, 0, none⟩) 24 cg)) := (Only.set (F := fun q => q < N) _ (p := ⟨w.heap.size + 1 + 1, 0, none⟩) hgr _).trans (Only.set (F := fun q => q < N) _ (p := ⟨w.heap.size + 1 + 1, 1, none⟩) hgr _)
      have RK := HX.out.only KO
      have FK := (row_agree HROW4.out (w' := ((w4.setCell ⟨w.heap.size + 1 + 1, 0, none⟩ (.slice xo I'.length xc)).setCell ⟨w.heap.size + 1 + 1, 1, none⟩ (.slice (some ⟨g, 0, none⟩) 24 cg))) (fun q hq => by cases hq; exact (Below.heap_setCell _ _ _ _ (by show g ≠ w.heap.size + 1 + 1; omega)).trans (Below.heap_setCell _ _ _ _ (by show g ≠ w.heap.size + 1 + 1; omega))))
      have e0 : ((w4.setCell ⟨w.heap.size + 1 + 1, 0, none⟩ (.slice xo I'.length xc)).setCell ⟨w.heap.size + 1 + 1, 1, none⟩ (.slice (some ⟨g, 0, none⟩) 24 cg)).cell? ⟨w.heap.size + 1 + 1, 0, none⟩ = some (.slice xo I'.length xc) := by go_cell
      have e1 : ((w4.setCell ⟨w.heap.size + 1 + 1, 0, none⟩ (.slice xo I'.length xc)).setCell ⟨w.heap.size + 1 + 1, 1, none⟩ (.slice (some ⟨g, 0, none⟩) 24 cg)).cell? ⟨w.heap.size + 1 + 1, 1, none⟩ = some (.slice (some ⟨g, 0, none⟩) 24 cg) := by go_cell
      exact bodyPost_ret (v := .tuple #[.agg #[(.slice xo I'.length xc), (.slice (some ⟨g, 0, none⟩) 24 cg)], .bool bo]) (by simp [results, Try.results22, go_sem, e0, e1]) rfl ⟨⟨_, _, rfl, fun w2 h2 => ⟨((RK.weaken (G' := fun q => q < w.heap.size) (fun q _ h => by show q < N; omega)).only h2).rd, rowF_rd (row_agree FK (fun q hq => by cases hq; exact h2.block g (FK.lt g rfl).2 (by show ¬ g < w.heap.size; omega))) HFP.out⟩⟩, KB⟩
end Go.Proofs.Ytnenlnadmdlcfaa

/- Part: CachePut's law: what a region of open order leaves behind. Written by a program (glcp.py). -/
namespace Go.Proofs.Ytnenlnadmdlcfaa
open Go.RowKit

/-- Kin that are owned (a structure, so that it is carried as the others are). -/
structure OwnB (w : World) (B : Nat) (v : Value) (l : List (Int × Int)) : Prop where
  own : Own w B v l
theorem OwnB.later {w w' : World} {B : Nat} {v : Value} {l : List (Int × Int)} (h : OwnB w B v l) (hb : Below w.heap.size w w') : OwnB w' B v l := ⟨row_later h.own hb⟩
/-- A cache's variable, laid and not yet written. -/
structure VarC (w : World) (B : Nat) : Prop where
  c0 : w.cell? ⟨B, 0, none⟩ = some (.slice none 0 0)
  c1 : w.cell? ⟨B, 1, none⟩ = some (.slice none 0 0)
  f0 : w.frozen? ⟨B, 0, none⟩ = false
  f1 : w.frozen? ⟨B, 1, none⟩ = false
  lt : B < w.heap.size
theorem VarC.new (w : World) : VarC (w.alloc (.cells #[.slice none 0 0, .slice none 0 0] 36)) w.heap.size := ⟨by go_cell, by go_cell, by (first | go_cell | (simp [World.frozen?, World.alloc]; done) | rfl), by (first | go_cell | (simp [World.frozen?, World.alloc]; done) | rfl), by simp⟩
theorem VarC.later {w w' : World} {B : Nat} (h : VarC w B) (hb : Below w.heap.size w w') : VarC w' B :=
  ⟨(hb.cell (p := ⟨B, 0, none⟩) h.lt).trans h.c0, (hb.cell (p := ⟨B, 1, none⟩) h.lt).trans h.c1, (hb.frozen (p := ⟨B, 0, none⟩) h.lt).trans h.f0, (hb.frozen (p := ⟨B, 1, none⟩) h.lt).trans h.f1, Nat.lt_of_lt_of_le h.lt hb.size⟩
theorem VarC.drawn {w w' : World} (h : Below ((w.alloc (.cells #[.slice none 0 0, .slice none 0 0] 36)).drew).heap.size ((w.alloc (.cells #[.slice none 0 0, .slice none 0 0] 36)).drew) w') : VarC w' w.heap.size :=
  (VarC.new w).later (show Below (w.alloc (.cells #[.slice none 0 0, .slice none 0 0] 36)).heap.size (w.alloc (.cells #[.slice none 0 0, .slice none 0 0] 36)) w' from (Below.refl _ _).drew.trans h)
theorem VarC.past {w w' : World} (h : Below (w.alloc (.cells #[.slice none 0 0, .slice none 0 0] 36)).heap.size (w.alloc (.cells #[.slice none 0 0, .slice none 0 0] 36)) w') : VarC w' w.heap.size := (VarC.new w).later h
/-- Behind a statement that lays a cache's variable and a Boolean: what they hold. -/
def CutS (w0 : World) (L0 L1 : List KD) (c : Bool) (s1 s2 : Value) (wx : World) : Prop :=
  ∃ (bx : Nat) (o0 o1 : Option Addr) (c0 c1 : Nat), s1 = .pointer (some ⟨bx, 0, none⟩) ∧ s2 = .bool c ∧ w0.heap.size ≤ bx ∧ bx < wx.heap.size ∧ wx.cell? ⟨bx, 0, none⟩ = some (.slice o0 L0.length c0) ∧ wx.cell? ⟨bx, 1, none⟩ = some (.slice o1 L1.length c1) ∧ RSCache wx (.slice o0 L0.length c0) (.slice o1 L1.length c1) L0 L1 ∧ Below w0.heap.size w0 wx
theorem CutS.of_new {w0 wx : World} {L0 L1 : List KD} {c : Bool} {B : Nat} {o0 o1 : Option Addr} {c0 c1 : Nat} (h : Apart B wx (.slice o0 L0.length c0) (.slice o1 L1.length c1) L0 L1) (hb : Below w0.heap.size w0 wx) :
    CutS w0 L0 L1 c (.pointer (some ⟨wx.heap.size, 0, none⟩)) (.bool c) (wx.alloc (.cells #[.slice o0 L0.length c0, .slice o1 L1.length c1] 36)) :=
  ⟨_, o0, o1, c0, c1, rfl, rfl, hb.size, by simp, by go_cell, by go_cell, h.self.later ((Below.refl _ wx).alloc (Nat.le_refl _) _), hb.alloc hb.size _⟩
theorem CutS.of_set {w0 wx : World} {L0 L1 : List KD} {c : Bool} {B bx : Nat} {o0 o1 : Option Addr} {c0 c1 : Nat} (z : VarC wx bx) (h : Apart B wx (.slice o0 L0.length c0) (.slice o1 L1.length c1) L0 L1) (hb : Below w0.heap.size w0 wx) (hx : bx < B) (h0 : w0.heap.size ≤ bx) :
    CutS w0 L0 L1 c (.pointer (some ⟨bx, 0, none⟩)) (.bool c) ((wx.setCell ⟨bx, 0, none⟩ (.slice o0 L0.length c0)).setCell ⟨bx, 1, none⟩ (.slice o1 L1.length c1)) := by
  have z0 := z.c0
  have z1 := z.c1
  exact ⟨_, o0, o1, c0, c1, rfl, rfl, h0, by simpa using z.lt, by go_cell, by go_cell, h _ ((Only.set (F := fun q => q < B) _ (p := ⟨bx, 0, none⟩) hx _).trans (Only.set (F := fun q => q < B) _ (p := ⟨bx, 1, none⟩) hx _)), (hb.setCell (p := ⟨bx, 0, none⟩) h0 _).setCell (p := ⟨bx, 1, none⟩) h0 _⟩
theorem ansP_small {w : World} {v : Value} (I F : List KD) (k p n : Int) (l : List (Int × Int)) (h1 : RdM 1 1 false w v F) : 1 + cntM 3 (ansP I F k p n l).1.1 + cntM 1 (ansP I F k p n l).1.2 ≤ 1099511627776 := by
  unfold ansP
  split
  · rename_i hok
    have hs := okC_small hok
    have hfl := floF_of h1 (okC_iff.1 hok).1
    split
    · rename_i hp
      have hf := (okC_putF hfl hp).all
      have hlen : (putI k p n l I).length ≤ 4 := by unfold putI; rw [List.length_take]; omega
      have h3 := cntM_le19 (putI k p n l I) (fun x hx => by
        rcases List.mem_cons.1 (List.mem_of_mem_take hx) with rfl | hm
        · have hq := hp
          unfold putB itR at hq
          simp only [Bool.and_eq_true] at hq
          exact okV_le hq.1.2
        · exact hs.2 x (List.mem_filter.1 hm).1)
      simp only
      rw [hf]
      omega
    · have h3 := cntM_le19 I hs.2
      simp only
      rw [hfl.all]
      omega
  · simp [cntM]
theorem EndC.apart {B : Nat} {w' : World} {I F : List KD} {r : Value} (h : EndC B w' I F (.returned r)) : ∃ v0 v1, r = .agg #[v0, v1] ∧ Apart B w' v0 v1 I F := by
  obtain ⟨a, c, fv, g, he, hB, hg, ho, hf⟩ := h
  injection he with he
  exact ⟨_, fv, he, fun w2 h2 => ⟨(ho.agree (G := fun _ => True) (fun b hb hl => h2.block b hl (by have := hb.1; omega)) (fun _ _ _ => trivial)).rd (by decide) (by decide), (hf.agree (fun hl => h2.block g hl (by omega))).rd⟩⟩
end Go.Proofs.Ytnenlnadmdlcfaa
