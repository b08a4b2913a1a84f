/- Proved here: FnExactCacheFloor returns true for every cache and every two numbers (no condition); what it was handed reads as before. -/
import Derived.Test.YtnenlnadmdlcfaaOkS
import Derived.Test.YtnenlnadmdlcfaaOkI
import Derived.Test.YtnenlnadmdlcfaaWo
import Derived.Test.YtnenlnadmdlcfaaBs
import Derived.Test.YtnenlnadmdlcfaaIn
import Derived.Test.YtnenlnadmdlcfaaGe
import Derived.Laws.AppendOwnNone
import Derived.Test.YtnenlnadmdlcfaaXn
import Derived.Test.YtnenlnadmdlcfaaCd
import Derived.Test.YtnenlnadmdlcfaaXs
import Derived.Deep.Cut
import Derived.Test.YtnenlnadmdlcfaaVm
import Derived.Test.YtnenlnadmdlcfaaSCache
import Derived.Test.YtnenlnadmdlcfaaPl
import Derived.ProofKit
import Derived.Lib.SmallJoins
import Derived.Test.YtnenlnadmdlcfaaFb
import Derived.Test.YtnenlnadmdlcfaaRows
import Derived.WalkKit
/- Part: spec.l1Drop, spec.EdgeDrop, impl.EdgeDrop: contracts. -/
namespace Go.Proofs.Ytnenlnadmdlcfaa
open Go.RowKit

/-- What EdgeDrop answers. -/
def dropL (l : List (Int × Int)) (who : Int) : List (Int × Int) := if okL l = true then l.filter (notWho who) else []
def dropB (l : List (Int × Int)) (who : Int) : Bool := okL l && decide ((l.filter (notWho who)).length < l.length)

theorem dropL_length (l : List (Int × Int)) (who : Int) : (dropL l who).length ≤ l.length := by
  unfold dropL
  split
  · exact List.length_filter_le _ _
  · simp


end Go.Proofs.Ytnenlnadmdlcfaa

/- Part: impl.EdgeAdd: contract. -/
namespace Go.Proofs.Ytnenlnadmdlcfaa
open Go.RowKit Go.Shelf

/-- What stays while the place is looked for. -/
structure KeepAdd (W w0 : World) (b0 : Nat) (v : Value) (rest : List (Int × Int)) (e : Int × Int) : Prop where
  pair : PairAt W b0 e
  own : Own W w0.heap.size v rest
  bel : Below w0.heap.size w0 W
theorem PairAt.past {W W' : World} {b : Nat} {e : Int × Int} (h : PairAt W b e) (hb : Below W.heap.size W W') : PairAt W' b e :=
  (hb.block _ (Array.getElem?_eq_some_iff.1 h).1).trans h
theorem KeepAdd.later {W W' w0 : World} {b0 : Nat} {v : Value} {rest : List (Int × Int)} {e : Int × Int} (h : KeepAdd W w0 b0 v rest e) (hb : Below W.heap.size W W') : KeepAdd W' w0 b0 v rest e :=
  ⟨h.pair.past hb, h.own.later hb, h.bel.trans (hb.mono h.bel.size)⟩
theorem KeepAdd.drew {W w0 : World} {b0 : Nat} {v : Value} {rest : List (Int × Int)} {e : Int × Int} (h : KeepAdd W w0 b0 v rest e) : KeepAdd W.drew w0 b0 v rest e := h.later ((Below.refl _ _).drew)
theorem KeepAdd.alloc {W w0 : World} {b0 : Nat} {v : Value} {rest : List (Int × Int)} {e : Int × Int} (h : KeepAdd W w0 b0 v rest e) (o : Obj) : KeepAdd (W.alloc o) w0 b0 v rest e := h.later ((Below.refl _ _).alloc (Nat.le_refl _) _)
theorem KeepAdd.ne {W w0 : World} {b0 : Nat} {v : Value} {rest : List (Int × Int)} {e : Int × Int} (h : KeepAdd W w0 b0 v rest e) : v.ownBlock ≠ some W.heap.size := fun hh => Nat.lt_irrefl _ (h.own.block _ hh).2

end Go.Proofs.Ytnenlnadmdlcfaa

/- Part: spec.l1Add, spec.EdgeAdd: contracts. -/
namespace Go.Proofs.Ytnenlnadmdlcfaa
open Go.RowKit Go.Shelf
attribute [local go_sem ↓] Go.wp_at_zero Go.wp_at_succ

/-- The first k of an owned list are owned. -/
theorem Own.take {w : World} {B g cap : Nat} {l : List (Int × Int)} (h : Own w B (.slice (some ⟨g, 0, none⟩) l.length cap) l) (k : Nat) (hk : k ≤ l.length) : Own w B (.slice (some ⟨g, 0, none⟩) k cap) (l.take k) := by
  have hl : (l.take k).length = k := by simp; omega
  rcases h.2 with ⟨hh, _⟩ | ⟨g', cap', cur, hh, hb, hg, hnc, hcm, hcs, ht⟩
  · cases hh
  · cases hh
    refine ⟨by rw [ecells_length], .inr ⟨g, cap, cur, by rw [hl], hb, hg, by omega, hcm, hcs, ?_⟩⟩
    have e1 : ecells l = ecells (l.take k) ++ ecells (l.drop k) := by rw [← ecells_append, List.take_append_drop]
    rw [hl]
    have : cur.toList.take (k * 2) = (cur.toList.take (l.length * 2)).take (k * 2) := by rw [List.take_take, Nat.min_eq_left (by omega)]
    rw [this, ht, e1, List.take_left' (by rw [ecells_length, hl])]

theorem Own.at {w : World} {B g n cap : Nat} {l : List (Int × Int)} (h : Own w B (.slice (some ⟨g, 0, none⟩) n cap) l) {k : Nat} (hk : k < l.length) :
    w.cell? ⟨g, k * 2, none⟩ = some (.int .i64 (l.getD k (0, 0)).1) ∧ w.cell? ⟨g, k * 2 + 1, none⟩ = some (.int .i64 (l.getD k (0, 0)).2) := by
  obtain ⟨ao, cap', hv, _, hc⟩ := h.rd
  cases hv
  obtain ⟨b, off, he, _, hcc⟩ := hc (by omega)
  cases he
  simpa using hcc k hk

theorem Own.from {w : World} {B g cap : Nat} {l : List (Int × Int)} (h : Own w B (.slice (some ⟨g, 0, none⟩) l.length cap) l) (k : Nat) : Rd w (.slice (some ⟨g, k * 2, none⟩) (l.drop k).length (cap - k)) (l.drop k) := by
  have hb := h.block g rfl
  have hm : l.length ≤ maxLen := by
    obtain ⟨_, _, _, hm, _⟩ := h.rd
    exact hm
  refine ⟨_, _, rfl, by simp; omega, fun h0 => ⟨g, k * 2, rfl, hb.2, fun i hi => ?_⟩⟩
  rw [List.length_drop] at hi
  obtain ⟨c0, c1⟩ := h.at (k := k + i) (by omega)
  have e : (l.drop k).getD i (0, 0) = l.getD (k + i) (0, 0) := by simp [List.getD_eq_getElem?_getD]
  rw [e, show k * 2 + i * 2 = (k + i) * 2 by omega]
  exact ⟨c0, c1⟩

/-- A slice value that reads as a list is copied: onto nothing. -/
theorem Rd.cells {w : World} {b off n cap : Nat} {l : List (Int × Int)} (h : Rd w (.slice (some ⟨b, off, none⟩) n cap) l) : ∀ j u, (ecells l)[j]? = some u → w.cell? ((⟨b, off, none⟩ : Addr).add j) = some u := by
  obtain ⟨ao, cap', hv, hl, hc⟩ := h
  cases hv
  intro j u hu
  have hj : j < l.length * 2 := by rw [← ecells_length]; exact (List.getElem?_eq_some_iff.1 hu).1
  obtain ⟨b', off', he, hlt, hcc⟩ := hc (by omega)
  cases he
  obtain ⟨c0, c1⟩ := hcc (j / 2) (by omega)
  have g := ecells_get l (j / 2) (by omega)
  rw [Addr.add_lit]
  by_cases hp : j % 2 = 0
  · have e : j / 2 * 2 = j := by omega
    rw [e] at c0 g
    rw [c0, ← g.1, hu]
  · have e : j / 2 * 2 + 1 = j := by omega
    rw [Nat.add_assoc, e] at c1
    rw [e] at g
    rw [c1, ← g.2, hu]

theorem copy_any (b off n cap : Nat) (l : List (Int × Int)) (w : World) (hn : l.length = n) (h : Rd w (.slice (some ⟨b, off, none⟩) l.length cap) l) (hl : l.length ≤ 1099511627776) :
    Calls Try.prog 80 #[.slice (some ⟨b, off, none⟩) n cap] w fun x w' => ∃ v', x = .returned v' ∧ Own w' w.heap.size v' l ∧ Below w.heap.size w w' ∧ ∃ g cp, v' = .slice (some ⟨g, 0, none⟩) n cp := by
  subst hn
  obtain ⟨i0, hi, hz0, hz1, hz2⟩ := info_parts Try.info62
  have hk1 : 0 + l.length ≤ maxLen := by unfold maxLen; omega
  have hk2 : (0 + l.length) * 16 ≤ 140737488355328 := by omega
  have HC := hid ((h.later ((Below.refl _ w).alloc (Nat.le_refl _) (.cells #[] 62))).cells)
  have HR := hid (World.ownsRow_lit (e := 62) (size := 2) w #[] 0 (Nat.le_refl _) (Nat.zero_le _) rfl)
  have hbs : w.heap.size ≤ (w.alloc (.cells #[] 62)).heap.size := by simp
  have hone := ecells_one l
  have hlen := ecells_length l
  clear h
  go_enter Try.func80, Try.ntmps80
  go_wp2_with (at_builtin; refine wpList_append_own _ rfl _ _ 27 rfl w.heap.size 62 i0 (.agg #[.int .i64 0, .int .i64 0]) 2 16 Try.underlying27 hi hz0 hz1 hz2 rfl (by decide) _ _ _ rfl HR.out ⟨b, off, none⟩ l.length cap (ecells l) rfl hlen HC.out hone hk1 hk2 hbs ?_; intro v' w1 hown' hgrow' hnil)
  go_ret
  rw [Nat.zero_add] at hown'
  have hown2 : Own w1 w.heap.size v' l := by
    show World.ownsRow _ _ _ _ _ _ _
    simpa using hown'
  refine ⟨v', rfl, hown2, ((Below.refl _ w).alloc (Nat.le_refl _) _).grown hgrow' hbs (fun j ej => (HR.out.lt j ej).1), ?_⟩
  rcases hown'.2 with ⟨hv, _⟩ | ⟨g, cp, _, hv, _⟩
  · have hno := (hnil.1 hv).1
    cases hno
  · exact ⟨g, cp, hv⟩

theorem take_row {w : World} {B g cap : Nat} {l : List (Int × Int)} (h : Own w B (.slice (some ⟨g, 0, none⟩) l.length cap) l) (k : Nat) (hk : k ≤ l.length) : w.ownsRow B 62 2 (.slice (some ⟨g, 0, none⟩) k cap) k (ecells (l.take k)) := by
  have := h.take k hk
  unfold Own at this
  rwa [show (l.take k).length = k by simp; omega] at this
/-- The cells of a list that lies elsewhere, behind an append onto row g. -/
theorem tail_cells {w w1 w6 : World} {B gt ct g n : Nat} {l : List (Int × Int)} (o : Obj) (h : Own w B (.slice (some ⟨gt, 0, none⟩) n ct) l) (hne : gt ≠ g) (hg : w1.grownBy w6 (some g)) (he : w1 = (w.alloc o).drew) :
    ∀ j u, (ecells l)[j]? = some u → w6.cell? ((⟨gt, 0, none⟩ : Addr).add j) = some u := by
  subst he
  intro j u hu
  have h1 := World.ownsRow.cells (h.later (((Below.refl _ w).alloc (Nat.le_refl _) o).drew)) (g := gt) rfl j u hu
  exact hg.cell h1 (fun e => hne (by rw [Addr.add_lit] at e; exact Option.some.inj e))

theorem own_three {w : World} {B k : Nat} {v : Value} {l : List (Int × Int)} {x1 x2 : Int} (h : w.ownsRow B 62 2 v (k + 1 + (l.length - k)) (ecells (l.take k) ++ [.int .i64 x1, .int .i64 x2] ++ ecells (l.drop k))) (hk : k ≤ l.length) : Own w B v (insAt l k (x1, x2)) := by
  have hlen : (insAt l k (x1, x2)).length = k + 1 + (l.length - k) := by simp [insAt]; omega
  have hc : ecells (insAt l k (x1, x2)) = ecells (l.take k) ++ [.int .i64 x1, .int .i64 x2] ++ ecells (l.drop k) := by
    rw [insAt, ecells_append]
    simp [ecells]
  unfold Own
  rw [hlen, hc]
  exact h

/-- append onto an owned row, as one step of a region that draws its order. -/
theorem step_append_own {P : Program} {ops : Array Oper} {o : Oper} {a : Act} {w : World} {K : Act → World → Prop} {Q : Exit → Act → World → Prop} {E : Prop} (hgd : o.guard = none) (s x : Operand) (t : TypeId)
    (ho : o.op = .call { callee := .builtin .append, args := #[s, x], argTypes := #[t, t] })
    (base : Nat) (e : TypeId) (i : TypeInfo) (z : Value) (size bytes : Nat) (ht : P.underlying t = some (.slice e)) (hi : P.info? e = some i) (hz : i.zero = some z)
    (hsize : i.size = size) (hby : i.bytes = bytes) (hzs : z.cells.size = size) (hsz : 0 < size)
    (v : Value) (n : Nat) (xs : List Value) (hs : a.eval s = v) (hown : w.ownsRow base e size v n xs)
    (ad : Addr) (m c : Nat) (news : List Value) (hx : a.eval x = .slice (some ad) m c) (hl : news.length = m * size) (hnews : ∀ j u, news[j]? = some u → w.cell? (ad.add j) = some u) (h1 : ∀ u ∈ news, u.oneCell' = true)
    (h63 : n + m ≤ maxLen) (hbytes : (n + m) * bytes ≤ 140737488355328) (hbase : base ≤ w.heap.size)
    (h : ∀ v' w', w'.ownsRow base e size v' (n + m) (xs ++ news) → w.grownBy w' v.ownBlock → (v' = .slice none 0 0 ↔ v = .slice none 0 0 ∧ m = 0) → K (a.put o.dst v') w') :
    if Region.wanted o (yielded ops a.tmps) = true then Oper.wp P o a w K Q else E := by
  have hw : Region.wanted o (yielded ops a.tmps) = true := by simp [Region.wanted, hgd]
  rw [if_pos hw]
  obtain ⟨v', w', hr, h2, h3, h4⟩ := run_append_own (P := P) w base t o.type e i z size bytes ht hi hz hsize hby hzs hsz v n xs hown ad m c news hl hnews h1 h63 hbytes hbase
  unfold Oper.wp
  simp [execOp, ho, resolve, invoke, builtin, hs, hx, hr, Result.andThen]
  exact h v' w' h2 h3 h4

end Go.Proofs.Ytnenlnadmdlcfaa

/- Part: spec.l2Copy: contract. -/
namespace Go.Proofs.Ytnenlnadmdlcfaa
open Go.RowKit
attribute [local go_sem ↓] Go.wp_at_zero Go.wp_at_succ

theorem run_append_cap {P : Program} {w : World} (base : Nat) (t ty e : TypeId) (i : TypeInfo) (size cp : Nat) (ht : P.underlying t = some (.slice e)) (hi : P.info? e = some i)
    (v : Value) (n : Nat) (xs : List Value) (hown : w.ownsRow base e size v n xs) :
    (Builtin.append_ #[t, t] ty #[v, .slice none 0 cp]).run P w = .ok v w := by
  rcases hown.2 with ⟨rfl, rfl⟩ | ⟨g, cap, cur, rfl, _, _, hnc, _⟩
  · simp [Builtin.append_, run_underlying ht, sizeOf, typeInfo, hi, Builtin.lenOf, Builtin.firstCells]
  · simp [Builtin.append_, run_underlying ht, sizeOf, typeInfo, hi, Builtin.lenOf, Builtin.firstCells, hnc, storeCells]
theorem wpList_append_cap {P : Program} {w : World} {ops : Array Oper} {rest : List Oper} {o : Oper} {a : Act} {Q : Exit → Act → World → Prop} (hgd : o.guard = none) (s x : Operand) (t : TypeId)
    (ho : o.op = .call { callee := .builtin .append, args := #[s, x], argTypes := #[t, t] })
    (base : Nat) (e : TypeId) (i : TypeInfo) (size cp : Nat) (ht : P.underlying t = some (.slice e)) (hi : P.info? e = some i)
    (v : Value) (n : Nat) (xs : List Value) (hs : a.eval s = v) (hown : w.ownsRow base e size v n xs) (hx : a.eval x = .slice none 0 cp)
    (h : wpList P ops Q rest (a.put o.dst v) w) : wpList P ops Q (o :: rest) a w := by
  refine wpList_plain hgd fun K hK => ?_
  have hrun := run_append_cap (P := P) (w := w) base t o.type e i size cp ht hi v n xs hown
  unfold Oper.wp
  simp [execOp, ho, resolve, invoke, builtin, hs, hx, hrun, Result.andThen]
  exact hK _ _ h

theorem copy_none (cap : Nat) (w : World) :
    Calls Try.prog 80 #[.slice none 0 cap] w fun x w' => ∃ v', x = .returned v' ∧ Own w' w.heap.size v' [] ∧ Below w.heap.size w w' := by
  obtain ⟨i0, hi, hz0, hz1, hz2⟩ := info_parts Try.info62
  have HR := hid (World.ownsRow_lit (e := 62) (size := 2) w #[] 0 (Nat.le_refl _) (Nat.zero_le _) rfl)
  go_enter Try.func80, Try.ntmps80
  go_wp2_with (at_builtin; refine wpList_append_cap rfl _ _ 27 rfl w.heap.size 62 i0 2 cap Try.underlying27 hi _ _ _ rfl HR.out rfl ?_)
  go_ret
  exact ⟨_, rfl, HR.out, by go_grown⟩
theorem copy_some (ad : Addr) (cap : Nat) (w : World) :
    Calls Try.prog 80 #[.slice (some ad) 0 cap] w fun x w' => ∃ v', x = .returned v' ∧ Own w' w.heap.size v' [] ∧ Below w.heap.size w w' := by
  obtain ⟨i0, hi, hz0, hz1, hz2⟩ := info_parts Try.info62
  have HR := hid (World.ownsRow_lit (e := 62) (size := 2) w #[] 0 (Nat.le_refl _) (Nat.zero_le _) rfl)
  have hbs : w.heap.size ≤ (w.alloc (.cells #[] 62)).heap.size := by simp
  go_enter Try.func80, Try.ntmps80
  go_wp2_with (at_builtin; refine wpList_append_own _ rfl _ _ 27 rfl w.heap.size 62 i0 (.agg #[.int .i64 0, .int .i64 0]) 2 16 Try.underlying27 hi hz0 hz1 hz2 rfl (by decide) _ _ _ rfl HR.out ad 0 cap [] rfl rfl (fun _ _ h => by simp at h) (fun _ h => by simp at h) (by decide) (by decide) hbs ?_; intro v' w1 hown' hgrow' hnil)
  go_ret
  have hown2 : Own w1 w.heap.size v' [] := by
    show World.ownsRow _ _ _ _ _ _ _
    simpa [ecells] using hown'
  exact ⟨v', rfl, hown2, ((Below.refl _ w).alloc (Nat.le_refl _) _).grown hgrow' hbs (fun j ej => (HR.out.lt j ej).1)⟩
theorem l1Copy_any (v : Value) (l : List (Int × Int)) (w : World) (h : Rd w v l) (hl : l.length ≤ 1099511627776) :
    Calls Try.prog 80 #[v] w fun x w' => ∃ v', x = .returned v' ∧ Own w' w.heap.size v' l ∧ Below w.heap.size w w' := by
  have HR := h
  obtain ⟨ao, cap, rfl, _, hc⟩ := h
  by_cases h0 : 0 < l.length
  · obtain ⟨b, off, rfl, _⟩ := hc h0
    exact (copy_any b off l.length cap l w rfl HR hl).mono fun _ _ ⟨v', e, ho, hb, _⟩ => ⟨v', e, ho, hb⟩
  · have hz : l = [] := List.eq_nil_of_length_eq_zero (by omega)
    subst hz
    match ao with
    | none => exact copy_none cap w
    | some a => exact copy_some a cap w

set_option maxHeartbeats 1000000 in
theorem l2Copy_any (n : Int) (v : Value) (l : List (Int × Int)) (w : World) (h : Rd w v l) (hl : l.length ≤ 1099511627776) :
    Calls Try.prog 69 #[.agg #[.int .i64 n, v]] w fun e w' => ∃ v', e = .returned (.agg #[.int .i64 n, v']) ∧ Own w' w.heap.size v' l ∧ Below w.heap.size w w' := by
  have HR := hid h
  obtain ⟨ao, cap, hv, _⟩ := h
  subst hv
  go_enter Try.func69, Try.ntmps69
  go_wp2_with fail
  have a0_1 : ((w.alloc (.cells #[.int .i64 n, .slice ao l.length cap] 29)).alloc (.cells #[.int .i64 0, .slice none 0 0] 29)).cell? ⟨w.heap.size, 0, none⟩ = some (.int .i64 n) := by go_cell
  have a1_1 : ((w.alloc (.cells #[.int .i64 n, .slice ao l.length cap] 29)).alloc (.cells #[.int .i64 0, .slice none 0 0] 29)).cell? ⟨w.heap.size, 1, none⟩ = some (.slice ao l.length cap) := by go_cell
  have al_1 : w.heap.size < ((w.alloc (.cells #[.int .i64 n, .slice ao l.length cap] 29)).alloc (.cells #[.int .i64 0, .slice none 0 0] 29)).heap.size := by first | (simp; done) | (simp; omega)
  have r0_1 : ((w.alloc (.cells #[.int .i64 n, .slice ao l.length cap] 29)).alloc (.cells #[.int .i64 0, .slice none 0 0] 29)).cell? ⟨w.heap.size + 1, 0, none⟩ = some (.int .i64 0) := by go_cell
  have rf0_1 : ((w.alloc (.cells #[.int .i64 n, .slice ao l.length cap] 29)).alloc (.cells #[.int .i64 0, .slice none 0 0] 29)).frozen? ⟨w.heap.size + 1, 0, none⟩ = false := by (first | go_cell | (simp [World.frozen?, World.alloc]; done) | rfl)
  have r1_1 : ((w.alloc (.cells #[.int .i64 n, .slice ao l.length cap] 29)).alloc (.cells #[.int .i64 0, .slice none 0 0] 29)).cell? ⟨w.heap.size + 1, 1, none⟩ = some (.slice none 0 0) := by go_cell
  have rf1_1 : ((w.alloc (.cells #[.int .i64 n, .slice ao l.length cap] 29)).alloc (.cells #[.int .i64 0, .slice none 0 0] 29)).frozen? ⟨w.heap.size + 1, 1, none⟩ = false := by (first | go_cell | (simp [World.frozen?, World.alloc]; done) | rfl)
  have rl_1 : w.heap.size + 1 < ((w.alloc (.cells #[.int .i64 n, .slice ao l.length cap] 29)).alloc (.cells #[.int .i64 0, .slice none 0 0] 29)).heap.size := by first | (simp; done) | (simp; omega)
  have c1 : Below w.heap.size w ((w.alloc (.cells #[.int .i64 n, .slice ao l.length cap] 29)).alloc (.cells #[.int .i64 0, .slice none 0 0] 29)) := by go_grown
  have s1 : ((w.alloc (.cells #[.int .i64 n, .slice ao l.length cap] 29)).alloc (.cells #[.int .i64 0, .slice none 0 0] 29)).heap.size = w.heap.size + 2 := by simp
  generalize ((w.alloc (.cells #[.int .i64 n, .slice ao l.length cap] 29)).alloc (.cells #[.int .i64 0, .slice none 0 0] 29)) = w1 at a0_1 a1_1 al_1 r0_1 rf0_1 r1_1 rf1_1 rl_1 c1 s1 ⊢
  have qa0_1 := cell_regrown a0_1
  have qa1_1 := cell_regrown a1_1
  have qr0_1 := cell_regrown r0_1
  have qr1_1 := cell_regrown r1_1
  go_region_with (first
    | (go_at_call 80; go_loud (refine (l1Copy_any _ l _ (HR.out.later (by go_grown)) hl).mono ?_; rintro e w2 ⟨v', rfl, ho, b2⟩; have HO := hid (Own.mono ho (B' := w1.heap.size) (by show w1.heap.size ≤ w1.heap.size; omega)); clear ho; have d2 : Below w1.heap.size w1 w2 := (Below.trans (by go_grown) (b2.mono (by first | omega | (simp; done) | (simp; omega)))); have c2 : Below w.heap.size w w2 := c1.trans (d2.mono c1.size); have a0_2 : w2.cell? ⟨w.heap.size, 0, none⟩ = some (.int .i64 n) := (by rw [b2.cell (by first | omega | (simp; done) | (simp; omega))]; go_cell); have a1_2 : w2.cell? ⟨w.heap.size, 1, none⟩ = some (.slice ao l.length cap) := (by rw [b2.cell (by first | omega | (simp; done) | (simp; omega))]; go_cell); have al_2 : w.heap.size < w2.heap.size := (by have := b2.size; first | omega | (revert this; simp; done) | (revert this; simp; omega)); have r0_2 : w2.cell? ⟨w.heap.size + 1, 0, none⟩ = some (.int .i64 0) := (by rw [b2.cell (by first | omega | (simp; done) | (simp; omega))]; go_cell); have rf0_2 : w2.frozen? ⟨w.heap.size + 1, 0, none⟩ = false := (by rw [b2.frozen (by first | omega | (simp; done) | (simp; omega))]; (first | go_cell | (simp [World.frozen?, World.alloc]; done) | rfl)); have r1_2 : w2.cell? ⟨w.heap.size + 1, 1, none⟩ = some (.slice none 0 0) := (by rw [b2.cell (by first | omega | (simp; done) | (simp; omega))]; go_cell); have rf1_2 : w2.frozen? ⟨w.heap.size + 1, 1, none⟩ = false := (by rw [b2.frozen (by first | omega | (simp; done) | (simp; omega))]; (first | go_cell | (simp [World.frozen?, World.alloc]; done) | rfl)); have rl_2 : w.heap.size + 1 < w2.heap.size := (by have := b2.size; first | omega | (revert this; simp; done) | (revert this; simp; omega)); clear r0_1 rf0_1 r1_1 rf1_1 rl_1; obtain ⟨uo, uc, huv, _⟩ := HO.out.rd; subst huv)))
  all_goals
    have e0 : ((w2.setCell ⟨w.heap.size + 1, 0, none⟩ (.int .i64 n)).setCell ⟨w.heap.size + 1, 1, none⟩ (.slice uo l.length uc)).cell? ⟨w.heap.size + 1, 0, none⟩ = some (.int .i64 n) := by go_cell
    have e1 : ((w2.setCell ⟨w.heap.size + 1, 0, none⟩ (.int .i64 n)).setCell ⟨w.heap.size + 1, 1, none⟩ (.slice uo l.length uc)).cell? ⟨w.heap.size + 1, 1, none⟩ = some (.slice uo l.length uc) := by go_cell
    have HF := hid (((HO.out.apartSet (p := ⟨w.heap.size + 1, 0, none⟩) (by show w.heap.size + 1 < w1.heap.size; omega) (.int .i64 n)).apartSet (p := ⟨w.heap.size + 1, 1, none⟩) (by show w.heap.size + 1 < w1.heap.size; omega) (.slice uo l.length uc)).mono (B' := w.heap.size) (by omega))
    have c3 := hid ((c2.setCell (p := ⟨w.heap.size + 1, 0, none⟩) (by show w.heap.size ≤ w.heap.size + 1; omega) (.int .i64 n)).setCell (p := ⟨w.heap.size + 1, 1, none⟩) (by show w.heap.size ≤ w.heap.size + 1; omega) (.slice uo l.length uc))
    go_wp2
    refine bodyPost_ret (v := .agg #[.int .i64 n, .slice uo l.length uc]) (by simp [results, Try.results69, go_sem, e0, e1]) rfl ⟨_, rfl, HF.out, c3.out⟩
end Go.Proofs.Ytnenlnadmdlcfaa

/- Part: spec.l5Copy, spec.l5Get, spec.CacheGet: contracts. -/
namespace Go.Proofs.Ytnenlnadmdlcfaa
open Go.RowKit
attribute [local go_sem ↓] Go.wp_at_zero Go.wp_at_succ

set_option maxRecDepth 100000 in
set_option maxHeartbeats 2000000 in
theorem l5Copy_any (p0 p1 p2 : Int) (v : Value) (l : List (Int × Int)) (w : World) (h : Rd w v l) (hl : l.length ≤ 1099511627776) :
    Calls Try.prog 54 #[.agg #[.int .i64 p0, .int .i64 p1, .int .i64 p2, v]] w fun e w' => (∃ (o : Option Addr) (c : Nat), e = .returned (.agg #[.int .i64 p0, .int .i64 p1, .int .i64 p2, .slice o l.length c]) ∧ Own w' w.heap.size (.slice o l.length c) l) ∧ Below w.heap.size w w' := by
  have HR := hid h
  obtain ⟨ao, cap, rfl, _, _⟩ := h
  go_enter Try.func54, Try.ntmps54
  go_wp2_with fail
  have a0_1 : ((w.alloc (.cells #[.int .i64 p0, .int .i64 p1, .int .i64 p2, .slice ao l.length cap] 31)).alloc (.cells #[.int .i64 0, .int .i64 0, .int .i64 0, .slice none 0 0] 31)).cell? ⟨w.heap.size, 0, none⟩ = some (.int .i64 p0) := by go_cell
  have a1_1 : ((w.alloc (.cells #[.int .i64 p0, .int .i64 p1, .int .i64 p2, .slice ao l.length cap] 31)).alloc (.cells #[.int .i64 0, .int .i64 0, .int .i64 0, .slice none 0 0] 31)).cell? ⟨w.heap.size, 1, none⟩ = some (.int .i64 p1) := by go_cell
  have a2_1 : ((w.alloc (.cells #[.int .i64 p0, .int .i64 p1, .int .i64 p2, .slice ao l.length cap] 31)).alloc (.cells #[.int .i64 0, .int .i64 0, .int .i64 0, .slice none 0 0] 31)).cell? ⟨w.heap.size, 2, none⟩ = some (.int .i64 p2) := by go_cell
  have a3_1 : ((w.alloc (.cells #[.int .i64 p0, .int .i64 p1, .int .i64 p2, .slice ao l.length cap] 31)).alloc (.cells #[.int .i64 0, .int .i64 0, .int .i64 0, .slice none 0 0] 31)).cell? ⟨w.heap.size, 3, none⟩ = some (.slice ao l.length cap) := by go_cell
  have al_1 : w.heap.size < ((w.alloc (.cells #[.int .i64 p0, .int .i64 p1, .int .i64 p2, .slice ao l.length cap] 31)).alloc (.cells #[.int .i64 0, .int .i64 0, .int .i64 0, .slice none 0 0] 31)).heap.size := by first | (simp; done) | (simp; omega)
  have r0_1 : ((w.alloc (.cells #[.int .i64 p0, .int .i64 p1, .int .i64 p2, .slice ao l.length cap] 31)).alloc (.cells #[.int .i64 0, .int .i64 0, .int .i64 0, .slice none 0 0] 31)).cell? ⟨w.heap.size + 1, 0, none⟩ = some (.int .i64 0) := by go_cell
  have rf0_1 : ((w.alloc (.cells #[.int .i64 p0, .int .i64 p1, .int .i64 p2, .slice ao l.length cap] 31)).alloc (.cells #[.int .i64 0, .int .i64 0, .int .i64 0, .slice none 0 0] 31)).frozen? ⟨w.heap.size + 1, 0, none⟩ = false := by (first | go_cell | (simp [World.frozen?, World.alloc]; done) | rfl)
  have r1_1 : ((w.alloc (.cells #[.int .i64 p0, .int .i64 p1, .int .i64 p2, .slice ao l.length cap] 31)).alloc (.cells #[.int .i64 0, .int .i64 0, .int .i64 0, .slice none 0 0] 31)).cell? ⟨w.heap.size + 1, 1, none⟩ = some (.int .i64 0) := by go_cell
  have rf1_1 : ((w.alloc (.cells #[.int .i64 p0, .int .i64 p1, .int .i64 p2, .slice ao l.length cap] 31)).alloc (.cells #[.int .i64 0, .int .i64 0, .int .i64 0, .slice none 0 0] 31)).frozen? ⟨w.heap.size + 1, 1, none⟩ = false := by (first | go_cell | (simp [World.frozen?, World.alloc]; done) | rfl)
  have r2_1 : ((w.alloc (.cells #[.int .i64 p0, .int .i64 p1, .int .i64 p2, .slice ao l.length cap] 31)).alloc (.cells #[.int .i64 0, .int .i64 0, .int .i64 0, .slice none 0 0] 31)).cell? ⟨w.heap.size + 1, 2, none⟩ = some (.int .i64 0) := by go_cell
  have rf2_1 : ((w.alloc (.cells #[.int .i64 p0, .int .i64 p1, .int .i64 p2, .slice ao l.length cap] 31)).alloc (.cells #[.int .i64 0, .int .i64 0, .int .i64 0, .slice none 0 0] 31)).frozen? ⟨w.heap.size + 1, 2, none⟩ = false := by (first | go_cell | (simp [World.frozen?, World.alloc]; done) | rfl)
  have r3_1 : ((w.alloc (.cells #[.int .i64 p0, .int .i64 p1, .int .i64 p2, .slice ao l.length cap] 31)).alloc (.cells #[.int .i64 0, .int .i64 0, .int .i64 0, .slice none 0 0] 31)).cell? ⟨w.heap.size + 1, 3, none⟩ = some (.slice none 0 0) := by go_cell
  have rf3_1 : ((w.alloc (.cells #[.int .i64 p0, .int .i64 p1, .int .i64 p2, .slice ao l.length cap] 31)).alloc (.cells #[.int .i64 0, .int .i64 0, .int .i64 0, .slice none 0 0] 31)).frozen? ⟨w.heap.size + 1, 3, none⟩ = false := by (first | go_cell | (simp [World.frozen?, World.alloc]; done) | rfl)
  have rl_1 : w.heap.size + 1 < ((w.alloc (.cells #[.int .i64 p0, .int .i64 p1, .int .i64 p2, .slice ao l.length cap] 31)).alloc (.cells #[.int .i64 0, .int .i64 0, .int .i64 0, .slice none 0 0] 31)).heap.size := by first | (simp; done) | (simp; omega)
  have c1 : Below w.heap.size w ((w.alloc (.cells #[.int .i64 p0, .int .i64 p1, .int .i64 p2, .slice ao l.length cap] 31)).alloc (.cells #[.int .i64 0, .int .i64 0, .int .i64 0, .slice none 0 0] 31)) := by go_grown
  have s1 : ((w.alloc (.cells #[.int .i64 p0, .int .i64 p1, .int .i64 p2, .slice ao l.length cap] 31)).alloc (.cells #[.int .i64 0, .int .i64 0, .int .i64 0, .slice none 0 0] 31)).heap.size = w.heap.size + 2 := by simp
  generalize ((w.alloc (.cells #[.int .i64 p0, .int .i64 p1, .int .i64 p2, .slice ao l.length cap] 31)).alloc (.cells #[.int .i64 0, .int .i64 0, .int .i64 0, .slice none 0 0] 31)) = w1 at a0_1 a1_1 a2_1 a3_1 al_1 r0_1 rf0_1 r1_1 rf1_1 r2_1 rf2_1 r3_1 rf3_1 rl_1 c1 s1 ⊢
  have qa0_1 := cell_regrown a0_1
  have qa1_1 := cell_regrown a1_1
  have qa2_1 := cell_regrown a2_1
  have qa3_1 := cell_regrown a3_1
  have qr0_1 := cell_regrown r0_1
  have qr1_1 := cell_regrown r1_1
  have qr2_1 := cell_regrown r2_1
  have qr3_1 := cell_regrown r3_1
  have HR1 := hid (HR.out.later c1)
  clear qa0_1 qa1_1 qa2_1 qa3_1 qr0_1 qr1_1 qr2_1 qr3_1
  go_region_held3 (fun w' => w'.cell? ⟨w.heap.size, 0, none⟩ = some (.int .i64 p0) ∧ w'.cell? ⟨w.heap.size, 1, none⟩ = some (.int .i64 p1) ∧ w'.cell? ⟨w.heap.size, 2, none⟩ = some (.int .i64 p2) ∧ w'.cell? ⟨w.heap.size, 3, none⟩ = some (.slice ao l.length cap)) (go_keep) (first | (go_at_call 69; refine (l2Copy_any p2 _ l _ (HR1.out.later (by go_grown)) hl).mono ?_; rintro e w2 ⟨v', rfl, ho, b2⟩; have d2 : Below w1.heap.size w1 w2 := (Below.trans (by go_grown) (b2.mono (by first | omega | (simp; done) | (simp; omega)))); have j0 := (d2.cell (p := ⟨w.heap.size, 0, none⟩) al_1).trans a0_1; have j1 := (d2.cell (p := ⟨w.heap.size, 1, none⟩) al_1).trans a1_1; have j2 := (d2.cell (p := ⟨w.heap.size, 2, none⟩) al_1).trans a2_1; have j3 := (d2.cell (p := ⟨w.heap.size, 3, none⟩) al_1).trans a3_1; have HO := hid (Own.mono ho (B' := w1.heap.size) (by show w1.heap.size ≤ w1.heap.size; omega)); clear ho; have r0_2 : w2.cell? ⟨w.heap.size + 1, 0, none⟩ = some (.int .i64 0) := (by rw [b2.cell (by first | omega | (simp; done) | (simp; omega))]; go_cell); have rf0_2 : w2.frozen? ⟨w.heap.size + 1, 0, none⟩ = false := (by rw [b2.frozen (by first | omega | (simp; done) | (simp; omega))]; (first | go_cell | (simp [World.frozen?, World.alloc]; done) | rfl)); have r1_2 : w2.cell? ⟨w.heap.size + 1, 1, none⟩ = some (.int .i64 0) := (by rw [b2.cell (by first | omega | (simp; done) | (simp; omega))]; go_cell); have rf1_2 : w2.frozen? ⟨w.heap.size + 1, 1, none⟩ = false := (by rw [b2.frozen (by first | omega | (simp; done) | (simp; omega))]; (first | go_cell | (simp [World.frozen?, World.alloc]; done) | rfl)); have r2_2 : w2.cell? ⟨w.heap.size + 1, 2, none⟩ = some (.int .i64 0) := (by rw [b2.cell (by first | omega | (simp; done) | (simp; omega))]; go_cell); have rf2_2 : w2.frozen? ⟨w.heap.size + 1, 2, none⟩ = false := (by rw [b2.frozen (by first | omega | (simp; done) | (simp; omega))]; (first | go_cell | (simp [World.frozen?, World.alloc]; done) | rfl)); have r3_2 : w2.cell? ⟨w.heap.size + 1, 3, none⟩ = some (.slice none 0 0) := (by rw [b2.cell (by first | omega | (simp; done) | (simp; omega))]; go_cell); have rf3_2 : w2.frozen? ⟨w.heap.size + 1, 3, none⟩ = false := (by rw [b2.frozen (by first | omega | (simp; done) | (simp; omega))]; (first | go_cell | (simp [World.frozen?, World.alloc]; done) | rfl)); have rl_2 : w.heap.size + 1 < w2.heap.size := (by have := b2.size; first | omega | (revert this; simp; done) | (revert this; simp; omega)); obtain ⟨uo, uc, huv, _⟩ := HO.out.rd; subst huv))
  all_goals
    have C2 := hid (c1.trans (d2.mono c1.size))
    clear d2 b2 c1
    go_wp2_with fail
    have e0 : ((((w2.setCell ⟨w.heap.size + 1, 0, none⟩ (.int .i64 p0)).setCell ⟨w.heap.size + 1, 1, none⟩ (.int .i64 p1)).setCell ⟨w.heap.size + 1, 2, none⟩ (.int .i64 p2)).setCell ⟨w.heap.size + 1, 3, none⟩ (.slice uo l.length uc)).cell? ⟨w.heap.size + 1, 0, none⟩ = some (.int .i64 p0) := by go_cell
    have e1 : ((((w2.setCell ⟨w.heap.size + 1, 0, none⟩ (.int .i64 p0)).setCell ⟨w.heap.size + 1, 1, none⟩ (.int .i64 p1)).setCell ⟨w.heap.size + 1, 2, none⟩ (.int .i64 p2)).setCell ⟨w.heap.size + 1, 3, none⟩ (.slice uo l.length uc)).cell? ⟨w.heap.size + 1, 1, none⟩ = some (.int .i64 p1) := by go_cell
    have e2 : ((((w2.setCell ⟨w.heap.size + 1, 0, none⟩ (.int .i64 p0)).setCell ⟨w.heap.size + 1, 1, none⟩ (.int .i64 p1)).setCell ⟨w.heap.size + 1, 2, none⟩ (.int .i64 p2)).setCell ⟨w.heap.size + 1, 3, none⟩ (.slice uo l.length uc)).cell? ⟨w.heap.size + 1, 2, none⟩ = some (.int .i64 p2) := by go_cell
    have e3 : ((((w2.setCell ⟨w.heap.size + 1, 0, none⟩ (.int .i64 p0)).setCell ⟨w.heap.size + 1, 1, none⟩ (.int .i64 p1)).setCell ⟨w.heap.size + 1, 2, none⟩ (.int .i64 p2)).setCell ⟨w.heap.size + 1, 3, none⟩ (.slice uo l.length uc)).cell? ⟨w.heap.size + 1, 3, none⟩ = some (.slice uo l.length uc) := by go_cell
    have HF := hid (Own.mono ((((HO.out.apartSet (p := ⟨w.heap.size + 1, 0, none⟩) (by show w.heap.size + 1 < w1.heap.size; omega) (.int .i64 p0)).apartSet (p := ⟨w.heap.size + 1, 1, none⟩) (by show w.heap.size + 1 < w1.heap.size; omega) (.int .i64 p1)).apartSet (p := ⟨w.heap.size + 1, 2, none⟩) (by show w.heap.size + 1 < w1.heap.size; omega) (.int .i64 p2)).apartSet (p := ⟨w.heap.size + 1, 3, none⟩) (by show w.heap.size + 1 < w1.heap.size; omega) (.slice uo l.length uc)) (B' := w.heap.size) (by omega))
    have HB := hid ((((C2.out.setCell (p := ⟨w.heap.size + 1, 0, none⟩) (by show w.heap.size ≤ w.heap.size + 1; omega) (.int .i64 p0)).setCell (p := ⟨w.heap.size + 1, 1, none⟩) (by show w.heap.size ≤ w.heap.size + 1; omega) (.int .i64 p1)).setCell (p := ⟨w.heap.size + 1, 2, none⟩) (by show w.heap.size ≤ w.heap.size + 1; omega) (.int .i64 p2)).setCell (p := ⟨w.heap.size + 1, 3, none⟩) (by show w.heap.size ≤ w.heap.size + 1; omega) (.slice uo l.length uc))
    exact bodyPost_ret (v := .agg #[.int .i64 p0, .int .i64 p1, .int .i64 p2, .slice uo l.length uc]) (by simp [results, Try.results54, go_sem, e0, e1, e2, e3]) rfl ⟨⟨uo, uc, rfl, HF.out⟩, HB.out⟩
/-- What a getter answers of an item, if there is one. -/
def EndG (w w' : World) (o : Option KD) (e : Ending) : Prop := ∃ (a : Option Addr) (c : Nat), e = .returned (.tuple #[.agg #[.int .i64 (gk o), .int .i64 (gv o), .int .i64 (gn o), .slice a (gl o).length c], .bool (gb o)]) ∧ Own w' w.heap.size (.slice a (gl o).length c) (gl o)
/-- None of the first k items is of that key. -/
def NoneK (I : List KD) (key : Int) (k : Nat) : Prop := ∀ j, j < k → keyK (I.getD j kd0) ≠ key
theorem find_none {I : List KD} {key : Int} (h : NoneK I key I.length) : I.find? (fun x => keyK x == key) = none := by
  rw [List.find?_eq_none]
  intro x hx
  obtain ⟨i, hi, rfl⟩ := List.getElem_of_mem hx
  have := h i hi
  rw [getD_at hi] at this
  simpa using this
theorem find_some {I : List KD} {key : Int} {k : Nat} (hk : k < I.length) (h : NoneK I key k) (he : keyK (I.getD k kd0) = key) : I.find? (fun x => keyK x == key) = some (I.getD k kd0) := by
  rw [getD_at hk] at he ⊢
  refine List.find?_eq_some_iff_getElem.2 ⟨by simpa using he, k, hk, rfl, fun j hj => ?_⟩
  have := h j hj
  rw [getD_at (by omega)] at this
  simpa using this
set_option maxRecDepth 100000 in
set_option maxHeartbeats 4000000 in
theorem l5Get_any (v0 v1 : Value) (I F : List KD) (key : Int) (w : World) (h0 : RdM 4 3 true w v0 I) (h1 : RdM 1 1 false w v1 F) (hl : ∀ i, i < I.length → (I.getD i kd0).2.length ≤ 1099511627776) :
    Calls Try.prog 28 #[.agg #[v0, v1], .int .i64 key] w fun e w' => EndG w w' (I.find? (fun x => keyK x == key)) e ∧ Below w.heap.size w w' := by
  have H0 := hid h0
  obtain ⟨ai, ci, rfl, hli, hci⟩ := h0
  obtain ⟨af, cf, rfl, hq2, hq3⟩ := h1
  have HC := hid hci
  have HL := hid hl
  clear hq2 hq3 hci hl
  unfold maxLen at hli
  go_enter Try.func28, Try.ntmps28
  go_wp2_with fail
  have a0_1 : ((w.alloc (.cells #[.slice ai I.length ci, .slice af F.length cf] 36)).alloc (.cells #[.int .i64 0, .int .i64 0, .int .i64 0, .slice none 0 0] 31)).cell? ⟨w.heap.size, 0, none⟩ = some (.slice ai I.length ci) := by go_cell
  have a1_1 : ((w.alloc (.cells #[.slice ai I.length ci, .slice af F.length cf] 36)).alloc (.cells #[.int .i64 0, .int .i64 0, .int .i64 0, .slice none 0 0] 31)).cell? ⟨w.heap.size, 1, none⟩ = some (.slice af F.length cf) := by go_cell
  have al_1 : w.heap.size < ((w.alloc (.cells #[.slice ai I.length ci, .slice af F.length cf] 36)).alloc (.cells #[.int .i64 0, .int .i64 0, .int .i64 0, .slice none 0 0] 31)).heap.size := by first | (simp; done) | (simp; omega)
  have r0_1 : ((w.alloc (.cells #[.slice ai I.length ci, .slice af F.length cf] 36)).alloc (.cells #[.int .i64 0, .int .i64 0, .int .i64 0, .slice none 0 0] 31)).cell? ⟨w.heap.size + 1, 0, none⟩ = some (.int .i64 0) := by go_cell
  have rf0_1 : ((w.alloc (.cells #[.slice ai I.length ci, .slice af F.length cf] 36)).alloc (.cells #[.int .i64 0, .int .i64 0, .int .i64 0, .slice none 0 0] 31)).frozen? ⟨w.heap.size + 1, 0, none⟩ = false := by (first | go_cell | (simp [World.frozen?, World.alloc]; done) | rfl)
  have r1_1 : ((w.alloc (.cells #[.slice ai I.length ci, .slice af F.length cf] 36)).alloc (.cells #[.int .i64 0, .int .i64 0, .int .i64 0, .slice none 0 0] 31)).cell? ⟨w.heap.size + 1, 1, none⟩ = some (.int .i64 0) := by go_cell
  have rf1_1 : ((w.alloc (.cells #[.slice ai I.length ci, .slice af F.length cf] 36)).alloc (.cells #[.int .i64 0, .int .i64 0, .int .i64 0, .slice none 0 0] 31)).frozen? ⟨w.heap.size + 1, 1, none⟩ = false := by (first | go_cell | (simp [World.frozen?, World.alloc]; done) | rfl)
  have r2_1 : ((w.alloc (.cells #[.slice ai I.length ci, .slice af F.length cf] 36)).alloc (.cells #[.int .i64 0, .int .i64 0, .int .i64 0, .slice none 0 0] 31)).cell? ⟨w.heap.size + 1, 2, none⟩ = some (.int .i64 0) := by go_cell
  have rf2_1 : ((w.alloc (.cells #[.slice ai I.length ci, .slice af F.length cf] 36)).alloc (.cells #[.int .i64 0, .int .i64 0, .int .i64 0, .slice none 0 0] 31)).frozen? ⟨w.heap.size + 1, 2, none⟩ = false := by (first | go_cell | (simp [World.frozen?, World.alloc]; done) | rfl)
  have r3_1 : ((w.alloc (.cells #[.slice ai I.length ci, .slice af F.length cf] 36)).alloc (.cells #[.int .i64 0, .int .i64 0, .int .i64 0, .slice none 0 0] 31)).cell? ⟨w.heap.size + 1, 3, none⟩ = some (.slice none 0 0) := by go_cell
  have rf3_1 : ((w.alloc (.cells #[.slice ai I.length ci, .slice af F.length cf] 36)).alloc (.cells #[.int .i64 0, .int .i64 0, .int .i64 0, .slice none 0 0] 31)).frozen? ⟨w.heap.size + 1, 3, none⟩ = false := by (first | go_cell | (simp [World.frozen?, World.alloc]; done) | rfl)
  have rl_1 : w.heap.size + 1 < ((w.alloc (.cells #[.slice ai I.length ci, .slice af F.length cf] 36)).alloc (.cells #[.int .i64 0, .int .i64 0, .int .i64 0, .slice none 0 0] 31)).heap.size := by first | (simp; done) | (simp; omega)
  have c1 : Below w.heap.size w ((w.alloc (.cells #[.slice ai I.length ci, .slice af F.length cf] 36)).alloc (.cells #[.int .i64 0, .int .i64 0, .int .i64 0, .slice none 0 0] 31)) := by go_grown
  have s1 : ((w.alloc (.cells #[.slice ai I.length ci, .slice af F.length cf] 36)).alloc (.cells #[.int .i64 0, .int .i64 0, .int .i64 0, .slice none 0 0] 31)).heap.size = w.heap.size + 2 := by simp
  generalize ((w.alloc (.cells #[.slice ai I.length ci, .slice af F.length cf] 36)).alloc (.cells #[.int .i64 0, .int .i64 0, .int .i64 0, .slice none 0 0] 31)) = w1 at a0_1 a1_1 al_1 r0_1 rf0_1 r1_1 rf1_1 r2_1 rf2_1 r3_1 rf3_1 rl_1 c1 s1 ⊢
  have qa0_1 := cell_regrown a0_1
  have qa1_1 := cell_regrown a1_1
  have qr0_1 := cell_regrown r0_1
  have qr1_1 := cell_regrown r1_1
  have qr2_1 := cell_regrown r2_1
  have qr3_1 := cell_regrown r3_1
  clear qa0_1 qa1_1 qr0_1 qr1_1 qr2_1 qr3_1
  go_loopw [6] (fun i wr => ∃ k : Nat, k ≤ I.length ∧ i = .int .i64 k ∧ Hid (NoneK I key k) ∧ Below w1.heap.size w1 wr) (fun i _ => I.length - (intOf i).toNat)
  case atStart => exact ⟨0, Nat.zero_le _, rfl, hid (fun j hj => absurd hj (Nat.not_lt_zero j)), Below.refl _ _⟩
  case round =>
    obtain ⟨k, hk, rfl, hpre, hbel1⟩ := hrel
    have hbel := c1.trans (hbel1.mono c1.size)
    have x0 := (hbel1.cell (p := ⟨w.heap.size, 0, none⟩) al_1).trans a0_1
    have r0_2 := (hbel1.cell (p := ⟨w.heap.size + 1, 0, none⟩) rl_1).trans r0_1
    have rf0_2 := (hbel1.frozen (p := ⟨w.heap.size + 1, 0, none⟩) rl_1).trans rf0_1
    have r1_2 := (hbel1.cell (p := ⟨w.heap.size + 1, 1, none⟩) rl_1).trans r1_1
    have rf1_2 := (hbel1.frozen (p := ⟨w.heap.size + 1, 1, none⟩) rl_1).trans rf1_1
    have r2_2 := (hbel1.cell (p := ⟨w.heap.size + 1, 2, none⟩) rl_1).trans r2_1
    have rf2_2 := (hbel1.frozen (p := ⟨w.heap.size + 1, 2, none⟩) rl_1).trans rf2_1
    have r3_2 := (hbel1.cell (p := ⟨w.heap.size + 1, 3, none⟩) rl_1).trans r3_1
    have rf3_2 := (hbel1.frozen (p := ⟨w.heap.size + 1, 3, none⟩) rl_1).trans rf3_1
    have hsz1 := hbel1.size
    by_cases hlt : k < I.length
    · have hki : (k : Int) < (I.length : Int) := by omega
      obtain ⟨b, o, rfl, hb, hcc⟩ := HC.out (by omega)
      obtain ⟨p0, p1, p2, lx, ux, hx, e0, e1, e2, e3, hux⟩ := atK_3k ((hcc k hlt).later hb hbel)
      have HX := hid hx
      have HU := hid hux
      obtain ⟨uo, uc, rfl, _, _⟩ := hux
      clear hcc hx
      by_cases hkk : p0 = key
      · subst hkk
        have HF := hid (find_some hlt hpre.out (by rw [HX.out]; rfl))
        rw [HX.out] at HF
        have HLX : Hid (lx.length ≤ 1099511627776) := hid (by have := HL.out k hlt; rw [HX.out] at this; exact this)
        go_wp2_with fail
        refine (l5Copy_any _ _ _ _ lx _ HU.out HLX.out).mono ?_
        rintro e w5 ⟨⟨a, c, rfl, ho5⟩, b5⟩
        have r0_5 := (b5.cell (p := ⟨w.heap.size + 1, 0, none⟩) (by show w.heap.size + 1 < wr.heap.size; omega)).trans r0_2
        have rf0_5 := (b5.frozen (p := ⟨w.heap.size + 1, 0, none⟩) (by show w.heap.size + 1 < wr.heap.size; omega)).trans rf0_2
        have r1_5 := (b5.cell (p := ⟨w.heap.size + 1, 1, none⟩) (by show w.heap.size + 1 < wr.heap.size; omega)).trans r1_2
        have rf1_5 := (b5.frozen (p := ⟨w.heap.size + 1, 1, none⟩) (by show w.heap.size + 1 < wr.heap.size; omega)).trans rf1_2
        have r2_5 := (b5.cell (p := ⟨w.heap.size + 1, 2, none⟩) (by show w.heap.size + 1 < wr.heap.size; omega)).trans r2_2
        have rf2_5 := (b5.frozen (p := ⟨w.heap.size + 1, 2, none⟩) (by show w.heap.size + 1 < wr.heap.size; omega)).trans rf2_2
        have r3_5 := (b5.cell (p := ⟨w.heap.size + 1, 3, none⟩) (by show w.heap.size + 1 < wr.heap.size; omega)).trans r3_2
        have rf3_5 := (b5.frozen (p := ⟨w.heap.size + 1, 3, none⟩) (by show w.heap.size + 1 < wr.heap.size; omega)).trans rf3_2
        have HO5 := hid ho5
        have C5 := hid (hbel.trans (b5.mono hbel.size))
        clear b5 ho5 e0 e1 e2 e3
        go_wp2_with fail
        have e0 : ((((w5.setCell ⟨w.heap.size + 1, 0, none⟩ (.int .i64 p0)).setCell ⟨w.heap.size + 1, 1, none⟩ (.int .i64 p1)).setCell ⟨w.heap.size + 1, 2, none⟩ (.int .i64 p2)).setCell ⟨w.heap.size + 1, 3, none⟩ (.slice a lx.length c)).cell? ⟨w.heap.size + 1, 0, none⟩ = some (.int .i64 p0) := by go_cell
        have e1 : ((((w5.setCell ⟨w.heap.size + 1, 0, none⟩ (.int .i64 p0)).setCell ⟨w.heap.size + 1, 1, none⟩ (.int .i64 p1)).setCell ⟨w.heap.size + 1, 2, none⟩ (.int .i64 p2)).setCell ⟨w.heap.size + 1, 3, none⟩ (.slice a lx.length c)).cell? ⟨w.heap.size + 1, 1, none⟩ = some (.int .i64 p1) := by go_cell
        have e2 : ((((w5.setCell ⟨w.heap.size + 1, 0, none⟩ (.int .i64 p0)).setCell ⟨w.heap.size + 1, 1, none⟩ (.int .i64 p1)).setCell ⟨w.heap.size + 1, 2, none⟩ (.int .i64 p2)).setCell ⟨w.heap.size + 1, 3, none⟩ (.slice a lx.length c)).cell? ⟨w.heap.size + 1, 2, none⟩ = some (.int .i64 p2) := by go_cell
        have e3 : ((((w5.setCell ⟨w.heap.size + 1, 0, none⟩ (.int .i64 p0)).setCell ⟨w.heap.size + 1, 1, none⟩ (.int .i64 p1)).setCell ⟨w.heap.size + 1, 2, none⟩ (.int .i64 p2)).setCell ⟨w.heap.size + 1, 3, none⟩ (.slice a lx.length c)).cell? ⟨w.heap.size + 1, 3, none⟩ = some (.slice a lx.length c) := by go_cell
        have HFO := hid (Own.mono ((((HO5.out.apartSet (p := ⟨w.heap.size + 1, 0, none⟩) (by show w.heap.size + 1 < wr.heap.size; omega) (.int .i64 p0)).apartSet (p := ⟨w.heap.size + 1, 1, none⟩) (by show w.heap.size + 1 < wr.heap.size; omega) (.int .i64 p1)).apartSet (p := ⟨w.heap.size + 1, 2, none⟩) (by show w.heap.size + 1 < wr.heap.size; omega) (.int .i64 p2)).apartSet (p := ⟨w.heap.size + 1, 3, none⟩) (by show w.heap.size + 1 < wr.heap.size; omega) (.slice a lx.length c)) (B' := w.heap.size) (by omega))
        have HB := hid ((((C5.out.setCell (p := ⟨w.heap.size + 1, 0, none⟩) (by show w.heap.size ≤ w.heap.size + 1; omega) (.int .i64 p0)).setCell (p := ⟨w.heap.size + 1, 1, none⟩) (by show w.heap.size ≤ w.heap.size + 1; omega) (.int .i64 p1)).setCell (p := ⟨w.heap.size + 1, 2, none⟩) (by show w.heap.size ≤ w.heap.size + 1; omega) (.int .i64 p2)).setCell (p := ⟨w.heap.size + 1, 3, none⟩) (by show w.heap.size ≤ w.heap.size + 1; omega) (.slice a lx.length c))
        refine bodyPost_ret (v := .tuple #[.agg #[.int .i64 p0, .int .i64 p1, .int .i64 p2, .slice a lx.length c], .bool true]) ?_ rfl ⟨by rw [HF.out]; exact ⟨a, c, rfl, HFO.out⟩, HB.out⟩
        simp [results, Try.results28, go_sem, e0, e1, e2, e3]
      · have hne : (p0 == key) = false := by simpa using hkk
        have HN : Hid (NoneK I key (k + 1)) := hid (fun j hj => by
          by_cases e : j = k
          · rw [e, HX.out]; exact hkk
          · exact hpre.out j (by omega))
        go_wp2_with fail
        go_roundw
        case rel => exact ⟨k + 1, by omega, by go_num, HN, hbel1⟩
        case measure => simp [intOf]; omega
    · have hki : ¬ (k : Int) < (I.length : Int) := by omega
      have hkn : k = I.length := by omega
      subst hkn
      have HF := hid (find_none hpre.out)
      have HBEL := hid hbel
      go_wp2_with fail
      have e0 : ((((wr.setCell ⟨w.heap.size + 1, 0, none⟩ (.int .i64 0)).setCell ⟨w.heap.size + 1, 1, none⟩ (.int .i64 0)).setCell ⟨w.heap.size + 1, 2, none⟩ (.int .i64 0)).setCell ⟨w.heap.size + 1, 3, none⟩ (.slice none 0 0)).cell? ⟨w.heap.size + 1, 0, none⟩ = some (.int .i64 0) := by go_cell
      have e1 : ((((wr.setCell ⟨w.heap.size + 1, 0, none⟩ (.int .i64 0)).setCell ⟨w.heap.size + 1, 1, none⟩ (.int .i64 0)).setCell ⟨w.heap.size + 1, 2, none⟩ (.int .i64 0)).setCell ⟨w.heap.size + 1, 3, none⟩ (.slice none 0 0)).cell? ⟨w.heap.size + 1, 1, none⟩ = some (.int .i64 0) := by go_cell
      have e2 : ((((wr.setCell ⟨w.heap.size + 1, 0, none⟩ (.int .i64 0)).setCell ⟨w.heap.size + 1, 1, none⟩ (.int .i64 0)).setCell ⟨w.heap.size + 1, 2, none⟩ (.int .i64 0)).setCell ⟨w.heap.size + 1, 3, none⟩ (.slice none 0 0)).cell? ⟨w.heap.size + 1, 2, none⟩ = some (.int .i64 0) := by go_cell
      have e3 : ((((wr.setCell ⟨w.heap.size + 1, 0, none⟩ (.int .i64 0)).setCell ⟨w.heap.size + 1, 1, none⟩ (.int .i64 0)).setCell ⟨w.heap.size + 1, 2, none⟩ (.int .i64 0)).setCell ⟨w.heap.size + 1, 3, none⟩ (.slice none 0 0)).cell? ⟨w.heap.size + 1, 3, none⟩ = some (.slice none 0 0) := by go_cell
      refine bodyPost_ret (v := .tuple #[.agg #[.int .i64 0, .int .i64 0, .int .i64 0, .slice none 0 0], .bool false]) ?_ rfl ⟨by rw [HF.out]; exact ⟨none, 0, rfl, World.ownsRow_nil _ _ _ _⟩, ((((HBEL.out.setCell (p := ⟨w.heap.size + 1, 0, none⟩) (by show w.heap.size ≤ w.heap.size + 1; omega) (.int .i64 0)).setCell (p := ⟨w.heap.size + 1, 1, none⟩) (by show w.heap.size ≤ w.heap.size + 1; omega) (.int .i64 0)).setCell (p := ⟨w.heap.size + 1, 2, none⟩) (by show w.heap.size ≤ w.heap.size + 1; omega) (.int .i64 0)).setCell (p := ⟨w.heap.size + 1, 3, none⟩) (by show w.heap.size ≤ w.heap.size + 1; omega) (.slice none 0 0))⟩
      simp [results, Try.results28, go_sem, e0, e1, e2, e3]
set_option maxRecDepth 100000 in
set_option maxHeartbeats 4000000 in
theorem specGet_any (v0 v1 : Value) (I F : List KD) (key : Int) (w : World) (h0 : RdM 4 3 true w v0 I) (h1 : RdM 1 1 false w v1 F) {o : Option KD} (ho : ansG I F key = o) :
    Calls Try.prog 8 #[.agg #[v0, v1], .int .i64 key] w fun e w' => EndG w w' o e ∧ Below w.heap.size w w' := by
  have H0 := hid h0
  have H1 := hid h1
  obtain ⟨ai, ci, rfl, hq0, hq1⟩ := h0
  obtain ⟨af, cf, rfl, hq2, hq3⟩ := h1
  clear hq0 hq1 hq2 hq3
  have hco := fun (W : World) (a : RdM 4 3 true W (.slice ai I.length ci) I) (b : RdM 1 1 false W (.slice af F.length cf) F) => specCOk_any _ _ I F W a b
  cases hok : okC I F with
  | false =>
    rw [hok] at hco
    obtain rfl : o = none := by rw [← ho, ansG, hok]; rfl
    go_enter Try.func8, Try.ntmps8
    go_wp2_with fail
    have a0_1 : ((w.alloc (.cells #[.slice ai I.length ci, .slice af F.length cf] 36)).alloc (.cells #[.int .i64 0, .int .i64 0, .int .i64 0, .slice none 0 0] 31)).cell? ⟨w.heap.size, 0, none⟩ = some (.slice ai I.length ci) := by go_cell
    have a1_1 : ((w.alloc (.cells #[.slice ai I.length ci, .slice af F.length cf] 36)).alloc (.cells #[.int .i64 0, .int .i64 0, .int .i64 0, .slice none 0 0] 31)).cell? ⟨w.heap.size, 1, none⟩ = some (.slice af F.length cf) := by go_cell
    have al_1 : w.heap.size < ((w.alloc (.cells #[.slice ai I.length ci, .slice af F.length cf] 36)).alloc (.cells #[.int .i64 0, .int .i64 0, .int .i64 0, .slice none 0 0] 31)).heap.size := by first | (simp; done) | (simp; omega)
    have r0_1 : ((w.alloc (.cells #[.slice ai I.length ci, .slice af F.length cf] 36)).alloc (.cells #[.int .i64 0, .int .i64 0, .int .i64 0, .slice none 0 0] 31)).cell? ⟨w.heap.size + 1, 0, none⟩ = some (.int .i64 0) := by go_cell
    have rf0_1 : ((w.alloc (.cells #[.slice ai I.length ci, .slice af F.length cf] 36)).alloc (.cells #[.int .i64 0, .int .i64 0, .int .i64 0, .slice none 0 0] 31)).frozen? ⟨w.heap.size + 1, 0, none⟩ = false := by (first | go_cell | (simp [World.frozen?, World.alloc]; done) | rfl)
    have r1_1 : ((w.alloc (.cells #[.slice ai I.length ci, .slice af F.length cf] 36)).alloc (.cells #[.int .i64 0, .int .i64 0, .int .i64 0, .slice none 0 0] 31)).cell? ⟨w.heap.size + 1, 1, none⟩ = some (.int .i64 0) := by go_cell
    have rf1_1 : ((w.alloc (.cells #[.slice ai I.length ci, .slice af F.length cf] 36)).alloc (.cells #[.int .i64 0, .int .i64 0, .int .i64 0, .slice none 0 0] 31)).frozen? ⟨w.heap.size + 1, 1, none⟩ = false := by (first | go_cell | (simp [World.frozen?, World.alloc]; done) | rfl)
    have r2_1 : ((w.alloc (.cells #[.slice ai I.length ci, .slice af F.length cf] 36)).alloc (.cells #[.int .i64 0, .int .i64 0, .int .i64 0, .slice none 0 0] 31)).cell? ⟨w.heap.size + 1, 2, none⟩ = some (.int .i64 0) := by go_cell
    have rf2_1 : ((w.alloc (.cells #[.slice ai I.length ci, .slice af F.length cf] 36)).alloc (.cells #[.int .i64 0, .int .i64 0, .int .i64 0, .slice none 0 0] 31)).frozen? ⟨w.heap.size + 1, 2, none⟩ = false := by (first | go_cell | (simp [World.frozen?, World.alloc]; done) | rfl)
    have r3_1 : ((w.alloc (.cells #[.slice ai I.length ci, .slice af F.length cf] 36)).alloc (.cells #[.int .i64 0, .int .i64 0, .int .i64 0, .slice none 0 0] 31)).cell? ⟨w.heap.size + 1, 3, none⟩ = some (.slice none 0 0) := by go_cell
    have rf3_1 : ((w.alloc (.cells #[.slice ai I.length ci, .slice af F.length cf] 36)).alloc (.cells #[.int .i64 0, .int .i64 0, .int .i64 0, .slice none 0 0] 31)).frozen? ⟨w.heap.size + 1, 3, none⟩ = false := by (first | go_cell | (simp [World.frozen?, World.alloc]; done) | rfl)
    have rl_1 : w.heap.size + 1 < ((w.alloc (.cells #[.slice ai I.length ci, .slice af F.length cf] 36)).alloc (.cells #[.int .i64 0, .int .i64 0, .int .i64 0, .slice none 0 0] 31)).heap.size := by first | (simp; done) | (simp; omega)
    have c1 : Below w.heap.size w ((w.alloc (.cells #[.slice ai I.length ci, .slice af F.length cf] 36)).alloc (.cells #[.int .i64 0, .int .i64 0, .int .i64 0, .slice none 0 0] 31)) := by go_grown
    have s1 : ((w.alloc (.cells #[.slice ai I.length ci, .slice af F.length cf] 36)).alloc (.cells #[.int .i64 0, .int .i64 0, .int .i64 0, .slice none 0 0] 31)).heap.size = w.heap.size + 2 := by simp
    generalize ((w.alloc (.cells #[.slice ai I.length ci, .slice af F.length cf] 36)).alloc (.cells #[.int .i64 0, .int .i64 0, .int .i64 0, .slice none 0 0] 31)) = w1 at a0_1 a1_1 al_1 r0_1 rf0_1 r1_1 rf1_1 r2_1 rf2_1 r3_1 rf3_1 rl_1 c1 s1 ⊢
    have qa0_1 := cell_regrown a0_1
    have qa1_1 := cell_regrown a1_1
    have qr0_1 := cell_regrown r0_1
    have qr1_1 := cell_regrown r1_1
    have qr2_1 := cell_regrown r2_1
    have qr3_1 := cell_regrown r3_1
    clear qa0_1 qa1_1 qr0_1 qr1_1 qr2_1 qr3_1
    refine (hco _ (H0.out.later c1) (H1.out.later c1)).mono ?_
    rintro e w2 ⟨rfl, b2⟩
    have r0_2 := (b2.cell (p := ⟨w.heap.size + 1, 0, none⟩) rl_1).trans r0_1
    have rf0_2 := (b2.frozen (p := ⟨w.heap.size + 1, 0, none⟩) rl_1).trans rf0_1
    have r1_2 := (b2.cell (p := ⟨w.heap.size + 1, 1, none⟩) rl_1).trans r1_1
    have rf1_2 := (b2.frozen (p := ⟨w.heap.size + 1, 1, none⟩) rl_1).trans rf1_1
    have r2_2 := (b2.cell (p := ⟨w.heap.size + 1, 2, none⟩) rl_1).trans r2_1
    have rf2_2 := (b2.frozen (p := ⟨w.heap.size + 1, 2, none⟩) rl_1).trans rf2_1
    have r3_2 := (b2.cell (p := ⟨w.heap.size + 1, 3, none⟩) rl_1).trans r3_1
    have rf3_2 := (b2.frozen (p := ⟨w.heap.size + 1, 3, none⟩) rl_1).trans rf3_1
    have C2 := hid (c1.trans (b2.mono c1.size))
    clear b2 c1
    go_wp2_with fail
    have e0 : ((((w2.setCell ⟨w.heap.size + 1, 0, none⟩ (.int .i64 0)).setCell ⟨w.heap.size + 1, 1, none⟩ (.int .i64 0)).setCell ⟨w.heap.size + 1, 2, none⟩ (.int .i64 0)).setCell ⟨w.heap.size + 1, 3, none⟩ (.slice none 0 0)).cell? ⟨w.heap.size + 1, 0, none⟩ = some (.int .i64 0) := by go_cell
    have e1 : ((((w2.setCell ⟨w.heap.size + 1, 0, none⟩ (.int .i64 0)).setCell ⟨w.heap.size + 1, 1, none⟩ (.int .i64 0)).setCell ⟨w.heap.size + 1, 2, none⟩ (.int .i64 0)).setCell ⟨w.heap.size + 1, 3, none⟩ (.slice none 0 0)).cell? ⟨w.heap.size + 1, 1, none⟩ = some (.int .i64 0) := by go_cell
    have e2 : ((((w2.setCell ⟨w.heap.size + 1, 0, none⟩ (.int .i64 0)).setCell ⟨w.heap.size + 1, 1, none⟩ (.int .i64 0)).setCell ⟨w.heap.size + 1, 2, none⟩ (.int .i64 0)).setCell ⟨w.heap.size + 1, 3, none⟩ (.slice none 0 0)).cell? ⟨w.heap.size + 1, 2, none⟩ = some (.int .i64 0) := by go_cell
    have e3 : ((((w2.setCell ⟨w.heap.size + 1, 0, none⟩ (.int .i64 0)).setCell ⟨w.heap.size + 1, 1, none⟩ (.int .i64 0)).setCell ⟨w.heap.size + 1, 2, none⟩ (.int .i64 0)).setCell ⟨w.heap.size + 1, 3, none⟩ (.slice none 0 0)).cell? ⟨w.heap.size + 1, 3, none⟩ = some (.slice none 0 0) := by go_cell
    refine bodyPost_ret (v := .tuple #[.agg #[.int .i64 0, .int .i64 0, .int .i64 0, .slice none 0 0], .bool false]) ?_ rfl ⟨⟨none, 0, rfl, World.ownsRow_nil _ _ _ _⟩, ((((C2.out.setCell (p := ⟨w.heap.size + 1, 0, none⟩) (by show w.heap.size ≤ w.heap.size + 1; omega) (.int .i64 0)).setCell (p := ⟨w.heap.size + 1, 1, none⟩) (by show w.heap.size ≤ w.heap.size + 1; omega) (.int .i64 0)).setCell (p := ⟨w.heap.size + 1, 2, none⟩) (by show w.heap.size ≤ w.heap.size + 1; omega) (.int .i64 0)).setCell (p := ⟨w.heap.size + 1, 3, none⟩) (by show w.heap.size ≤ w.heap.size + 1; omega) (.slice none 0 0))⟩
    simp [results, Try.results8, go_sem, e0, e1, e2, e3]
  | true =>
    rw [hok] at hco
    have hfo : I.find? (fun x => keyK x == key) = o := by rw [← ho, ansG, hok, if_pos rfl]
    have HL : Hid (∀ i, i < I.length → (I.getD i kd0).2.length ≤ 1099511627776) := hid (fun i hi => by
      have := (okC_small hok).2 _ (List.getElem_mem hi)
      rw [getD_at hi]
      omega)
    go_enter Try.func8, Try.ntmps8
    go_wp2_with fail
    have a0_1 : ((w.alloc (.cells #[.slice ai I.length ci, .slice af F.length cf] 36)).alloc (.cells #[.int .i64 0, .int .i64 0, .int .i64 0, .slice none 0 0] 31)).cell? ⟨w.heap.size, 0, none⟩ = some (.slice ai I.length ci) := by go_cell
    have a1_1 : ((w.alloc (.cells #[.slice ai I.length ci, .slice af F.length cf] 36)).alloc (.cells #[.int .i64 0, .int .i64 0, .int .i64 0, .slice none 0 0] 31)).cell? ⟨w.heap.size, 1, none⟩ = some (.slice af F.length cf) := by go_cell
    have al_1 : w.heap.size < ((w.alloc (.cells #[.slice ai I.length ci, .slice af F.length cf] 36)).alloc (.cells #[.int .i64 0, .int .i64 0, .int .i64 0, .slice none 0 0] 31)).heap.size := by first | (simp; done) | (simp; omega)
    have r0_1 : ((w.alloc (.cells #[.slice ai I.length ci, .slice af F.length cf] 36)).alloc (.cells #[.int .i64 0, .int .i64 0, .int .i64 0, .slice none 0 0] 31)).cell? ⟨w.heap.size + 1, 0, none⟩ = some (.int .i64 0) := by go_cell
    have rf0_1 : ((w.alloc (.cells #[.slice ai I.length ci, .slice af F.length cf] 36)).alloc (.cells #[.int .i64 0, .int .i64 0, .int .i64 0, .slice none 0 0] 31)).frozen? ⟨w.heap.size + 1, 0, none⟩ = false := by (first | go_cell | (simp [World.frozen?, World.alloc]; done) | rfl)
    have r1_1 : ((w.alloc (.cells #[.slice ai I.length ci, .slice af F.length cf] 36)).alloc (.cells #[.int .i64 0, .int .i64 0, .int .i64 0, .slice none 0 0] 31)).cell? ⟨w.heap.size + 1, 1, none⟩ = some (.int .i64 0) := by go_cell
    have rf1_1 : ((w.alloc (.cells #[.slice ai I.length ci, .slice af F.length cf] 36)).alloc (.cells #[.int .i64 0, .int .i64 0, .int .i64 0, .slice none 0 0] 31)).frozen? ⟨w.heap.size + 1, 1, none⟩ = false := by (first | go_cell | (simp [World.frozen?, World.alloc]; done) | rfl)
    have r2_1 : ((w.alloc (.cells #[.slice ai I.length ci, .slice af F.length cf] 36)).alloc (.cells #[.int .i64 0, .int .i64 0, .int .i64 0, .slice none 0 0] 31)).cell? ⟨w.heap.size + 1, 2, none⟩ = some (.int .i64 0) := by go_cell
    have rf2_1 : ((w.alloc (.cells #[.slice ai I.length ci, .slice af F.length cf] 36)).alloc (.cells #[.int .i64 0, .int .i64 0, .int .i64 0, .slice none 0 0] 31)).frozen? ⟨w.heap.size + 1, 2, none⟩ = false := by (first | go_cell | (simp [World.frozen?, World.alloc]; done) | rfl)
    have r3_1 : ((w.alloc (.cells #[.slice ai I.length ci, .slice af F.length cf] 36)).alloc (.cells #[.int .i64 0, .int .i64 0, .int .i64 0, .slice none 0 0] 31)).cell? ⟨w.heap.size + 1, 3, none⟩ = some (.slice none 0 0) := by go_cell
    have rf3_1 : ((w.alloc (.cells #[.slice ai I.length ci, .slice af F.length cf] 36)).alloc (.cells #[.int .i64 0, .int .i64 0, .int .i64 0, .slice none 0 0] 31)).frozen? ⟨w.heap.size + 1, 3, none⟩ = false := by (first | go_cell | (simp [World.frozen?, World.alloc]; done) | rfl)
    have rl_1 : w.heap.size + 1 < ((w.alloc (.cells #[.slice ai I.length ci, .slice af F.length cf] 36)).alloc (.cells #[.int .i64 0, .int .i64 0, .int .i64 0, .slice none 0 0] 31)).heap.size := by first | (simp; done) | (simp; omega)
    have c1 : Below w.heap.size w ((w.alloc (.cells #[.slice ai I.length ci, .slice af F.length cf] 36)).alloc (.cells #[.int .i64 0, .int .i64 0, .int .i64 0, .slice none 0 0] 31)) := by go_grown
    have s1 : ((w.alloc (.cells #[.slice ai I.length ci, .slice af F.length cf] 36)).alloc (.cells #[.int .i64 0, .int .i64 0, .int .i64 0, .slice none 0 0] 31)).heap.size = w.heap.size + 2 := by simp
    generalize ((w.alloc (.cells #[.slice ai I.length ci, .slice af F.length cf] 36)).alloc (.cells #[.int .i64 0, .int .i64 0, .int .i64 0, .slice none 0 0] 31)) = w1 at a0_1 a1_1 al_1 r0_1 rf0_1 r1_1 rf1_1 r2_1 rf2_1 r3_1 rf3_1 rl_1 c1 s1 ⊢
    have qa0_1 := cell_regrown a0_1
    have qa1_1 := cell_regrown a1_1
    have qr0_1 := cell_regrown r0_1
    have qr1_1 := cell_regrown r1_1
    have qr2_1 := cell_regrown r2_1
    have qr3_1 := cell_regrown r3_1
    clear qa0_1 qa1_1 qr0_1 qr1_1 qr2_1 qr3_1
    refine (hco _ (H0.out.later c1) (H1.out.later c1)).mono ?_
    rintro e w2 ⟨rfl, b2⟩
    have a0_2 := (b2.cell (p := ⟨w.heap.size, 0, none⟩) al_1).trans a0_1
    have a1_2 := (b2.cell (p := ⟨w.heap.size, 1, none⟩) al_1).trans a1_1
    have r0_2 := (b2.cell (p := ⟨w.heap.size + 1, 0, none⟩) rl_1).trans r0_1
    have rf0_2 := (b2.frozen (p := ⟨w.heap.size + 1, 0, none⟩) rl_1).trans rf0_1
    have r1_2 := (b2.cell (p := ⟨w.heap.size + 1, 1, none⟩) rl_1).trans r1_1
    have rf1_2 := (b2.frozen (p := ⟨w.heap.size + 1, 1, none⟩) rl_1).trans rf1_1
    have r2_2 := (b2.cell (p := ⟨w.heap.size + 1, 2, none⟩) rl_1).trans r2_1
    have rf2_2 := (b2.frozen (p := ⟨w.heap.size + 1, 2, none⟩) rl_1).trans rf2_1
    have r3_2 := (b2.cell (p := ⟨w.heap.size + 1, 3, none⟩) rl_1).trans r3_1
    have rf3_2 := (b2.frozen (p := ⟨w.heap.size + 1, 3, none⟩) rl_1).trans rf3_1
    have C2 := hid (c1.trans (b2.mono c1.size))
    have rl_2 : w.heap.size + 1 < w2.heap.size := Nat.lt_of_lt_of_le rl_1 b2.size
    clear b2 c1
    go_wp2_with fail
    refine (l5Get_any _ _ I F key _ (H0.out.later C2.out) (H1.out.later C2.out) HL.out).mono ?_
    rw [hfo]
    rintro e w3 ⟨⟨a, c, rfl, ho3⟩, b3⟩
    have r0_3 := (b3.cell (p := ⟨w.heap.size + 1, 0, none⟩) rl_2).trans r0_2
    have rf0_3 := (b3.frozen (p := ⟨w.heap.size + 1, 0, none⟩) rl_2).trans rf0_2
    have r1_3 := (b3.cell (p := ⟨w.heap.size + 1, 1, none⟩) rl_2).trans r1_2
    have rf1_3 := (b3.frozen (p := ⟨w.heap.size + 1, 1, none⟩) rl_2).trans rf1_2
    have r2_3 := (b3.cell (p := ⟨w.heap.size + 1, 2, none⟩) rl_2).trans r2_2
    have rf2_3 := (b3.frozen (p := ⟨w.heap.size + 1, 2, none⟩) rl_2).trans rf2_2
    have r3_3 := (b3.cell (p := ⟨w.heap.size + 1, 3, none⟩) rl_2).trans r3_2
    have rf3_3 := (b3.frozen (p := ⟨w.heap.size + 1, 3, none⟩) rl_2).trans rf3_2
    have HO3 := hid ho3
    have C3 := hid (C2.out.trans (b3.mono C2.out.size))
    clear b3 ho3 hfo
    go_wp2_with fail
    have e0 : ((((w3.setCell ⟨w.heap.size + 1, 0, none⟩ (.int .i64 (gk o))).setCell ⟨w.heap.size + 1, 1, none⟩ (.int .i64 (gv o))).setCell ⟨w.heap.size + 1, 2, none⟩ (.int .i64 (gn o))).setCell ⟨w.heap.size + 1, 3, none⟩ (.slice a (gl o).length c)).cell? ⟨w.heap.size + 1, 0, none⟩ = some (.int .i64 (gk o)) := by go_cell
    have e1 : ((((w3.setCell ⟨w.heap.size + 1, 0, none⟩ (.int .i64 (gk o))).setCell ⟨w.heap.size + 1, 1, none⟩ (.int .i64 (gv o))).setCell ⟨w.heap.size + 1, 2, none⟩ (.int .i64 (gn o))).setCell ⟨w.heap.size + 1, 3, none⟩ (.slice a (gl o).length c)).cell? ⟨w.heap.size + 1, 1, none⟩ = some (.int .i64 (gv o)) := by go_cell
    have e2 : ((((w3.setCell ⟨w.heap.size + 1, 0, none⟩ (.int .i64 (gk o))).setCell ⟨w.heap.size + 1, 1, none⟩ (.int .i64 (gv o))).setCell ⟨w.heap.size + 1, 2, none⟩ (.int .i64 (gn o))).setCell ⟨w.heap.size + 1, 3, none⟩ (.slice a (gl o).length c)).cell? ⟨w.heap.size + 1, 2, none⟩ = some (.int .i64 (gn o)) := by go_cell
    have e3 : ((((w3.setCell ⟨w.heap.size + 1, 0, none⟩ (.int .i64 (gk o))).setCell ⟨w.heap.size + 1, 1, none⟩ (.int .i64 (gv o))).setCell ⟨w.heap.size + 1, 2, none⟩ (.int .i64 (gn o))).setCell ⟨w.heap.size + 1, 3, none⟩ (.slice a (gl o).length c)).cell? ⟨w.heap.size + 1, 3, none⟩ = some (.slice a (gl o).length c) := by go_cell
    have HFO := hid (Own.mono ((((HO3.out.apartSet (p := ⟨w.heap.size + 1, 0, none⟩) (by show w.heap.size + 1 < w2.heap.size; omega) (.int .i64 (gk o))).apartSet (p := ⟨w.heap.size + 1, 1, none⟩) (by show w.heap.size + 1 < w2.heap.size; omega) (.int .i64 (gv o))).apartSet (p := ⟨w.heap.size + 1, 2, none⟩) (by show w.heap.size + 1 < w2.heap.size; omega) (.int .i64 (gn o))).apartSet (p := ⟨w.heap.size + 1, 3, none⟩) (by show w.heap.size + 1 < w2.heap.size; omega) (.slice a (gl o).length c)) (B' := w.heap.size) (by omega))
    have HB := hid ((((C3.out.setCell (p := ⟨w.heap.size + 1, 0, none⟩) (by show w.heap.size ≤ w.heap.size + 1; omega) (.int .i64 (gk o))).setCell (p := ⟨w.heap.size + 1, 1, none⟩) (by show w.heap.size ≤ w.heap.size + 1; omega) (.int .i64 (gv o))).setCell (p := ⟨w.heap.size + 1, 2, none⟩) (by show w.heap.size ≤ w.heap.size + 1; omega) (.int .i64 (gn o))).setCell (p := ⟨w.heap.size + 1, 3, none⟩) (by show w.heap.size ≤ w.heap.size + 1; omega) (.slice a (gl o).length c))
    refine bodyPost_ret (v := .tuple #[.agg #[.int .i64 (gk o), .int .i64 (gv o), .int .i64 (gn o), .slice a (gl o).length c], .bool (gb o)]) ?_ rfl ⟨⟨a, c, rfl, HFO.out⟩, HB.out⟩
    simp [results, Try.results8, go_sem, e0, e1, e2, e3]
end Go.Proofs.Ytnenlnadmdlcfaa

/- Part: A copy of a cache, and one without an item, as the document has them: spec.l5Cache, spec.l5Drop: contracts. Written by a program (gspc.py). -/
namespace Go.Proofs.Ytnenlnadmdlcfaa
open Go.RowKit
attribute [local go_sem ↓] Go.wp_at_zero Go.wp_at_succ

/-- A call of a Go function, as one step of a region that draws its order and holds an append too. -/
theorem step_callK {P : Program} {ops : Array Oper} {o : Oper} {a : Act} {w : World} {K : Act → World → Prop} {Q : Exit → Act → World → Prop} {E : Prop} (hgd : o.guard = none) (f : FuncId) (x : Operand) (t : TypeId)
    (ho : o.op = .call { callee := .value (.func f), args := #[x], argTypes := #[t] }) (v : Value) (hx : a.eval x = v)
    (en : ∀ args w, (callFunc f args).run P w = .ok (.enter f args) w) (R : Ending → World → Prop) (hc : Calls P f #[v] w R)
    (h : ∀ e w', R e w' → ∃ v', e = .returned v' ∧ K (a.put o.dst v') w') :
    if Region.wanted o (yielded ops a.tmps) = true then Oper.wp P o a w K Q else E := by
  have hw : Region.wanted o (yielded ops a.tmps) = true := by simp [Region.wanted, hgd]
  rw [if_pos hw]
  have hf : a.eval (.func f) = .func (.func f) #[] #[] := rfl
  unfold Oper.wp
  simp [execOp, ho, resolve, invoke, hx, hf, Deferred.ofValue, en, Oper.upon]
  refine hc.mono fun e w' hR => ?_
  obtain ⟨v', rfl, hK⟩ := h e w' hR
  exact hK

/-- Items that read so, none of them in a block of G. -/
def RdK (G : Nat → Prop) (w : World) (v : Value) (L : List KD) : Prop :=
  ∃ (ao : Option Addr) (cap : Nat), v = .slice ao L.length cap ∧ L.length ≤ maxLen ∧ (0 < L.length → ∃ b off, ao = some ⟨b, off, none⟩ ∧ b < w.heap.size ∧ ¬ G b ∧ ∀ i, i < L.length →
    ∃ p0 p1 p2 l u, L.getD i kd0 = ([p0, p1, p2], l) ∧ w.cell? ⟨b, off + i * 4, none⟩ = some (.int .i64 p0) ∧ w.cell? ⟨b, off + i * 4 + 1, none⟩ = some (.int .i64 p1) ∧ w.cell? ⟨b, off + i * 4 + 2, none⟩ = some (.int .i64 p2) ∧
      w.cell? ⟨b, off + i * 4 + 3, none⟩ = some u ∧ Rd w u l ∧ (0 < l.length → ∀ q, u.ownBlock = some q → ¬ G q))
theorem RdK.rd {G : Nat → Prop} {w : World} {v : Value} {L : List KD} (h : RdK G w v L) : RdM 4 3 true w v L := by
  obtain ⟨ao, cap, rfl, hl, hc⟩ := h
  refine ⟨ao, cap, rfl, hl, fun h0 => ?_⟩
  obtain ⟨b, off, rfl, hb, _, hcc⟩ := hc h0
  refine ⟨b, off, rfl, hb, fun i hi => ?_⟩
  obtain ⟨p0, p1, p2, l, u, hx, c0, c1, c2, c3, hu, _⟩ := hcc i hi
  rw [hx]
  refine ⟨rfl, fun j hj => ?_, fun _ => ⟨u, c3, hu⟩, fun q => (by cases q)⟩
  match j, hj with
  | 0, _ => exact c0
  | 1, _ => exact c1
  | 2, _ => exact c2
theorem RdK.only {G : Nat → Prop} {w w' : World} {v : Value} {L : List KD} (h : RdK G w v L) (ho : Only G w w') : RdK G w' v L := by
  obtain ⟨ao, cap, rfl, hl, hc⟩ := h
  refine ⟨ao, cap, rfl, hl, fun h0 => ?_⟩
  obtain ⟨b, off, rfl, hb, hbg, hcc⟩ := hc h0
  have hB := ho.block b hb hbg
  refine ⟨b, off, rfl, Nat.lt_of_lt_of_le hb ho.size, hbg, fun i hi => ?_⟩
  obtain ⟨p0, p1, p2, l, u, hx, c0, c1, c2, c3, hu, hn⟩ := hcc i hi
  exact ⟨p0, p1, p2, l, u, hx, (World.cell?_of_block (a := ⟨b, _, none⟩) hB).trans c0, (World.cell?_of_block (a := ⟨b, _, none⟩) hB).trans c1, (World.cell?_of_block (a := ⟨b, _, none⟩) hB).trans c2, (World.cell?_of_block (a := ⟨b, _, none⟩) hB).trans c3, hu.only ho hn, hn⟩
theorem RdK.later {G : Nat → Prop} {w w' : World} {v : Value} {L : List KD} (h : RdK G w v L) (hb : Below w.heap.size w w') : RdK G w' v L := h.only (Only.later hb)
theorem RowA.off {w w' : World} {B : Nat} {v : Value} {L : List KD} {xs : List Value} {us : Nat → Value} (h : RowA w B v L xs us) (hs : ∀ q, B ≤ q → q < w.heap.size → w'.heap[q]? = w.heap[q]?) : RowA w' B v L xs us :=
  ⟨row_agree h.row fun q hq => hs q (h.row.lt q hq).1 (h.row.lt q hq).2, h.len, h.num, h.kin⟩
theorem KinO.off {w w' : World} {B : Nat} {L : List KD} {us : Nat → Value} (h : KinO w B L us) (hs : ∀ q, B ≤ q → q < w.heap.size → w'.heap[q]? = w.heap[q]?) : KinO w' B L us :=
  ⟨fun i hi => (h.own i hi).agree fun q hq => hs q ((h.own i hi).block q hq).1 ((h.own i hi).block q hq).2, h.dis⟩
theorem RowA.slice {w : World} {B : Nat} {v : Value} {L : List KD} {xs : List Value} {us : Nat → Value} (h : RowA w B v L xs us) : ∃ (so : Option Addr) (sc : Nat), v = .slice so L.length sc := by
  rcases h.row.2 with ⟨rfl, hn⟩ | ⟨b, cap, cur, rfl, _⟩
  · exact ⟨none, 0, by rw [hn]⟩
  · exact ⟨_, cap, rfl⟩
theorem RowA.rdK {G : Nat → Prop} {w : World} {B : Nat} {v : Value} {L : List KD} {xs : List Value} {us : Nat → Value} (h : RowA w B v L xs us) (hg : ∀ q, v.ownBlock = some q → ¬ G q)
    (hk : ∀ i, i < L.length → Rd w (us i) (L.getD i kd0).2 ∧ (0 < (L.getD i kd0).2.length → ∀ q, (us i).ownBlock = some q → ¬ G q)) : RdK G w v L := by
  have h0 := h.row
  rcases h.row.2 with ⟨rfl, hn⟩ | ⟨b, cap, cur, rfl, hb, hg2, hnc, hcm, hcs, htake⟩
  · have : L = [] := List.eq_nil_of_length_eq_zero hn
    subst this
    exact ⟨none, 0, rfl, Nat.zero_le _, fun q => absurd q (Nat.lt_irrefl 0)⟩
  · refine ⟨_, cap, rfl, Nat.le_trans hnc hcm, fun _ => ⟨b, 0, rfl, (Array.getElem?_eq_some_iff.1 hg2).1, hg b rfl, fun i hi => ?_⟩⟩
    obtain ⟨p0, p1, p2, l, hx⟩ := kd_3k (h.len i hi)
    have n0 := h.num i hi 0 (by omega)
    have n1 := h.num i hi 1 (by omega)
    have n2 := h.num i hi 2 (by omega)
    obtain ⟨k1, k2⟩ := hk i hi
    rw [hx] at n0 n1 n2 k1 k2
    rw [Nat.zero_add]
    exact ⟨p0, p1, p2, l, us i, hx, by rw [World.ownsRow.cellAt h0 _ (by omega)]; exact n0, by rw [World.ownsRow.cellAt h0 _ (by omega)]; exact n1, by rw [World.ownsRow.cellAt h0 _ (by omega)]; exact n2, by rw [World.ownsRow.cellAt h0 _ (by omega)]; exact h.kin i hi, k1, k2⟩
theorem rowF_rd {w : World} {B g c : Nat} {F : List KD} (h : w.ownsRow B 3 1 (.slice (some ⟨g, 0, none⟩) 24 c) 24 (floC F)) (hf : FloF F) : RdM 1 1 false w (.slice (some ⟨g, 0, none⟩) 24 c) F := by
  refine ⟨some ⟨g, 0, none⟩, c, by rw [hf.1], by rw [hf.1]; decide, fun _ => ⟨g, 0, rfl, (h.lt g rfl).2, fun i hi => ?_⟩⟩
  have hi' : i < 24 := by rw [← hf.1]; exact hi
  obtain ⟨n, hn⟩ := hf.2 i hi'
  have hc := World.ownsRow.cellAt h i (by omega)
  rw [floC_get hi] at hc
  unfold flr at hc
  rw [hn] at hc ⊢
  refine ⟨rfl, fun j hj => ?_, fun q => (by cases q), fun _ => rfl⟩
  obtain rfl : j = 0 := by omega
  simpa using hc
theorem take_one {I : List KD} {k : Nat} (h : k < I.length) : I.take (k + 1) = I.take k ++ [I.getD k kd0] := by
  rw [List.take_add_one, List.getElem?_eq_getElem h, getD_at h]
  rfl
theorem len_take {I : List KD} {k : Nat} (h : k ≤ I.length) : (I.take k).length = k := by rw [List.length_take]; omega
theorem Try.infoW_int : (Try.prog.info? 3).map (fun i => (i.zero, i.size, i.bytes)) = some (some (.int .i64 0), 1, 8) := by kernel_rfl
/-- A copy: floors that may be written, items apart from them. -/
def EndL (w w' : World) (I F : List KD) (e : Ending) : Prop :=
  ∃ v g c N, e = .returned (.agg #[v, .slice (some ⟨g, 0, none⟩) 24 c]) ∧ w.heap.size ≤ g ∧ g < N ∧ N ≤ w'.heap.size ∧ w'.ownsRow w.heap.size 3 1 (.slice (some ⟨g, 0, none⟩) 24 c) 24 (floC F) ∧ RdK (fun q => q < N) w' v I

set_option maxRecDepth 100000 in
set_option maxHeartbeats 4000000 in
theorem l5Drop_any (G : Nat → Prop) (v0 : Value) (fo : Option Addr) (fn fc : Nat) (I : List KD) (key : Int) (w : World) (h : RdK G w v0 I) (hg : ∀ q, w.heap.size ≤ q → ¬ G q) (h4 : I.length ≤ 1000) :
    Calls Try.prog 41 #[.agg #[v0, .slice fo fn fc], .int .i64 key] w fun e w' => (∃ v, e = .returned (.agg #[v, .slice fo fn fc]) ∧ RdK G w' v (dropI key I)) ∧ Below w.heap.size w w' := by
  obtain ⟨i0, hi, hz0, hz1, hz2⟩ := info_parts Try.infoItem_K
  obtain ⟨ao, cap, rfl, hml, hc⟩ := h
  clear hml
  go_enter Try.func41, Try.ntmps41
  go_wp2_with fail
  have a0_1 : ((w.alloc (.cells #[.slice ao I.length cap, .slice fo fn fc] 36)).alloc (.cells #[.slice none 0 0, .slice none 0 0] 36)).cell? ⟨w.heap.size, 0, none⟩ = some (.slice ao I.length cap) := by go_cell
  have af0_1 : ((w.alloc (.cells #[.slice ao I.length cap, .slice fo fn fc] 36)).alloc (.cells #[.slice none 0 0, .slice none 0 0] 36)).frozen? ⟨w.heap.size, 0, none⟩ = false := by (first | go_cell | (simp [World.frozen?, World.alloc]; done) | rfl)
  have a1_1 : ((w.alloc (.cells #[.slice ao I.length cap, .slice fo fn fc] 36)).alloc (.cells #[.slice none 0 0, .slice none 0 0] 36)).cell? ⟨w.heap.size, 1, none⟩ = some (.slice fo fn fc) := by go_cell
  have af1_1 : ((w.alloc (.cells #[.slice ao I.length cap, .slice fo fn fc] 36)).alloc (.cells #[.slice none 0 0, .slice none 0 0] 36)).frozen? ⟨w.heap.size, 1, none⟩ = false := by (first | go_cell | (simp [World.frozen?, World.alloc]; done) | rfl)
  have al_1 : w.heap.size < ((w.alloc (.cells #[.slice ao I.length cap, .slice fo fn fc] 36)).alloc (.cells #[.slice none 0 0, .slice none 0 0] 36)).heap.size := by first | (simp; done) | (simp; omega)
  have r0_1 : ((w.alloc (.cells #[.slice ao I.length cap, .slice fo fn fc] 36)).alloc (.cells #[.slice none 0 0, .slice none 0 0] 36)).cell? ⟨w.heap.size + 1, 0, none⟩ = some (.slice none 0 0) := by go_cell
  have rf0_1 : ((w.alloc (.cells #[.slice ao I.length cap, .slice fo fn fc] 36)).alloc (.cells #[.slice none 0 0, .slice none 0 0] 36)).frozen? ⟨w.heap.size + 1, 0, none⟩ = false := by (first | go_cell | (simp [World.frozen?, World.alloc]; done) | rfl)
  have r1_1 : ((w.alloc (.cells #[.slice ao I.length cap, .slice fo fn fc] 36)).alloc (.cells #[.slice none 0 0, .slice none 0 0] 36)).cell? ⟨w.heap.size + 1, 1, none⟩ = some (.slice none 0 0) := by go_cell
  have rf1_1 : ((w.alloc (.cells #[.slice ao I.length cap, .slice fo fn fc] 36)).alloc (.cells #[.slice none 0 0, .slice none 0 0] 36)).frozen? ⟨w.heap.size + 1, 1, none⟩ = false := by (first | go_cell | (simp [World.frozen?, World.alloc]; done) | rfl)
  have rl_1 : w.heap.size + 1 < ((w.alloc (.cells #[.slice ao I.length cap, .slice fo fn fc] 36)).alloc (.cells #[.slice none 0 0, .slice none 0 0] 36)).heap.size := by first | (simp; done) | (simp; omega)
  have c1 : Below w.heap.size w ((w.alloc (.cells #[.slice ao I.length cap, .slice fo fn fc] 36)).alloc (.cells #[.slice none 0 0, .slice none 0 0] 36)) := by go_grown
  have s1 : ((w.alloc (.cells #[.slice ao I.length cap, .slice fo fn fc] 36)).alloc (.cells #[.slice none 0 0, .slice none 0 0] 36)).heap.size = w.heap.size + 2 := by simp
  generalize ((w.alloc (.cells #[.slice ao I.length cap, .slice fo fn fc] 36)).alloc (.cells #[.slice none 0 0, .slice none 0 0] 36)) = w1 at a0_1 af0_1 a1_1 af1_1 al_1 r0_1 rf0_1 r1_1 rf1_1 rl_1 c1 s1 ⊢
  have qa0_1 := cell_regrown a0_1
  have qa1_1 := cell_regrown a1_1
  have qr0_1 := cell_regrown r0_1
  have qr1_1 := cell_regrown r1_1
  clear qa0_1 qa1_1 qr0_1 qr1_1
  have S1 := hid s1
  clear s1
  have HR0 := hid (World.ownsRow_lit (e := 31) (size := 4) w1 #[] 0 (Nat.le_refl _) (Nat.zero_le _) rfl)
  have HRA : Hid (RowA (w1.alloc (.cells #[] 31)) w1.heap.size (.slice (some ⟨w.heap.size + 1 + 1, 0, none⟩) 0 0) (dropI key (I.take 0)) [] (fun _ => .bool false)) := hid ⟨by rw [show w.heap.size + 1 + 1 = w1.heap.size from by have := S1.out; omega]; exact HR0.out, fun _ h => absurd h (Nat.not_lt_zero _), fun _ h => absurd h (Nat.not_lt_zero _), fun _ h => absurd h (Nat.not_lt_zero _)⟩
  have hb01 : Below w1.heap.size w1 (w1.alloc (.cells #[] 31)) := by go_grown
  go_loopw [5, 6] (fun s i wr => ∃ (k : Nat) (xs : List Value) (us : Nat → Value), k ≤ I.length ∧ i = .int .i64 k ∧ Hid (RowA wr w1.heap.size s (dropI key (I.take k)) xs us) ∧ Hid (∀ t, t < (dropI key (I.take k)).length → Rd w (us t) ((dropI key (I.take k)).getD t kd0).2 ∧ (0 < ((dropI key (I.take k)).getD t kd0).2.length → ∀ q, (us t).ownBlock = some q → ¬ G q)) ∧ Below w1.heap.size w1 wr) (fun _ i _ => I.length - (intOf i).toNat)
  case atStart => exact ⟨0, [], _, Nat.zero_le _, rfl, HRA, hid (fun t ht => absurd ht (Nat.not_lt_zero _)), hb01⟩
  case round =>
    clear HRA HR0 hb01
    obtain ⟨k, xs, us, hk, rfl, hrow, hkin, hbel⟩ := hrel
    have a0 := (hbel.cell (p := ⟨w.heap.size, 0, none⟩) al_1).trans a0_1
    by_cases hlt : k < I.length
    · obtain ⟨b, o, rfl, hb, hbg, hcc⟩ := hc (by omega)
      obtain ⟨p0, p1, p2, l, u, hx, k0, k1, k2, k3, hu, hun⟩ := hcc k hlt
      have cw := c1.trans (hbel.mono c1.size)
      rw [← cw.cell (p := ⟨b, _, none⟩) hb] at k0 k1 k2 k3
      have hbz : b < wr.heap.size := by have := cw.size; omega
      obtain ⟨uo, uc, rfl, _⟩ := id hu
      have HU := hid hu
      have HUN := hid hun
      have ht := take_one (I := I) hlt
      rw [hx] at ht
      have hki : (k : Int) < (I.length : Int) := by omega
      have HT := hid ht
      have hLk : (dropI key (I.take k)).length ≤ 1000 := by
        have := List.length_filter_le (fun x => !isKey key x) (I.take k)
        rw [len_take hk] at this
        unfold dropI
        omega
      clear hu hun hx ht hcc
      by_cases hkk : p0 = key
      · have hne : (p0 != key) = false := by simp [hkk]
        have HD : Hid (dropI key (I.take (k + 1)) = dropI key (I.take k)) := hid (by rw [HT.out, dropI, List.filter_append, List.filter_cons_of_neg (by simp [isKey, keyK, hkk])]; simp [dropI])
        go_wp2_with fail
        go_roundw
        case rel => exact ⟨k + 1, xs, us, by omega, by go_num, by rw [HD.out]; exact hrow, by rw [HD.out]; exact hkin, hbel⟩
        case measure => simp [intOf]; omega
      · have hne : (p0 != key) = true := by simp [hkk]
        have HD : Hid (dropI key (I.take (k + 1)) = dropI key (I.take k) ++ [([p0, p1, p2], l)]) := hid (by rw [HT.out, dropI, List.filter_append, List.filter_cons_of_pos (by simp [isKey, keyK, hkk])]; simp [dropI])
        have hk1 : (dropI key (I.take k)).length + 1 ≤ maxLen := by unfold maxLen; omega
        have hk2 : ((dropI key (I.take k)).length + 1) * 48 ≤ 140737488355328 := by omega
        have HNW := hid (four_new wr p0 p1 p2 (.slice uo l.length uc))
        have B6 : Hid (Below wr.heap.size wr (wr.alloc (.cells #[.int .i64 p0, .int .i64 p1, .int .i64 p2, .slice uo l.length uc] 31))) := hid (by go_grown)
        have hW6 := hid (hrow.out.later B6.out)
        have hbs : w1.heap.size ≤ (wr.alloc (.cells #[.int .i64 p0, .int .i64 p1, .int .i64 p2, .slice uo l.length uc] 31)).heap.size := by have := B6.out.size; have := hbel.size; omega
        have HB := hid hbel
        clear hrow hbel
        go_wp2_with (first | (at_builtin; refine wpList_append_own _ rfl _ _ 34 rfl w1.heap.size 31 i0 (.agg #[.int .i64 0, .int .i64 0, .int .i64 0, .slice none 0 0]) 4 48 Try.underlying34 hi hz0 hz1 hz2 rfl (by decide) _ _ _ rfl hW6.out.row ⟨wr.heap.size, 0, none⟩ 1 1 [.int .i64 p0, .int .i64 p1, .int .i64 p2, .slice uo l.length uc] rfl rfl HNW.out (by simp [Value.oneCell']) hk1 hk2 hbs ?_; intro v7 w7 hown7 hgr7 _; obtain ⟨g7, c7, hv7⟩ := ownsRow_succ hown7; subst hv7))
        have hR8 := hid (hW6.out.add (l := l) hown7)
        have hb8 : Below w1.heap.size w1 w7 := (HB.out.trans (B6.out.mono HB.out.size)).grown hgr7 (by have := HB.out.size; have := B6.out.size; omega) (fun j ej => (hW6.out.row.lt j ej).1)
        rw [← HD.out] at hR8
        have HK8 : Hid (∀ t, t < (dropI key (I.take (k + 1))).length → Rd w (if t = (dropI key (I.take k)).length then (.slice uo l.length uc) else us t) ((dropI key (I.take (k + 1))).getD t kd0).2 ∧ (0 < ((dropI key (I.take (k + 1))).getD t kd0).2.length → ∀ q, (if t = (dropI key (I.take k)).length then (.slice uo l.length uc) else us t : Value).ownBlock = some q → ¬ G q)) := hid (fun t ht => by
          rw [HD.out] at ht ⊢
          rw [List.length_append, List.length_singleton] at ht
          by_cases e : t = (dropI key (I.take k)).length
          · rw [if_pos e, e, getD_last]
            exact ⟨HU.out, HUN.out⟩
          · rw [if_neg e, getD_init _ (by omega)]
            exact hkin.out t (by omega))
        clear hown7 hgr7 hkin
        go_roundw
        case rel => exact ⟨k + 1, _, _, by omega, by go_num, hR8, HK8, hb8⟩
        case measure => simp [intOf]; omega
    · obtain rfl : k = I.length := by omega
      rw [List.take_length] at hrow hkin
      have HRK : Hid (RdK G wr _ (dropI key I)) := hid (hrow.out.rdK (fun q hq => hg q (by have := (hrow.out.row.lt q hq).1; have := c1.size; omega)) (fun t ht => ⟨(hkin.out t ht).1.later (c1.trans (hbel.mono c1.size)), (hkin.out t ht).2⟩))
      obtain ⟨so, sc, hs, _⟩ := HRK.out
      subst hs
      have a1 := (hbel.cell (p := ⟨w.heap.size, 1, none⟩) al_1).trans a1_1
      have af0 := (hbel.frozen (p := ⟨w.heap.size, 0, none⟩) al_1).trans af0_1
      have r0 := (hbel.cell (p := ⟨w.heap.size + 1, 0, none⟩) rl_1).trans r0_1
      have r1 := (hbel.cell (p := ⟨w.heap.size + 1, 1, none⟩) rl_1).trans r1_1
      have rf0 := (hbel.frozen (p := ⟨w.heap.size + 1, 0, none⟩) rl_1).trans rf0_1
      have rf1 := (hbel.frozen (p := ⟨w.heap.size + 1, 1, none⟩) rl_1).trans rf1_1
      have CW := hid (c1.trans (hbel.mono c1.size))
      have hz := hbel.size
      clear a0_1 a1_1 r0_1 r1_1 af0_1 af1_1 rf0_1 rf1_1 hc
      go_wp2_with fail
      have O9 : Below w.heap.size w (((wr.setCell ⟨w.heap.size, 0, none⟩ (.slice so (dropI key I).length sc)).setCell ⟨w.heap.size + 1, 0, none⟩ (.slice so (dropI key I).length sc)).setCell ⟨w.heap.size + 1, 1, none⟩ (.slice fo fn fc)) := ((CW.out.setCell (p := ⟨w.heap.size, 0, none⟩) (Nat.le_refl _) _).setCell (p := ⟨w.heap.size + 1, 0, none⟩) (by show w.heap.size ≤ w.heap.size + 1; omega) _).setCell (p := ⟨w.heap.size + 1, 1, none⟩) (by show w.heap.size ≤ w.heap.size + 1; omega) _
      have R9 := (hrow.out.off (w' := (((wr.setCell ⟨w.heap.size, 0, none⟩ (.slice so (dropI key I).length sc)).setCell ⟨w.heap.size + 1, 0, none⟩ (.slice so (dropI key I).length sc)).setCell ⟨w.heap.size + 1, 1, none⟩ (.slice fo fn fc))) (fun q h1 _ => by
        have hz1 := S1.out
        exact ((Below.heap_setCell _ _ _ _ (by show q ≠ w.heap.size + 1; omega)).trans (Below.heap_setCell _ _ _ _ (by show q ≠ w.heap.size + 1; omega))).trans (Below.heap_setCell _ _ _ _ (by show q ≠ w.heap.size; omega)))).rdK (G := G) (fun q hq => hg q (by have := (hrow.out.row.lt q hq).1; have := S1.out; omega)) (fun t ht => ⟨(hkin.out t ht).1.later O9, (hkin.out t ht).2⟩)
      have e0 : (((wr.setCell ⟨w.heap.size, 0, none⟩ (.slice so (dropI key I).length sc)).setCell ⟨w.heap.size + 1, 0, none⟩ (.slice so (dropI key I).length sc)).setCell ⟨w.heap.size + 1, 1, none⟩ (.slice fo fn fc)).cell? ⟨w.heap.size + 1, 0, none⟩ = some (.slice so (dropI key I).length sc) := by go_cell
      have e1 : (((wr.setCell ⟨w.heap.size, 0, none⟩ (.slice so (dropI key I).length sc)).setCell ⟨w.heap.size + 1, 0, none⟩ (.slice so (dropI key I).length sc)).setCell ⟨w.heap.size + 1, 1, none⟩ (.slice fo fn fc)).cell? ⟨w.heap.size + 1, 1, none⟩ = some (.slice fo fn fc) := by go_cell
      exact bodyPost_ret (v := .agg #[.slice so (dropI key I).length sc, .slice fo fn fc]) (by simp [results, Try.results41, go_sem, e0, e1]) rfl ⟨⟨_, rfl, R9⟩, O9⟩

set_option maxRecDepth 100000 in
set_option maxHeartbeats 8000000 in
theorem l5Cache_any (v0 v1 : Value) (I F : List KD) (w : World) (h0 : RdM 4 3 true w v0 I) (h1 : RdM 1 1 false w v1 F) (hF : FloF F) (h4 : I.length ≤ 4) (h8 : ∀ x ∈ I, x.2.length ≤ 8) :
    Calls Try.prog 42 #[.agg #[v0, v1]] w fun e w' => EndL w w' I F e ∧ Below w.heap.size w w' := by
  obtain ⟨i0, hi, hz0, hz1, hz2⟩ := info_parts Try.infoItem_K
  obtain ⟨n0, gi, gz0, gz1, gz2⟩ := info_parts Try.infoW_int
  have HRF : Hid (∀ j u, (floC F)[j]? = some u → ∃ b o c, v1 = .slice (some ⟨b, o, none⟩) F.length c ∧ b < w.heap.size ∧ w.cell? ⟨b, o + j, none⟩ = some u) := hid (fun j u hj => by
    obtain ⟨ao, c, hv, _, hc⟩ := h1
    obtain ⟨b, o, rfl, hb, hcc⟩ := hc (by rw [hF.1]; omega)
    refine ⟨b, o, c, hv, hb, ?_⟩
    have hjl : j < F.length := by have := (List.getElem?_eq_some_iff.1 hj).1; rwa [floC_length] at this
    obtain ⟨a, ha, hca⟩ := atK_1n (hcc j hjl)
    rw [Nat.mul_one] at hca
    rw [hca, ← hj, floC_get hjl, flr, ha]
    rfl)
  obtain ⟨ao1, cf, rfl, _, hc1⟩ := h1
  obtain ⟨bf, of', rfl, hbf, _⟩ := hc1 (by rw [hF.1]; omega)
  have HFN : Hid (∀ j u, (floC F)[j]? = some u → w.cell? (((⟨bf, of', none⟩ : Addr)).add j) = some u) := hid (fun j u hj => by
    obtain ⟨b, o, c, hv, _, hcl⟩ := HRF.out j u hj
    injection hv with hv1 _ _
    injection hv1 with hv2
    injection hv2 with hb ho _
    have e : (⟨bf, of', none⟩ : Addr).add j = ⟨bf, of' + j, none⟩ := by cases j <;> simp [Addr.add]
    rw [e, hb, ho]
    exact hcl)
  rw [hF.1]
  have HF := hid hF
  obtain ⟨ao, cap, rfl, _, hc⟩ := h0
  have H8 := hid h8
  have H4 := hid h4
  clear HRF hc1 h8 hF h4
  have HLEN : Hid ((floC F).length = 24 * 1) := hid (by rw [floC_length, HF.out.1])
  go_enter Try.func42, Try.ntmps42
  go_upto_region 1 with fail
  have a0_1 : ((w.alloc (.cells #[.slice ao I.length cap, .slice (some ⟨bf, of', none⟩) 24 cf] 36)).alloc (.cells #[.slice none 0 0, .slice none 0 0] 36)).cell? ⟨w.heap.size, 0, none⟩ = some (.slice ao I.length cap) := by go_cell
  have a1_1 : ((w.alloc (.cells #[.slice ao I.length cap, .slice (some ⟨bf, of', none⟩) 24 cf] 36)).alloc (.cells #[.slice none 0 0, .slice none 0 0] 36)).cell? ⟨w.heap.size, 1, none⟩ = some (.slice (some ⟨bf, of', none⟩) 24 cf) := by go_cell
  have al_1 : w.heap.size < ((w.alloc (.cells #[.slice ao I.length cap, .slice (some ⟨bf, of', none⟩) 24 cf] 36)).alloc (.cells #[.slice none 0 0, .slice none 0 0] 36)).heap.size := by first | (simp; done) | (simp; omega)
  have r0_1 : ((w.alloc (.cells #[.slice ao I.length cap, .slice (some ⟨bf, of', none⟩) 24 cf] 36)).alloc (.cells #[.slice none 0 0, .slice none 0 0] 36)).cell? ⟨w.heap.size + 1, 0, none⟩ = some (.slice none 0 0) := by go_cell
  have rf0_1 : ((w.alloc (.cells #[.slice ao I.length cap, .slice (some ⟨bf, of', none⟩) 24 cf] 36)).alloc (.cells #[.slice none 0 0, .slice none 0 0] 36)).frozen? ⟨w.heap.size + 1, 0, none⟩ = false := by (first | go_cell | (simp [World.frozen?, World.alloc]; done) | rfl)
  have r1_1 : ((w.alloc (.cells #[.slice ao I.length cap, .slice (some ⟨bf, of', none⟩) 24 cf] 36)).alloc (.cells #[.slice none 0 0, .slice none 0 0] 36)).cell? ⟨w.heap.size + 1, 1, none⟩ = some (.slice none 0 0) := by go_cell
  have rf1_1 : ((w.alloc (.cells #[.slice ao I.length cap, .slice (some ⟨bf, of', none⟩) 24 cf] 36)).alloc (.cells #[.slice none 0 0, .slice none 0 0] 36)).frozen? ⟨w.heap.size + 1, 1, none⟩ = false := by (first | go_cell | (simp [World.frozen?, World.alloc]; done) | rfl)
  have rl_1 : w.heap.size + 1 < ((w.alloc (.cells #[.slice ao I.length cap, .slice (some ⟨bf, of', none⟩) 24 cf] 36)).alloc (.cells #[.slice none 0 0, .slice none 0 0] 36)).heap.size := by first | (simp; done) | (simp; omega)
  have c1 : Below w.heap.size w ((w.alloc (.cells #[.slice ao I.length cap, .slice (some ⟨bf, of', none⟩) 24 cf] 36)).alloc (.cells #[.slice none 0 0, .slice none 0 0] 36)) := by go_grown
  have s1 : ((w.alloc (.cells #[.slice ao I.length cap, .slice (some ⟨bf, of', none⟩) 24 cf] 36)).alloc (.cells #[.slice none 0 0, .slice none 0 0] 36)).heap.size = w.heap.size + 2 := by simp
  generalize ((w.alloc (.cells #[.slice ao I.length cap, .slice (some ⟨bf, of', none⟩) 24 cf] 36)).alloc (.cells #[.slice none 0 0, .slice none 0 0] 36)) = w1 at a0_1 a1_1 al_1 r0_1 rf0_1 r1_1 rf1_1 rl_1 c1 s1 ⊢
  have qa0_1 := cell_regrown a0_1
  have qa1_1 := cell_regrown a1_1
  have qr0_1 := cell_regrown r0_1
  have qr1_1 := cell_regrown r1_1
  clear qa0_1 qa1_1 qr0_1 qr1_1
  have S1 := hid s1
  clear s1
  have HR0 := hid (World.ownsRow_lit (e := 3) (size := 1) w1 #[] 0 (Nat.le_refl _) (Nat.zero_le _) rfl)
  have HFN1 := hid (fun j u hj => (show Below w.heap.size w (w1.alloc (.cells #[] 3)) from c1.trans ((show Below w1.heap.size w1 (w1.alloc (.cells #[] 3)) by go_grown).mono c1.size)).cell (p := (⟨bf, of', none⟩ : Addr).add j) (by cases j <;> exact hbf) |>.trans (HFN.out j u hj))
  have hbs : w1.heap.size ≤ (w1.alloc (.cells #[] 3)).heap.size := by simp
  have hk1 : 0 + 24 ≤ maxLen := by decide
  go_wp2_with (first | (at_builtin; refine wpList_append_own _ rfl _ _ 23 rfl w1.heap.size 3 n0 (.int .i64 0) 1 8 Try.underlying23 gi gz0 gz1 gz2 rfl (by decide) _ _ _ rfl HR0.out ⟨bf, of', none⟩ 24 cf (floC F) rfl HLEN.out HFN1.out (floC_one F) hk1 (by decide) hbs ?_; intro v2 w2 hown2 hgr2 _; simp only [Nat.zero_add, List.nil_append] at hown2; obtain ⟨g, cg, hv2⟩ := ownsRow_succ hown2; subst hv2; have HOW2 := hid hown2; have b2 : Below w1.heap.size w1 w2 := (((Below.refl _ w1).alloc (Nat.le_refl _) _).grown hgr2 hbs (fun j ej => (HR0.out.lt j ej).1)); have c2 : Below w.heap.size w w2 := c1.trans (b2.mono c1.size); have a0_2 := (b2.cell (p := ⟨w.heap.size, 0, none⟩) al_1).trans a0_1; have a1_2 := (b2.cell (p := ⟨w.heap.size, 1, none⟩) al_1).trans a1_1; have r0_2 := (b2.cell (p := ⟨w.heap.size + 1, 0, none⟩) rl_1).trans r0_1; have r1_2 := (b2.cell (p := ⟨w.heap.size + 1, 1, none⟩) rl_1).trans r1_1; have rf0_2 := (b2.frozen (p := ⟨w.heap.size + 1, 0, none⟩) rl_1).trans rf0_1; have rf1_2 := (b2.frozen (p := ⟨w.heap.size + 1, 1, none⟩) rl_1).trans rf1_1; have al_2 : w.heap.size < w2.heap.size := Nat.lt_of_lt_of_le al_1 b2.size; have rl_2 : w.heap.size + 1 < w2.heap.size := Nat.lt_of_lt_of_le rl_1 b2.size; clear hown2 hgr2 a0_1 a1_1 r0_1 r1_1 rf0_1 rf1_1 b2))
  have HG2 := hid (HOW2.out.lt g rfl)
  have al2 : w.heap.size < w2.heap.size := al_2
  have rl2 : w.heap.size + 1 < w2.heap.size := rl_2
  have cz1 : w.heap.size ≤ w1.heap.size := c1.size
  have o0_3 : (w2.alloc (.cells #[.slice none 0 0, .slice (some ⟨g, 0, none⟩) 24 cg] 36)).cell? ⟨w2.heap.size, 0, none⟩ = some (.slice none 0 0) := by go_cell
  have of0_3 : (w2.alloc (.cells #[.slice none 0 0, .slice (some ⟨g, 0, none⟩) 24 cg] 36)).frozen? ⟨w2.heap.size, 0, none⟩ = false := by (first | go_cell | (simp [World.frozen?, World.alloc]; done) | rfl)
  have o1_3 : (w2.alloc (.cells #[.slice none 0 0, .slice (some ⟨g, 0, none⟩) 24 cg] 36)).cell? ⟨w2.heap.size, 1, none⟩ = some (.slice (some ⟨g, 0, none⟩) 24 cg) := by go_cell
  have of1_3 : (w2.alloc (.cells #[.slice none 0 0, .slice (some ⟨g, 0, none⟩) 24 cg] 36)).frozen? ⟨w2.heap.size, 1, none⟩ = false := by (first | go_cell | (simp [World.frozen?, World.alloc]; done) | rfl)
  have ol_3 : w2.heap.size < (w2.alloc (.cells #[.slice none 0 0, .slice (some ⟨g, 0, none⟩) 24 cg] 36)).heap.size := by simp
  have d3 : Below w2.heap.size w2 (w2.alloc (.cells #[.slice none 0 0, .slice (some ⟨g, 0, none⟩) 24 cg] 36)) := by go_grown
  generalize (w2.alloc (.cells #[.slice none 0 0, .slice (some ⟨g, 0, none⟩) 24 cg] 36)) = w3 at o0_3 of0_3 o1_3 of1_3 ol_3 d3 ⊢
  have c3 : Below w.heap.size w w3 := c2.trans (d3.mono c2.size)
  have a0_3 : w3.cell? ⟨w.heap.size, 0, none⟩ = some (.slice ao I.length cap) := (by rw [d3.cell (by first | omega | (simp; done) | (simp; omega))]; go_cell)
  have a1_3 : w3.cell? ⟨w.heap.size, 1, none⟩ = some (.slice (some ⟨bf, of', none⟩) 24 cf) := (by rw [d3.cell (by first | omega | (simp; done) | (simp; omega))]; go_cell)
  have al_3 : w.heap.size < w3.heap.size := (by have := d3.size; omega)
  have r0_3 : w3.cell? ⟨w.heap.size + 1, 0, none⟩ = some (.slice none 0 0) := (by rw [d3.cell (by first | omega | (simp; done) | (simp; omega))]; go_cell)
  have rf0_3 : w3.frozen? ⟨w.heap.size + 1, 0, none⟩ = false := (by rw [d3.frozen (by first | omega | (simp; done) | (simp; omega))]; (first | go_cell | (simp [World.frozen?, World.alloc]; done) | rfl))
  have r1_3 : w3.cell? ⟨w.heap.size + 1, 1, none⟩ = some (.slice none 0 0) := (by rw [d3.cell (by first | omega | (simp; done) | (simp; omega))]; go_cell)
  have rf1_3 : w3.frozen? ⟨w.heap.size + 1, 1, none⟩ = false := (by rw [d3.frozen (by first | omega | (simp; done) | (simp; omega))]; (first | go_cell | (simp [World.frozen?, World.alloc]; done) | rfl))
  have rl_3 : w.heap.size + 1 < w3.heap.size := (by have := d3.size; omega)
  clear a0_2 a1_2 al_2 r0_2 rf0_2 r1_2 rf1_2 rl_2
  have HOW3 := hid (row_later HOW2.out d3)
  have D3 := hid d3
  clear d3 HOW2
  go_loopw [4] (fun i wr => ∃ (k : Nat) (L : List KD) (v : Value) (xs : List Value) (us : Nat → Value), k ≤ I.length ∧ i = .int .i64 k ∧ Hid (L = I.take k) ∧ Hid (wr.cell? ⟨w2.heap.size, 0, none⟩ = some v) ∧ Hid (wr.frozen? ⟨w2.heap.size, 0, none⟩ = false) ∧ Hid (wr.cell? ⟨w2.heap.size, 1, none⟩ = some (.slice (some ⟨g, 0, none⟩) 24 cg)) ∧ Hid (RowA wr w3.heap.size v L xs us) ∧ Hid (KinO wr w3.heap.size L us) ∧ Hid (Below w2.heap.size w3 wr)) (fun i _ => I.length - (intOf i).toNat)
  case atStart => exact ⟨0, [], _, [], fun _ => .bool false, Nat.zero_le _, rfl, hid (by simp), hid o0_3, hid of0_3, hid o1_3, hid (RowA.nil _ _ _), hid (KinO.nil _ _ _), hid (Below.refl _ _)⟩
  case round =>
    clear o0_3 of0_3 o1_3 of1_3
    obtain ⟨k, L, v, xs, us, hk, rfl, hL, hco, hfo, hco1, hrow, hkin, hbel⟩ := hrel
    have o0 := hco.out
    have of0 := hfo.out
    have a0 := (hbel.out.cell (p := ⟨w.heap.size, 0, none⟩) al2).trans a0_3
    have hz := hbel.out.size
    have cw := c3.trans (hbel.out.mono (show w.heap.size ≤ w2.heap.size by omega))
    by_cases hlt : k < I.length
    · obtain ⟨b, off, rfl, hb, hcc⟩ := hc (by omega)
      obtain ⟨p0, p1, p2, lx, ux, hx, k0, k1, k2, k3, hux⟩ := atK_3k ((hcc k hlt).later hb cw)
      obtain ⟨uo, uc, rfl, _⟩ := id hux
      have HU := hid hux
      have ht := take_one (I := I) hlt
      rw [hx] at ht
      have HL2 : Hid (L ++ [([p0, p1, p2], lx)] = I.take (k + 1)) := hid (by rw [hL.out, ht])
      have hmk : lx.length ≤ 1099511627776 := by
        have := H8.out (I.getD k kd0) (by rw [getD_at hlt]; exact List.getElem_mem hlt)
        rw [hx] at this
        simp only at this
        omega
      have hLk : L.length ≤ 4 := by rw [hL.out, len_take hk]; have := H4.out; omega
      have hbz : b < wr.heap.size := by have := cw.size; omega
      have hO : w2.heap.size < wr.heap.size := by omega
      have hI4 : I.length ≤ 4 := H4.out
      have hk1' : L.length + 1 ≤ maxLen := by unfold maxLen; omega
      have hk2' : (L.length + 1) * 48 ≤ 140737488355328 := by omega
      have hki : (k : Int) < (I.length : Int) := by omega
      have HKI := hid hkin.out
      have HO1 := hid hco1.out
      clear hux hx ht hcc hL hco hfo hkin hco1
      go_upto_region 5 with fail
      go_region_law (first
        | (refine step_callK rfl 54 _ _ rfl _ (by simp [Act.eval]) Try.call54 _ (l5Copy_any p0 p1 p2 _ lx _ (HU.out.later (by go_grown)) hmk) ?_; rintro e w5 ⟨⟨uo', uc', rfl, ho⟩, b5⟩; refine ⟨_, rfl, ?_⟩; have d5 : Below wr.heap.size wr w5 := (Below.refl _ wr).drew.trans b5; have HK5 := hid (hrow.out.later d5); have o0_5 := (d5.cell (p := ⟨w2.heap.size, 0, none⟩) hO).trans o0; have of0_5 := (d5.frozen (p := ⟨w2.heap.size, 0, none⟩) hO).trans of0; have HO1_5 := hid ((d5.cell (p := ⟨w2.heap.size, 1, none⟩) hO).trans HO1.out); have HO5 := hid (Own.mono ho (B' := wr.heap.size) (Nat.le_refl _)); have hz5 := d5.size; have B6 : Hid (Below wr.heap.size wr (w5.alloc (.cells #[.int .i64 p0, .int .i64 p1, .int .i64 p2, .slice uo' lx.length uc'] 31))) := hid (d5.trans ((show Below w5.heap.size w5 (w5.alloc (.cells #[.int .i64 p0, .int .i64 p1, .int .i64 p2, .slice uo' lx.length uc'] 31)) by go_grown).mono hz5)); have HK6 := hid (hrow.out.later B6.out); have HNW := hid (four_new w5 p0 p1 p2 (.slice uo' lx.length uc')); have HO6 := hid (row_later HO5.out (show Below w5.heap.size w5 (w5.alloc (.cells #[.int .i64 p0, .int .i64 p1, .int .i64 p2, .slice uo' lx.length uc'] 31)) by go_grown)); have hz6 : w3.heap.size ≤ (w5.alloc (.cells #[.int .i64 p0, .int .i64 p1, .int .i64 p2, .slice uo' lx.length uc'] 31)).heap.size := (by have := B6.out.size; omega); have o0_6 := (((Below.refl _ w5).alloc (Nat.le_refl _) (.cells #[.int .i64 p0, .int .i64 p1, .int .i64 p2, .slice uo' lx.length uc'] 31)).cell (p := ⟨w2.heap.size, 0, none⟩) (Nat.lt_of_lt_of_le hO hz5)).trans o0_5; have of0_6 := (((Below.refl _ w5).alloc (Nat.le_refl _) (.cells #[.int .i64 p0, .int .i64 p1, .int .i64 p2, .slice uo' lx.length uc'] 31)).frozen (p := ⟨w2.heap.size, 0, none⟩) (Nat.lt_of_lt_of_le hO hz5)).trans of0_5; have HO1_6 := hid ((((Below.refl _ w5).alloc (Nat.le_refl _) (.cells #[.int .i64 p0, .int .i64 p1, .int .i64 p2, .slice uo' lx.length uc'] 31)).cell (p := ⟨w2.heap.size, 1, none⟩) (Nat.lt_of_lt_of_le hO hz5)).trans HO1_5.out); have hO6 : w2.heap.size < (w5.alloc (.cells #[.int .i64 p0, .int .i64 p1, .int .i64 p2, .slice uo' lx.length uc'] 31)).heap.size := (by have := B6.out.size; omega); clear ho b5 d5)
        | (refine step_append_own rfl _ _ 34 rfl w3.heap.size 31 i0 (.agg #[.int .i64 0, .int .i64 0, .int .i64 0, .slice none 0 0]) 4 48 Try.underlying34 hi hz0 hz1 hz2 rfl (by decide) v L.length xs (by simp [Act.eval]) HK6.out.row ⟨w5.heap.size, 0, none⟩ 1 1 [.int .i64 p0, .int .i64 p1, .int .i64 p2, .slice uo' lx.length uc'] (by simp [Act.eval]) rfl HNW.out (by simp [Value.oneCell']) hk1' hk2' hz6 ?_; intro v6 w6 hown6 hgr6 _; obtain ⟨g6, c6, hv6⟩ := ownsRow_succ hown6; subst hv6; have hne : some w2.heap.size ≠ v.ownBlock := (fun e => by have := (HK6.out.row.lt _ e.symm).1; have := D3.out.size; omega); have HR7 := hid (HK6.out.add (l := lx) hown6); have HK7 := hid (HKI.out.add (a := p0) (b := p1) (c := p2) HK6.out B6.out HO6.out hz hgr6); have o0_7 := (World.cell?_of_block (a := ⟨w2.heap.size, 0, none⟩) (hgr6.block w2.heap.size hO6 hne)).trans o0_6; have of0_7 := (World.frozen?_of_block (a := ⟨w2.heap.size, 0, none⟩) (hgr6.block w2.heap.size hO6 hne)).trans of0_6; have HO1_7 := hid ((World.cell?_of_block (a := ⟨w2.heap.size, 1, none⟩) (hgr6.block w2.heap.size hO6 hne)).trans HO1_6.out); have HB7 := hid ((hbel.out.trans (B6.out.mono (by omega))).grown hgr6 (by omega) (fun j ej => by have := (HK6.out.row.lt j ej).1; omega)); clear hown6 hgr6 hne))
      all_goals
        have HR8 := hid (HR7.out.off (w' := w6.setCell ⟨w2.heap.size, 0, none⟩ (.slice (some ⟨g6, 0, none⟩) (L.length + 1) c6)) (fun q h1 _ => Below.heap_setCell _ _ _ _ (by show q ≠ w2.heap.size; have := D3.out.size; have := ol_3; omega)))
        have HK8 := hid (KinO.off (w' := w6.setCell ⟨w2.heap.size, 0, none⟩ (.slice (some ⟨g6, 0, none⟩) (L.length + 1) c6)) HK7.out (fun q h1 _ => Below.heap_setCell _ _ _ _ (by show q ≠ w2.heap.size; have := D3.out.size; have := ol_3; omega)))
        have hc8 : Hid ((w6.setCell ⟨w2.heap.size, 0, none⟩ (.slice (some ⟨g6, 0, none⟩) (L.length + 1) c6)).cell? ⟨w2.heap.size, 0, none⟩ = some (.slice (some ⟨g6, 0, none⟩) (L.length + 1) c6)) := by
          show _ = _
          go_cell
        have hd8 : Hid ((w6.setCell ⟨w2.heap.size, 0, none⟩ (.slice (some ⟨g6, 0, none⟩) (L.length + 1) c6)).cell? ⟨w2.heap.size, 1, none⟩ = some (.slice (some ⟨g, 0, none⟩) 24 cg)) := by
          have := HO1_7.out
          show _ = _
          go_cell
        have hf8 : Hid ((w6.setCell ⟨w2.heap.size, 0, none⟩ (.slice (some ⟨g6, 0, none⟩) (L.length + 1) c6)).frozen? ⟨w2.heap.size, 0, none⟩ = false) := by
          show _ = _
          simpa using of0_7
        have HB8 := hid (HB7.out.setCell (p := ⟨w2.heap.size, 0, none⟩) (Nat.le_refl _) (.slice (some ⟨g6, 0, none⟩) (L.length + 1) c6))
        clear a0_3 a1_3
        go_wp2
        go_roundw
        case rel => exact ⟨k + 1, _, _, _, _, by omega, by go_num, HL2, hc8, hf8, hd8, HR8, HK8, HB8⟩
        case measure => simp [intOf]; omega
    · obtain rfl : k = I.length := by omega
      have HLI : Hid (L = I) := hid (by rw [hL.out, List.take_length])
      obtain ⟨so, sc, hv⟩ := hrow.out.slice
      subst hv
      have o1 := hco1.out
      have r0 := (hbel.out.cell (p := ⟨w.heap.size + 1, 0, none⟩) rl2).trans r0_3
      have r1 := (hbel.out.cell (p := ⟨w.heap.size + 1, 1, none⟩) rl2).trans r1_3
      have rf0 := (hbel.out.frozen (p := ⟨w.heap.size + 1, 0, none⟩) rl2).trans rf0_3
      have rf1 := (hbel.out.frozen (p := ⟨w.heap.size + 1, 1, none⟩) rl2).trans rf1_3
      have hg1 := HG2.out.1
      have hg2 := HG2.out.2
      have z3 := ol_3
      clear a0_3 a1_3 r0_3 r1_3 rf0_3 rf1_3 hc hco hfo hco1 of0
      go_wp2_with fail
      have KB := (cw.setCell (p := ⟨w.heap.size + 1, 0, none⟩) (by show w.heap.size ≤ w.heap.size + 1; omega) (.slice so L.length sc)).setCell (p := ⟨w.heap.size + 1, 1, none⟩) (by show w.heap.size ≤ w.heap.size + 1; omega) (.slice (some ⟨g, 0, none⟩) 24 cg)
      have hoff : ∀ q, w1.heap.size ≤ q → ((wr.setCell ⟨w.heap.size + 1, 0, none⟩ (.slice so L.length sc)).setCell ⟨w.heap.size + 1, 1, none⟩ (.slice (some ⟨g, 0, none⟩) 24 cg)).heap[q]? = wr.heap[q]? := fun q hq => by
        have := S1.out
        exact (Below.heap_setCell _ _ _ _ (by show q ≠ w.heap.size + 1; omega)).trans (Below.heap_setCell _ _ _ _ (by show q ≠ w.heap.size + 1; omega))
      have hz13 : w1.heap.size ≤ w3.heap.size := by have := D3.out.size; omega
      have R9 := (hrow.out.off (fun q h1 _ => hoff q (by omega))).rdK (G := fun q => q < w3.heap.size) (fun q hq => by have := (hrow.out.row.lt q hq).1; have := D3.out.size; omega) (fun t ht => ⟨((KinO.off hkin.out (fun q h1 _ => hoff q (by omega))).own t ht).rd, fun _ q hq => by have := ((hkin.out.own t ht).block q hq).1; have := D3.out.size; omega⟩)
      have F9 := row_mono (row_agree (row_agree HOW3.out (fun q hq => by cases hq; exact hbel.out.block g hg2)) (fun q hq => hoff q (HOW3.out.lt q hq).1)) (B' := w.heap.size) cz1
      rw [← HLI.out]
      have e0 : ((wr.setCell ⟨w.heap.size + 1, 0, none⟩ (.slice so L.length sc)).setCell ⟨w.heap.size + 1, 1, none⟩ (.slice (some ⟨g, 0, none⟩) 24 cg)).cell? ⟨w.heap.size + 1, 0, none⟩ = some (.slice so L.length sc) := by go_cell
      have e1 : ((wr.setCell ⟨w.heap.size + 1, 0, none⟩ (.slice so L.length sc)).setCell ⟨w.heap.size + 1, 1, none⟩ (.slice (some ⟨g, 0, none⟩) 24 cg)).cell? ⟨w.heap.size + 1, 1, none⟩ = some (.slice (some ⟨g, 0, none⟩) 24 cg) := by go_cell
      exact bodyPost_ret (v := .agg #[.slice so L.length sc, .slice (some ⟨g, 0, none⟩) 24 cg]) (by simp [results, Try.results42, go_sem, e0, e1]) rfl ⟨⟨_, g, cg, w3.heap.size, rfl, by omega, by omega, by simp; omega, F9, R9⟩, KB⟩

/-! ### spec.CacheDrop -/
def EndR (w' : World) (I F : List KD) (e : Ending) : Prop := ∃ v0 v1, e = .returned (.agg #[v0, v1]) ∧ RSCache w' v0 v1 I F
set_option maxRecDepth 100000 in
set_option maxHeartbeats 4000000 in
theorem specCDrop_any (v0 v1 : Value) (I F : List KD) (key : Int) (w : World) (h0 : RdM 4 3 true w v0 I) (h1 : RdM 1 1 false w v1 F) {D : List KD × List KD} (hD : ansD I F key = D) :
    Calls Try.prog 16 #[.agg #[v0, v1], .int .i64 key] w fun e w' => EndR w' D.1 D.2 e ∧ Below w.heap.size w w' := by
  have H0 := hid h0
  have H1 := hid h1
  obtain ⟨ai, ci, rfl, hq0, hq1⟩ := h0
  obtain ⟨af, cf, rfl, hq2, hq3⟩ := h1
  clear hq0 hq1 hq2 hq3
  have hco := fun (W : World) (a : RdM 4 3 true W (.slice ai I.length ci) I) (b : RdM 1 1 false W (.slice af F.length cf) F) => specCOk_any _ _ I F W a b
  go_enter Try.func16, Try.ntmps16
  go_wp2_with fail
  have a0_1 : ((w.alloc (.cells #[.slice ai I.length ci, .slice af F.length cf] 36)).alloc (.cells #[.slice none 0 0, .slice none 0 0] 36)).cell? ⟨w.heap.size, 0, none⟩ = some (.slice ai I.length ci) := by go_cell
  have a1_1 : ((w.alloc (.cells #[.slice ai I.length ci, .slice af F.length cf] 36)).alloc (.cells #[.slice none 0 0, .slice none 0 0] 36)).cell? ⟨w.heap.size, 1, none⟩ = some (.slice af F.length cf) := by go_cell
  have al_1 : w.heap.size < ((w.alloc (.cells #[.slice ai I.length ci, .slice af F.length cf] 36)).alloc (.cells #[.slice none 0 0, .slice none 0 0] 36)).heap.size := by first | (simp; done) | (simp; omega)
  have r0_1 : ((w.alloc (.cells #[.slice ai I.length ci, .slice af F.length cf] 36)).alloc (.cells #[.slice none 0 0, .slice none 0 0] 36)).cell? ⟨w.heap.size + 1, 0, none⟩ = some (.slice none 0 0) := by go_cell
  have rf0_1 : ((w.alloc (.cells #[.slice ai I.length ci, .slice af F.length cf] 36)).alloc (.cells #[.slice none 0 0, .slice none 0 0] 36)).frozen? ⟨w.heap.size + 1, 0, none⟩ = false := by (first | go_cell | (simp [World.frozen?, World.alloc]; done) | rfl)
  have r1_1 : ((w.alloc (.cells #[.slice ai I.length ci, .slice af F.length cf] 36)).alloc (.cells #[.slice none 0 0, .slice none 0 0] 36)).cell? ⟨w.heap.size + 1, 1, none⟩ = some (.slice none 0 0) := by go_cell
  have rf1_1 : ((w.alloc (.cells #[.slice ai I.length ci, .slice af F.length cf] 36)).alloc (.cells #[.slice none 0 0, .slice none 0 0] 36)).frozen? ⟨w.heap.size + 1, 1, none⟩ = false := by (first | go_cell | (simp [World.frozen?, World.alloc]; done) | rfl)
  have rl_1 : w.heap.size + 1 < ((w.alloc (.cells #[.slice ai I.length ci, .slice af F.length cf] 36)).alloc (.cells #[.slice none 0 0, .slice none 0 0] 36)).heap.size := by first | (simp; done) | (simp; omega)
  have c1 : Below w.heap.size w ((w.alloc (.cells #[.slice ai I.length ci, .slice af F.length cf] 36)).alloc (.cells #[.slice none 0 0, .slice none 0 0] 36)) := by go_grown
  have s1 : ((w.alloc (.cells #[.slice ai I.length ci, .slice af F.length cf] 36)).alloc (.cells #[.slice none 0 0, .slice none 0 0] 36)).heap.size = w.heap.size + 2 := by simp
  generalize ((w.alloc (.cells #[.slice ai I.length ci, .slice af F.length cf] 36)).alloc (.cells #[.slice none 0 0, .slice none 0 0] 36)) = w1 at a0_1 a1_1 al_1 r0_1 rf0_1 r1_1 rf1_1 rl_1 c1 s1 ⊢
  have qa0_1 := cell_regrown a0_1
  have qa1_1 := cell_regrown a1_1
  have qr0_1 := cell_regrown r0_1
  have qr1_1 := cell_regrown r1_1
  clear qa0_1 qa1_1 qr0_1 qr1_1
  cases hok : okC I F with
  | false =>
    rw [hok] at hco
    obtain rfl : D = ([], []) := by rw [← hD]; simp [ansD, hok]
    refine (hco _ (H0.out.later c1) (H1.out.later c1)).mono ?_
    rintro e w2 ⟨rfl, b2⟩
    have d2 : Below w1.heap.size w1 w2 := (Below.trans (by go_grown) (b2.mono (by first | omega | (simp; done) | (simp; omega))))
    have c2 : Below w.heap.size w w2 := c1.trans (d2.mono c1.size)
    have r0_2 : w2.cell? ⟨w.heap.size + 1, 0, none⟩ = some (.slice none 0 0) := (by rw [b2.cell (by first | omega | (simp; done) | (simp; omega))]; go_cell)
    have rf0_2 : w2.frozen? ⟨w.heap.size + 1, 0, none⟩ = false := (by rw [b2.frozen (by first | omega | (simp; done) | (simp; omega))]; (first | go_cell | (simp [World.frozen?, World.alloc]; done) | rfl))
    have r1_2 : w2.cell? ⟨w.heap.size + 1, 1, none⟩ = some (.slice none 0 0) := (by rw [b2.cell (by first | omega | (simp; done) | (simp; omega))]; go_cell)
    have rf1_2 : w2.frozen? ⟨w.heap.size + 1, 1, none⟩ = false := (by rw [b2.frozen (by first | omega | (simp; done) | (simp; omega))]; (first | go_cell | (simp [World.frozen?, World.alloc]; done) | rfl))
    have rl_2 : w.heap.size + 1 < w2.heap.size := (by have := b2.size; first | omega | (revert this; simp; done) | (revert this; simp; omega))
    clear r0_1 rf0_1 r1_1 rf1_1 rl_1
    have HC := hid c2
    clear b2 d2 hco hok hD
    go_wp2_with fail
    have KB := (HC.out.setCell (p := ⟨w.heap.size + 1, 0, none⟩) (by show w.heap.size ≤ w.heap.size + 1; omega) (.slice none 0 0)).setCell (p := ⟨w.heap.size + 1, 1, none⟩) (by show w.heap.size ≤ w.heap.size + 1; omega) (.slice none 0 0)
    have e0 : ((w2.setCell ⟨w.heap.size + 1, 0, none⟩ (.slice none 0 0)).setCell ⟨w.heap.size + 1, 1, none⟩ (.slice none 0 0)).cell? ⟨w.heap.size + 1, 0, none⟩ = some (.slice none 0 0) := by go_cell
    have e1 : ((w2.setCell ⟨w.heap.size + 1, 0, none⟩ (.slice none 0 0)).setCell ⟨w.heap.size + 1, 1, none⟩ (.slice none 0 0)).cell? ⟨w.heap.size + 1, 1, none⟩ = some (.slice none 0 0) := by go_cell
    exact bodyPost_ret (v := .agg #[.slice none 0 0, .slice none 0 0]) (by simp [results, Try.results16, go_sem, e0, e1]) rfl ⟨⟨_, _, rfl, RdM.nil _ none 0, RdM.nil _ none 0⟩, KB⟩
  | true =>
    rw [hok] at hco
    obtain rfl : D = (dropI key I, F) := by rw [← hD]; simp [ansD, hok]
    have HFL := hid (floF_of H1.out (okC_iff.1 hok).1)
    have HSM := hid (okC_small hok)
    have hl4 : I.length ≤ 1000 := by have := HSM.out.1; omega
    refine (hco _ (H0.out.later c1) (H1.out.later c1)).mono ?_
    rintro e w2 ⟨rfl, b2⟩
    have d2 : Below w1.heap.size w1 w2 := (Below.trans (by go_grown) (b2.mono (by first | omega | (simp; done) | (simp; omega))))
    have c2 : Below w.heap.size w w2 := c1.trans (d2.mono c1.size)
    have a0_2 : w2.cell? ⟨w.heap.size, 0, none⟩ = some (.slice ai I.length ci) := (by rw [b2.cell (by first | omega | (simp; done) | (simp; omega))]; go_cell)
    have a1_2 : w2.cell? ⟨w.heap.size, 1, none⟩ = some (.slice af F.length cf) := (by rw [b2.cell (by first | omega | (simp; done) | (simp; omega))]; go_cell)
    have al_2 : w.heap.size < w2.heap.size := (by have := b2.size; first | omega | (revert this; simp; done) | (revert this; simp; omega))
    have r0_2 : w2.cell? ⟨w.heap.size + 1, 0, none⟩ = some (.slice none 0 0) := (by rw [b2.cell (by first | omega | (simp; done) | (simp; omega))]; go_cell)
    have rf0_2 : w2.frozen? ⟨w.heap.size + 1, 0, none⟩ = false := (by rw [b2.frozen (by first | omega | (simp; done) | (simp; omega))]; (first | go_cell | (simp [World.frozen?, World.alloc]; done) | rfl))
    have r1_2 : w2.cell? ⟨w.heap.size + 1, 1, none⟩ = some (.slice none 0 0) := (by rw [b2.cell (by first | omega | (simp; done) | (simp; omega))]; go_cell)
    have rf1_2 : w2.frozen? ⟨w.heap.size + 1, 1, none⟩ = false := (by rw [b2.frozen (by first | omega | (simp; done) | (simp; omega))]; (first | go_cell | (simp [World.frozen?, World.alloc]; done) | rfl))
    have rl_2 : w.heap.size + 1 < w2.heap.size := (by have := b2.size; first | omega | (revert this; simp; done) | (revert this; simp; omega))
    clear a0_1 a1_1 al_1 r0_1 rf0_1 r1_1 rf1_1 rl_1
    have HC2 := hid c2
    have rl2 : w.heap.size + 1 < w2.heap.size := rl_2
    clear b2 d2 hco hok hD
    go_wp2_with fail
    refine (l5Cache_any _ _ I F _ (H0.out.later HC2.out) (H1.out.later HC2.out) HFL.out HSM.out.1 HSM.out.2).mono ?_
    rintro e w3 ⟨⟨v, g, cg, N, rfl, hg1, hg2, hN, hrow, hrk⟩, b3⟩
    have HROW := hid hrow
    have HRK := hid hrk
    obtain ⟨vo, vc, hv, _⟩ := hrk
    subst hv
    have d3 : Below w2.heap.size w2 w3 := (Below.trans (by go_grown) (b3.mono (by first | omega | (simp; done) | (simp; omega))))
    have c3 : Below w.heap.size w w3 := c2.trans (d3.mono c2.size)
    have r0_3 : w3.cell? ⟨w.heap.size + 1, 0, none⟩ = some (.slice none 0 0) := (by rw [b3.cell (by first | omega | (simp; done) | (simp; omega))]; go_cell)
    have rf0_3 : w3.frozen? ⟨w.heap.size + 1, 0, none⟩ = false := (by rw [b3.frozen (by first | omega | (simp; done) | (simp; omega))]; (first | go_cell | (simp [World.frozen?, World.alloc]; done) | rfl))
    have r1_3 : w3.cell? ⟨w.heap.size + 1, 1, none⟩ = some (.slice none 0 0) := (by rw [b3.cell (by first | omega | (simp; done) | (simp; omega))]; go_cell)
    have rf1_3 : w3.frozen? ⟨w.heap.size + 1, 1, none⟩ = false := (by rw [b3.frozen (by first | omega | (simp; done) | (simp; omega))]; (first | go_cell | (simp [World.frozen?, World.alloc]; done) | rfl))
    have rl_3 : w.heap.size + 1 < w3.heap.size := (by have := b3.size; first | omega | (revert this; simp; done) | (revert this; simp; omega))
    clear r0_2 rf0_2 r1_2 rf1_2 rl_2
    have hgr : w.heap.size + 1 < N := by omega
    clear b3 d3 hrow
    go_wp2_with fail
    refine (l5Drop_any (fun q => q < N) _ (some ⟨g, 0, none⟩) 24 cg I key _ HRK.out (fun q hq hl => by omega) hl4).mono ?_
    rintro e w4 ⟨⟨x, rfl, hx⟩, b4⟩
    have HX := hid hx
    obtain ⟨xo, xc, hv, _⟩ := hx
    subst hv
    have d4 : Below w3.heap.size w3 w4 := (Below.trans (by go_grown) (b4.mono (by first | omega | (simp; done) | (simp; omega))))
    have c4 : Below w.heap.size w w4 := c3.trans (d4.mono c3.size)
    have r0_4 : w4.cell? ⟨w.heap.size + 1, 0, none⟩ = some (.slice none 0 0) := (by rw [b4.cell (by first | omega | (simp; done) | (simp; omega))]; go_cell)
    have rf0_4 : w4.frozen? ⟨w.heap.size + 1, 0, none⟩ = false := (by rw [b4.frozen (by first | omega | (simp; done) | (simp; omega))]; (first | go_cell | (simp [World.frozen?, World.alloc]; done) | rfl))
    have r1_4 : w4.cell? ⟨w.heap.size + 1, 1, none⟩ = some (.slice none 0 0) := (by rw [b4.cell (by first | omega | (simp; done) | (simp; omega))]; go_cell)
    have rf1_4 : w4.frozen? ⟨w.heap.size + 1, 1, none⟩ = false := (by rw [b4.frozen (by first | omega | (simp; done) | (simp; omega))]; (first | go_cell | (simp [World.frozen?, World.alloc]; done) | rfl))
    have rl_4 : w.heap.size + 1 < w4.heap.size := (by have := b4.size; first | omega | (revert this; simp; done) | (revert this; simp; omega))
    clear r0_3 rf0_3 r1_3 rf1_3 rl_3
    have HROW4 := hid (row_later HROW.out b4)
    have HC4 := hid c4
    clear b4 d4 HRK HROW
    go_wp2_with fail
    have KB := (HC4.out.setCell (p := ⟨w.heap.size + 1, 0, none⟩) (by show w.heap.size ≤ w.heap.size + 1; omega) (.slice xo (dropI key I).length xc)).setCell (p := ⟨w.heap.size + 1, 1, none⟩) (by show w.heap.size ≤ w.heap.size + 1; omega) (.slice (some ⟨g, 0, none⟩) 24 cg)
    have KO : Only (fun q => q < N) w4 ((w4.setCell ⟨w.heap.size + 1, 0, none⟩ (.slice xo (dropI key I).length xc)).setCell ⟨w.heap.size + 1, 1, none⟩ (.slice (some ⟨g, 0, none⟩) 24 cg)) := (Only.set (F := fun q => q < N) _ (p := ⟨w.heap.size + 1, 0, none⟩) hgr _).trans (Only.set (F := fun q => q < N) _ (p := ⟨w.heap.size + 1, 1, none⟩) hgr _)
    have R9 := (HX.out.only KO).rd
    have F9 := rowF_rd (row_agree HROW4.out (w' := ((w4.setCell ⟨w.heap.size + 1, 0, none⟩ (.slice xo (dropI key I).length xc)).setCell ⟨w.heap.size + 1, 1, none⟩ (.slice (some ⟨g, 0, none⟩) 24 cg))) (fun q hq => by cases hq; exact (Below.heap_setCell _ _ _ _ (by show g ≠ w.heap.size + 1; omega)).trans (Below.heap_setCell _ _ _ _ (by show g ≠ w.heap.size + 1; omega)))) HFL.out
    have e0 : ((w4.setCell ⟨w.heap.size + 1, 0, none⟩ (.slice xo (dropI key I).length xc)).setCell ⟨w.heap.size + 1, 1, none⟩ (.slice (some ⟨g, 0, none⟩) 24 cg)).cell? ⟨w.heap.size + 1, 0, none⟩ = some (.slice xo (dropI key I).length xc) := by go_cell
    have e1 : ((w4.setCell ⟨w.heap.size + 1, 0, none⟩ (.slice xo (dropI key I).length xc)).setCell ⟨w.heap.size + 1, 1, none⟩ (.slice (some ⟨g, 0, none⟩) 24 cg)).cell? ⟨w.heap.size + 1, 1, none⟩ = some (.slice (some ⟨g, 0, none⟩) 24 cg) := by go_cell
    exact bodyPost_ret (v := .agg #[.slice xo (dropI key I).length xc, .slice (some ⟨g, 0, none⟩) 24 cg]) (by simp [results, Try.results16, go_sem, e0, e1]) rfl ⟨⟨_, _, rfl, R9, F9⟩, KB⟩
end Go.Proofs.Ytnenlnadmdlcfaa

/- Part: The law's own helpers markItem, heldItem: contracts; how many numbers a list of elements has. -/
namespace Go.Proofs.Ytnenlnadmdlcfaa
open Go.RowKit
attribute [local go_sem ↓] Go.wp_at_zero Go.wp_at_succ

set_option maxHeartbeats 1000000 in
theorem markItem_any (p0 p1 p2 : Int) (v : Value) (l : List (Int × Int)) (k : Int) (B : Nat) (w : World) (h : Own w B v l) (hk : 0 ≤ k) (hk2 : k ≤ 1099511627776) (hl : l.length ≤ 1099511627776) :
    Calls Try.prog 14 #[.agg #[.int .i64 p0, .int .i64 p1, .int .i64 p2, v], .int .i64 k] w fun e w' => e = .returned (.int .i64 (k + 2 * (l.length : Int))) ∧ Own w' B v (markL k l.length) ∧ w.grownBy w' v.ownBlock := by
  have HO := hid (row_later h (show Below w.heap.size w (w.alloc (.cells #[.int .i64 p0, .int .i64 p1, .int .i64 p2, v] 31)) from (Below.refl _ w).alloc (Nat.le_refl _) _))
  obtain ⟨ao, cap, hv, _⟩ := h.rd
  subst hv
  clear h
  go_enter Try.func14, Try.ntmps14
  go_wp2_with fail
  refine (markVal_any p2 _ l k B _ HO.out hk hk2 hl).mono ?_
  rintro e w1 ⟨rfl, ho, hg⟩
  have HF := hid ho
  have HG := hid (grown_two (World.grownBy_alloc w (.cells #[.int .i64 p0, .int .i64 p1, .int .i64 p2, .slice ao l.length cap] 31) (Value.slice ao l.length cap).ownBlock) hg)
  clear ho hg
  go_wp2
  go_ret
  exact ⟨by simp, HF.out, HG.out⟩
set_option maxHeartbeats 1000000 in
theorem heldItem_any (p0 p1 p2 : Int) (v : Value) (m : Nat) (k : Int) (w : World) (h : Rd w v (markL k m)) (hk : 0 ≤ k) (hk2 : k ≤ 1099511627776) (hl : m ≤ 1099511627776) :
    Calls Try.prog 15 #[.agg #[.int .i64 p0, .int .i64 p1, .int .i64 p2, v], .int .i64 k] w fun e w' => e = .returned (.int .i64 (k + 2 * (m : Int))) ∧ Below w.heap.size w w' := by
  have HO := hid (h.later (show Below w.heap.size w (w.alloc (.cells #[.int .i64 p0, .int .i64 p1, .int .i64 p2, v] 31)) from (Below.refl _ w).alloc (Nat.le_refl _) _))
  obtain ⟨ao, cap, hv, _⟩ := h
  subst hv
  have b0 : Below w.heap.size w (w.alloc (.cells #[.int .i64 p0, .int .i64 p1, .int .i64 p2, .slice ao (markL k m).length cap] 31)) := (Below.refl _ w).alloc (Nat.le_refl _) _
  go_enter Try.func15, Try.ntmps15
  go_wp2_with fail
  refine (heldVal_any p2 _ m k _ HO.out hk hk2 hl).mono ?_
  rintro e w1 ⟨rfl, b1⟩
  have B1 := hid (b0.trans (b1.mono b0.size))
  have hn : ¬ (k + 2 * (m : Int) < 0) := by omega
  clear b1 b0
  go_wp2
  go_ret
  exact ⟨by simp, B1.out⟩
theorem cntM_bulk (m : Nat) (L : List KD) : cntM m L = (m : Int) * (L.length : Int) + 2 * (bulkM L : Int) := by
  induction L with
  | nil => simp [cntM, bulkM]
  | cons x r ih =>
    rw [cntM_cons, ih]
    simp only [cntK, bulkM, List.map_cons, List.sum_cons, List.length_cons]
    push_cast
    rw [Int.mul_add]
    omega
theorem ansG_small (I F : List KD) (key : Int) : (gl (ansG I F key)).length ≤ 8 := by
  unfold ansG
  split
  · next h =>
    cases hf : I.find? (fun x => keyK x == key) with
    | none => exact Nat.zero_le _
    | some x => exact (okC_small h).2 x (List.mem_of_find?_eq_some hf)
  · exact Nat.zero_le _
end Go.Proofs.Ytnenlnadmdlcfaa

/- Part: Marks on a cache that was answered; how many there are at most. Written by a program (glcd.py). -/
namespace Go.Proofs.Ytnenlnadmdlcfaa
open Go.RowKit
attribute [local go_sem ↓] Go.wp_at_zero Go.wp_at_succ

set_option maxRecDepth 100000 in
set_option maxHeartbeats 2000000 in
theorem markAns_any (a0 fv : Value) (L0 L1 : List KD) (g C : Nat) (w : World) (ha0 : OwnM 31 4 3 true w (Span (g + 1) C) a0 L0) (hf : OwnFl w g fv L1) (hgC : g < C) (hCw : C ≤ w.heap.size) (hk2 : 1 + cntM 3 L0 + cntM 1 L1 ≤ 1099511627776) :
    Calls Try.prog 13 #[.agg #[a0, fv], .int .i64 1] w fun e w' => e = .returned (.int .i64 (1 + cntM 3 L0 + cntM 1 L1)) ∧ OwnM 31 4 3 true w' (Span (g + 1) C) a0 (relM 3 1 L0) ∧ OwnFl w' g fv (relM 1 (1 + cntM 3 L0) L1) ∧ Only (Span g C) w w' := by
  have HA0 := hid ha0
  have hv0 := ha0.rd'
  have hp0 := cntM_pos 3 L0
  have hp1 := cntM_pos 1 L1
  have HF := hid hf
  obtain ⟨fo, fc, hfv⟩ := hf.slice
  subst hfv
  obtain ⟨ao0, ac0, hv, _⟩ := hv0
  subst hv
  clear ha0 hf
  go_enter Try.func13, Try.ntmps13
  go_wp2_with fail
  have a0_1 : (w.alloc (.cells #[.slice ao0 L0.length ac0, .slice fo L1.length fc] 36)).cell? ⟨w.heap.size, 0, none⟩ = some (.slice ao0 L0.length ac0) := by go_cell
  have a1_1 : (w.alloc (.cells #[.slice ao0 L0.length ac0, .slice fo L1.length fc] 36)).cell? ⟨w.heap.size, 1, none⟩ = some (.slice fo L1.length fc) := by go_cell
  have al_1 : w.heap.size < (w.alloc (.cells #[.slice ao0 L0.length ac0, .slice fo L1.length fc] 36)).heap.size := by first | (simp; done) | (simp; omega)
  have c1 : Below w.heap.size w (w.alloc (.cells #[.slice ao0 L0.length ac0, .slice fo L1.length fc] 36)) := by go_grown
  have s1 : (w.alloc (.cells #[.slice ao0 L0.length ac0, .slice fo L1.length fc] 36)).heap.size = w.heap.size + 1 := by simp
  generalize (w.alloc (.cells #[.slice ao0 L0.length ac0, .slice fo L1.length fc] 36)) = w1 at a0_1 a1_1 al_1 c1 s1 ⊢
  have qa0_1 := cell_regrown a0_1
  have qa1_1 := cell_regrown a1_1
  have HA0_1 := hid (HA0.out.later c1)
  have HF_1 := hid (HF.out.later c1)
  have HN1 : Hid (Only (Span g C) w w1) := hid (Only.later c1)
  refine (markItemS_any _ L0 1 (Span (g + 1) C) _ HA0_1.out (by omega) (by omega)).mono ?_
  rintro e w2 ⟨rfl, ho, hn⟩
  have a0_2 := (World.cell?_of_block (a := ⟨w.heap.size, 0, none⟩) (hn.block w.heap.size (by have := al_1; omega) (fun q => by have := q.2; omega))).trans a0_1
  have a1_2 := (World.cell?_of_block (a := ⟨w.heap.size, 1, none⟩) (hn.block w.heap.size (by have := al_1; omega) (fun q => by have := q.2; omega))).trans a1_1
  have al_2 : w.heap.size < w2.heap.size := Nat.lt_of_lt_of_le al_1 hn.size
  have HN2 := hid (HN1.out.trans (hn.mono (fun b hb => ⟨Nat.le_of_succ_le hb.1, hb.2⟩)))
  have HA0_2 := hid ho
  have HF_2 := hid (HF_1.out.agree (fun hg => hn.block g hg (fun q => Nat.lt_irrefl _ q.1)))
  clear ho hn HN1 HA0_1 HF_1 a0_1 a1_1
  go_wp2_with fail
  refine (markFl_any g _ L1 (1 + cntM 3 L0) _ HF_2.out (by omega) (by omega)).mono ?_
  rintro e w3 ⟨rfl, ho, hn⟩
  have HN3 := hid (HN2.out.trans (hn.mono (fun b hb => ⟨Nat.le_of_eq hb.symm, by rw [hb]; exact hgC⟩)))
  have HA0_3 := hid (HA0_2.out.only hn (fun b hb _ hc => by have := hb.1; omega))
  have HF_3 := hid ho
  clear ho hn HN2 HA0_2 HF_2 a0_2 a1_2
  go_wp2
  go_ret
  exact ⟨by simp, HA0_3.out, HF_3.out, HN3.out⟩
theorem cntM_le19 (L : List KD) (h : ∀ x ∈ L, x.2.length ≤ 8) : cntM 3 L ≤ 19 * (L.length : Int) := by
  induction L with
  | nil => simp [cntM]
  | cons x r ih =>
    have h1 := ih (fun y hy => h y (List.mem_cons_of_mem _ hy))
    have h2 := h x (List.mem_cons_self ..)
    rw [cntM_cons, List.length_cons]
    unfold cntK
    omega
theorem ansD_small {w : World} {v : Value} (I F : List KD) (key : Int) (h1 : RdM 1 1 false w v F) : 1 + cntM 3 (ansD I F key).1 + cntM 1 (ansD I F key).2 ≤ 1099511627776 := by
  unfold ansD
  split
  · rename_i hok
    have hs := okC_small hok
    have hf := (floF_of h1 (okC_iff.1 hok).1).all
    have h3 := cntM_le19 (dropI key I) (fun x hx => hs.2 x (List.mem_filter.1 hx).1)
    have h4 : (dropI key I).length ≤ I.length := List.length_filter_le _ _
    simp only
    rw [hf]
    omega
  · simp [cntM]
theorem ansF_small {w : World} {v : Value} (I F : List KD) (key ver : Int) (h1 : RdM 1 1 false w v F) : 1 + cntM 3 (ansF I F key ver).1 + cntM 1 (ansF I F key ver).2 ≤ 1099511627776 := by
  unfold ansF
  split
  · rename_i hok
    have hs := okC_small hok
    have hfl := floF_of h1 (okC_iff.1 hok).1
    split
    · rename_i hra
      have hk : 0 ≤ key ∧ key < 24 := by
        have : keyIn key = true := by simp [raB] at hra; exact hra.1
        simpa [keyIn] using this
      have hf := (hfl.set key.toNat ver (by omega)).all
      have h3 := cntM_le19 (dropI key I) (fun x hx => hs.2 x (List.mem_filter.1 hx).1)
      have h4 : (dropI key I).length ≤ I.length := List.length_filter_le _ _
      simp only [putF]
      rw [hf]
      omega
    · have h3 := cntM_le19 I hs.2
      simp only
      rw [hfl.all]
      omega
  · simp [cntM]
end Go.Proofs.Ytnenlnadmdlcfaa

/- Part: A cache with a greater floor, as the document has it: spec.l5Floor, spec.CacheFloor: contracts. Written by a program (gspf.py). -/
namespace Go.Proofs.Ytnenlnadmdlcfaa
open Go.RowKit
attribute [local go_sem ↓] Go.wp_at_zero Go.wp_at_succ

theorem RdK.weaken {G G' : Nat → Prop} {w : World} {v : Value} {L : List KD} (h : RdK G w v L) (hs : ∀ q, q < w.heap.size → G' q → G q) : RdK G' w v L := by
  obtain ⟨ao, cap, rfl, hl, hc⟩ := h
  refine ⟨ao, cap, rfl, hl, fun h0 => ?_⟩
  obtain ⟨b, off, rfl, hb, hbg, hcc⟩ := hc h0
  refine ⟨b, off, rfl, hb, fun q => hbg (hs b hb q), fun i hi => ?_⟩
  obtain ⟨p0, p1, p2, l, u, hx, c0, c1, c2, c3, hu, hn⟩ := hcc i hi
  exact ⟨p0, p1, p2, l, u, hx, c0, c1, c2, c3, hu, fun h1 q hq hG => hn h1 q hq (hs q (hu.own_lt h1 q hq) hG)⟩
set_option maxRecDepth 100000 in
set_option maxHeartbeats 4000000 in
theorem l5Floor_any (N g c B : Nat) (v0 : Value) (I F : List KD) (key ver : Int) (w : World) (hK : RdK (fun q => q < N) w v0 I) (hN : N ≤ w.heap.size) (hg : g < N) (hrow : w.ownsRow B 3 1 (.slice (some ⟨g, 0, none⟩) 24 c) 24 (floC F)) (hf : FloF F) (h4 : I.length ≤ 1000)
    {D : List KD × List KD} (hD : (if raB F key ver then (dropI key I, putF F key ver) else (I, F)) = D) :
    Calls Try.prog 47 #[.agg #[v0, .slice (some ⟨g, 0, none⟩) 24 c], .int .i64 key, .int .i64 ver] w fun e w' => (∃ v, e = .returned (.agg #[v, .slice (some ⟨g, 0, none⟩) 24 c]) ∧ RdK (fun q => q < N) w' v D.1 ∧ w'.ownsRow B 3 1 (.slice (some ⟨g, 0, none⟩) 24 c) 24 (floC D.2)) ∧ Only (fun b => b = g) w w' := by
  have HK := hid hK
  have HROW := hid hrow
  have HFL := hid hf
  obtain ⟨vo, vc, rfl, _⟩ := hK
  clear hrow hf
  by_cases hin : 0 ≤ key ∧ key < 24
  · obtain ⟨kk, rfl⟩ := Int.eq_ofNat_of_zero_le hin.1
    have hk24 : kk < 24 := by omega
    have hkl : keyIn (kk : Int) = true := by simp [keyIn]; omega
    have n0 : ¬ ((kk : Int) < 0) := by omega
    have n1 : ¬ ((kk : Int) ≥ 24) := by omega
    have HFL1 := hid (show kk < F.length from by rw [HFL.out.1]; exact hk24)
    by_cases hle : ver ≤ flr F kk
    · have hr : raB F (kk : Int) ver = false := by simp [raB, hkl]; omega
      rw [hr] at hD
      simp only [Bool.false_eq_true, if_false] at hD
      subst hD
      go_enter Try.func47, Try.ntmps47
      go_upto_region 1 with fail
      have a0_1 : ((w.alloc (.cells #[.slice vo I.length vc, .slice (some ⟨g, 0, none⟩) 24 c] 36)).alloc (.cells #[.slice none 0 0, .slice none 0 0] 36)).cell? ⟨w.heap.size, 0, none⟩ = some (.slice vo I.length vc) := by go_cell
      have a1_1 : ((w.alloc (.cells #[.slice vo I.length vc, .slice (some ⟨g, 0, none⟩) 24 c] 36)).alloc (.cells #[.slice none 0 0, .slice none 0 0] 36)).cell? ⟨w.heap.size, 1, none⟩ = some (.slice (some ⟨g, 0, none⟩) 24 c) := by go_cell
      have al_1 : w.heap.size < ((w.alloc (.cells #[.slice vo I.length vc, .slice (some ⟨g, 0, none⟩) 24 c] 36)).alloc (.cells #[.slice none 0 0, .slice none 0 0] 36)).heap.size := by first | (simp; done) | (simp; omega)
      have r0_1 : ((w.alloc (.cells #[.slice vo I.length vc, .slice (some ⟨g, 0, none⟩) 24 c] 36)).alloc (.cells #[.slice none 0 0, .slice none 0 0] 36)).cell? ⟨w.heap.size + 1, 0, none⟩ = some (.slice none 0 0) := by go_cell
      have rf0_1 : ((w.alloc (.cells #[.slice vo I.length vc, .slice (some ⟨g, 0, none⟩) 24 c] 36)).alloc (.cells #[.slice none 0 0, .slice none 0 0] 36)).frozen? ⟨w.heap.size + 1, 0, none⟩ = false := by (first | go_cell | (simp [World.frozen?, World.alloc]; done) | rfl)
      have r1_1 : ((w.alloc (.cells #[.slice vo I.length vc, .slice (some ⟨g, 0, none⟩) 24 c] 36)).alloc (.cells #[.slice none 0 0, .slice none 0 0] 36)).cell? ⟨w.heap.size + 1, 1, none⟩ = some (.slice none 0 0) := by go_cell
      have rf1_1 : ((w.alloc (.cells #[.slice vo I.length vc, .slice (some ⟨g, 0, none⟩) 24 c] 36)).alloc (.cells #[.slice none 0 0, .slice none 0 0] 36)).frozen? ⟨w.heap.size + 1, 1, none⟩ = false := by (first | go_cell | (simp [World.frozen?, World.alloc]; done) | rfl)
      have rl_1 : w.heap.size + 1 < ((w.alloc (.cells #[.slice vo I.length vc, .slice (some ⟨g, 0, none⟩) 24 c] 36)).alloc (.cells #[.slice none 0 0, .slice none 0 0] 36)).heap.size := by first | (simp; done) | (simp; omega)
      have c1 : Below w.heap.size w ((w.alloc (.cells #[.slice vo I.length vc, .slice (some ⟨g, 0, none⟩) 24 c] 36)).alloc (.cells #[.slice none 0 0, .slice none 0 0] 36)) := by go_grown
      have s1 : ((w.alloc (.cells #[.slice vo I.length vc, .slice (some ⟨g, 0, none⟩) 24 c] 36)).alloc (.cells #[.slice none 0 0, .slice none 0 0] 36)).heap.size = w.heap.size + 2 := by simp
      generalize ((w.alloc (.cells #[.slice vo I.length vc, .slice (some ⟨g, 0, none⟩) 24 c] 36)).alloc (.cells #[.slice none 0 0, .slice none 0 0] 36)) = w1 at a0_1 a1_1 al_1 r0_1 rf0_1 r1_1 rf1_1 rl_1 c1 s1 ⊢
      have qa0_1 := cell_regrown a0_1
      have qa1_1 := cell_regrown a1_1
      have qr0_1 := cell_regrown r0_1
      have qr1_1 := cell_regrown r1_1
      clear qa0_1 qa1_1 qr0_1 qr1_1
      have S1 := hid s1
      clear s1
      have HROW1 := hid (row_later HROW.out c1)
      have f1 : w1.cell? ⟨g, kk, none⟩ = some (.int .i64 (flr F kk)) := by rw [World.ownsRow.cellAt HROW1.out kk (by omega), floC_get HFL1.out]
      have C1 := hid c1
      go_wp2_with fail
      have KB := (C1.out.setCell (p := ⟨w.heap.size + 1, 0, none⟩) (by show w.heap.size ≤ w.heap.size + 1; omega) (.slice vo I.length vc)).setCell (p := ⟨w.heap.size + 1, 1, none⟩) (by show w.heap.size ≤ w.heap.size + 1; omega) (.slice (some ⟨g, 0, none⟩) 24 c)
      have e0 : ((w1.setCell ⟨w.heap.size + 1, 0, none⟩ (.slice vo I.length vc)).setCell ⟨w.heap.size + 1, 1, none⟩ (.slice (some ⟨g, 0, none⟩) 24 c)).cell? ⟨w.heap.size + 1, 0, none⟩ = some (.slice vo I.length vc) := by go_cell
      have e1 : ((w1.setCell ⟨w.heap.size + 1, 0, none⟩ (.slice vo I.length vc)).setCell ⟨w.heap.size + 1, 1, none⟩ (.slice (some ⟨g, 0, none⟩) 24 c)).cell? ⟨w.heap.size + 1, 1, none⟩ = some (.slice (some ⟨g, 0, none⟩) 24 c) := by go_cell
      exact bodyPost_ret (v := .agg #[.slice vo I.length vc, .slice (some ⟨g, 0, none⟩) 24 c]) (by simp [results, Try.results47, go_sem, e0, e1]) rfl ⟨⟨_, rfl, HK.out.later KB, row_later HROW.out KB⟩, Only.later KB⟩
    · by_cases hgt : ver > 60
      · have hr : raB F (kk : Int) ver = false := by simp [raB, hkl]; omega
        rw [hr] at hD
        simp only [Bool.false_eq_true, if_false] at hD
        subst hD
        go_enter Try.func47, Try.ntmps47
        go_upto_region 1 with fail
        have a0_1 : ((w.alloc (.cells #[.slice vo I.length vc, .slice (some ⟨g, 0, none⟩) 24 c] 36)).alloc (.cells #[.slice none 0 0, .slice none 0 0] 36)).cell? ⟨w.heap.size, 0, none⟩ = some (.slice vo I.length vc) := by go_cell
        have a1_1 : ((w.alloc (.cells #[.slice vo I.length vc, .slice (some ⟨g, 0, none⟩) 24 c] 36)).alloc (.cells #[.slice none 0 0, .slice none 0 0] 36)).cell? ⟨w.heap.size, 1, none⟩ = some (.slice (some ⟨g, 0, none⟩) 24 c) := by go_cell
        have al_1 : w.heap.size < ((w.alloc (.cells #[.slice vo I.length vc, .slice (some ⟨g, 0, none⟩) 24 c] 36)).alloc (.cells #[.slice none 0 0, .slice none 0 0] 36)).heap.size := by first | (simp; done) | (simp; omega)
        have r0_1 : ((w.alloc (.cells #[.slice vo I.length vc, .slice (some ⟨g, 0, none⟩) 24 c] 36)).alloc (.cells #[.slice none 0 0, .slice none 0 0] 36)).cell? ⟨w.heap.size + 1, 0, none⟩ = some (.slice none 0 0) := by go_cell
        have rf0_1 : ((w.alloc (.cells #[.slice vo I.length vc, .slice (some ⟨g, 0, none⟩) 24 c] 36)).alloc (.cells #[.slice none 0 0, .slice none 0 0] 36)).frozen? ⟨w.heap.size + 1, 0, none⟩ = false := by (first | go_cell | (simp [World.frozen?, World.alloc]; done) | rfl)
        have r1_1 : ((w.alloc (.cells #[.slice vo I.length vc, .slice (some ⟨g, 0, none⟩) 24 c] 36)).alloc (.cells #[.slice none 0 0, .slice none 0 0] 36)).cell? ⟨w.heap.size + 1, 1, none⟩ = some (.slice none 0 0) := by go_cell
        have rf1_1 : ((w.alloc (.cells #[.slice vo I.length vc, .slice (some ⟨g, 0, none⟩) 24 c] 36)).alloc (.cells #[.slice none 0 0, .slice none 0 0] 36)).frozen? ⟨w.heap.size + 1, 1, none⟩ = false := by (first | go_cell | (simp [World.frozen?, World.alloc]; done) | rfl)
        have rl_1 : w.heap.size + 1 < ((w.alloc (.cells #[.slice vo I.length vc, .slice (some ⟨g, 0, none⟩) 24 c] 36)).alloc (.cells #[.slice none 0 0, .slice none 0 0] 36)).heap.size := by first | (simp; done) | (simp; omega)
        have c1 : Below w.heap.size w ((w.alloc (.cells #[.slice vo I.length vc, .slice (some ⟨g, 0, none⟩) 24 c] 36)).alloc (.cells #[.slice none 0 0, .slice none 0 0] 36)) := by go_grown
        have s1 : ((w.alloc (.cells #[.slice vo I.length vc, .slice (some ⟨g, 0, none⟩) 24 c] 36)).alloc (.cells #[.slice none 0 0, .slice none 0 0] 36)).heap.size = w.heap.size + 2 := by simp
        generalize ((w.alloc (.cells #[.slice vo I.length vc, .slice (some ⟨g, 0, none⟩) 24 c] 36)).alloc (.cells #[.slice none 0 0, .slice none 0 0] 36)) = w1 at a0_1 a1_1 al_1 r0_1 rf0_1 r1_1 rf1_1 rl_1 c1 s1 ⊢
        have qa0_1 := cell_regrown a0_1
        have qa1_1 := cell_regrown a1_1
        have qr0_1 := cell_regrown r0_1
        have qr1_1 := cell_regrown r1_1
        clear qa0_1 qa1_1 qr0_1 qr1_1
        have S1 := hid s1
        clear s1
        have HROW1 := hid (row_later HROW.out c1)
        have f1 : w1.cell? ⟨g, kk, none⟩ = some (.int .i64 (flr F kk)) := by rw [World.ownsRow.cellAt HROW1.out kk (by omega), floC_get HFL1.out]
        have C1 := hid c1
        go_wp2_with fail
        have KB := (C1.out.setCell (p := ⟨w.heap.size + 1, 0, none⟩) (by show w.heap.size ≤ w.heap.size + 1; omega) (.slice vo I.length vc)).setCell (p := ⟨w.heap.size + 1, 1, none⟩) (by show w.heap.size ≤ w.heap.size + 1; omega) (.slice (some ⟨g, 0, none⟩) 24 c)
        have e0 : ((w1.setCell ⟨w.heap.size + 1, 0, none⟩ (.slice vo I.length vc)).setCell ⟨w.heap.size + 1, 1, none⟩ (.slice (some ⟨g, 0, none⟩) 24 c)).cell? ⟨w.heap.size + 1, 0, none⟩ = some (.slice vo I.length vc) := by go_cell
        have e1 : ((w1.setCell ⟨w.heap.size + 1, 0, none⟩ (.slice vo I.length vc)).setCell ⟨w.heap.size + 1, 1, none⟩ (.slice (some ⟨g, 0, none⟩) 24 c)).cell? ⟨w.heap.size + 1, 1, none⟩ = some (.slice (some ⟨g, 0, none⟩) 24 c) := by go_cell
        exact bodyPost_ret (v := .agg #[.slice vo I.length vc, .slice (some ⟨g, 0, none⟩) 24 c]) (by simp [results, Try.results47, go_sem, e0, e1]) rfl ⟨⟨_, rfl, HK.out.later KB, row_later HROW.out KB⟩, Only.later KB⟩
      · have hr : raB F (kk : Int) ver = true := by simp [raB, hkl]; omega
        rw [hr] at hD
        simp only [if_true] at hD
        subst hD
        have HIN := hid hin
        clear hin hkl hr
        go_enter Try.func47, Try.ntmps47
        go_upto_region 1 with fail
        have a0_1 : ((w.alloc (.cells #[.slice vo I.length vc, .slice (some ⟨g, 0, none⟩) 24 c] 36)).alloc (.cells #[.slice none 0 0, .slice none 0 0] 36)).cell? ⟨w.heap.size, 0, none⟩ = some (.slice vo I.length vc) := by go_cell
        have af0_1 : ((w.alloc (.cells #[.slice vo I.length vc, .slice (some ⟨g, 0, none⟩) 24 c] 36)).alloc (.cells #[.slice none 0 0, .slice none 0 0] 36)).frozen? ⟨w.heap.size, 0, none⟩ = false := by (first | go_cell | (simp [World.frozen?, World.alloc]; done) | rfl)
        have a1_1 : ((w.alloc (.cells #[.slice vo I.length vc, .slice (some ⟨g, 0, none⟩) 24 c] 36)).alloc (.cells #[.slice none 0 0, .slice none 0 0] 36)).cell? ⟨w.heap.size, 1, none⟩ = some (.slice (some ⟨g, 0, none⟩) 24 c) := by go_cell
        have af1_1 : ((w.alloc (.cells #[.slice vo I.length vc, .slice (some ⟨g, 0, none⟩) 24 c] 36)).alloc (.cells #[.slice none 0 0, .slice none 0 0] 36)).frozen? ⟨w.heap.size, 1, none⟩ = false := by (first | go_cell | (simp [World.frozen?, World.alloc]; done) | rfl)
        have al_1 : w.heap.size < ((w.alloc (.cells #[.slice vo I.length vc, .slice (some ⟨g, 0, none⟩) 24 c] 36)).alloc (.cells #[.slice none 0 0, .slice none 0 0] 36)).heap.size := by first | (simp; done) | (simp; omega)
        have r0_1 : ((w.alloc (.cells #[.slice vo I.length vc, .slice (some ⟨g, 0, none⟩) 24 c] 36)).alloc (.cells #[.slice none 0 0, .slice none 0 0] 36)).cell? ⟨w.heap.size + 1, 0, none⟩ = some (.slice none 0 0) := by go_cell
        have rf0_1 : ((w.alloc (.cells #[.slice vo I.length vc, .slice (some ⟨g, 0, none⟩) 24 c] 36)).alloc (.cells #[.slice none 0 0, .slice none 0 0] 36)).frozen? ⟨w.heap.size + 1, 0, none⟩ = false := by (first | go_cell | (simp [World.frozen?, World.alloc]; done) | rfl)
        have r1_1 : ((w.alloc (.cells #[.slice vo I.length vc, .slice (some ⟨g, 0, none⟩) 24 c] 36)).alloc (.cells #[.slice none 0 0, .slice none 0 0] 36)).cell? ⟨w.heap.size + 1, 1, none⟩ = some (.slice none 0 0) := by go_cell
        have rf1_1 : ((w.alloc (.cells #[.slice vo I.length vc, .slice (some ⟨g, 0, none⟩) 24 c] 36)).alloc (.cells #[.slice none 0 0, .slice none 0 0] 36)).frozen? ⟨w.heap.size + 1, 1, none⟩ = false := by (first | go_cell | (simp [World.frozen?, World.alloc]; done) | rfl)
        have rl_1 : w.heap.size + 1 < ((w.alloc (.cells #[.slice vo I.length vc, .slice (some ⟨g, 0, none⟩) 24 c] 36)).alloc (.cells #[.slice none 0 0, .slice none 0 0] 36)).heap.size := by first | (simp; done) | (simp; omega)
        have c1 : Below w.heap.size w ((w.alloc (.cells #[.slice vo I.length vc, .slice (some ⟨g, 0, none⟩) 24 c] 36)).alloc (.cells #[.slice none 0 0, .slice none 0 0] 36)) := by go_grown
        have s1 : ((w.alloc (.cells #[.slice vo I.length vc, .slice (some ⟨g, 0, none⟩) 24 c] 36)).alloc (.cells #[.slice none 0 0, .slice none 0 0] 36)).heap.size = w.heap.size + 2 := by simp
        generalize ((w.alloc (.cells #[.slice vo I.length vc, .slice (some ⟨g, 0, none⟩) 24 c] 36)).alloc (.cells #[.slice none 0 0, .slice none 0 0] 36)) = w1 at a0_1 af0_1 a1_1 af1_1 al_1 r0_1 rf0_1 r1_1 rf1_1 rl_1 c1 s1 ⊢
        have qa0_1 := cell_regrown a0_1
        have qa1_1 := cell_regrown a1_1
        have qr0_1 := cell_regrown r0_1
        have qr1_1 := cell_regrown r1_1
        clear qa0_1 qa1_1 qr0_1 qr1_1
        have S1 := hid s1
        have hz1 : w1.heap.size = w.heap.size + 2 := s1
        have HZ1 := hid hz1
        clear s1 hz1
        have HROW1 := hid (row_later HROW.out c1)
        have f1 : w1.cell? ⟨g, kk, none⟩ = some (.int .i64 (flr F kk)) := by rw [World.ownsRow.cellAt HROW1.out kk (by omega), floC_get HFL1.out]
        have C1 := hid c1
        have hw01 := c1.size
        have K1 := hid ((HK.out.weaken (G' := fun q => q < N ∨ (w.heap.size ≤ q ∧ q < w1.heap.size)) (fun q hq hG => hG.elim id (fun h => by omega))).later c1)
        go_wp2_with fail
        refine (l5Drop_any (fun q => q < N ∨ (w.heap.size ≤ q ∧ q < w1.heap.size)) _ (some ⟨g, 0, none⟩) 24 c I (kk : Int) _ K1.out (fun q hq hG => hG.elim (fun h => by omega) (fun h => by omega)) h4).mono ?_
        rintro e w2 ⟨⟨x, rfl, hx⟩, b2⟩
        have HX := hid hx
        obtain ⟨xo, xc, rfl, _⟩ := hx
        have d2 : Below w1.heap.size w1 w2 := (Below.trans (by go_grown) (b2.mono (by first | omega | (simp; done) | (simp; omega))))
        have c2 : Below w.heap.size w w2 := c1.trans (d2.mono c1.size)
        have a0_2 : w2.cell? ⟨w.heap.size, 0, none⟩ = some (.slice vo I.length vc) := (by rw [b2.cell (by first | omega | (simp; done) | (simp; omega))]; go_cell)
        have af0_2 : w2.frozen? ⟨w.heap.size, 0, none⟩ = false := (by rw [b2.frozen (by first | omega | (simp; done) | (simp; omega))]; (first | go_cell | (simp [World.frozen?, World.alloc]; done) | rfl))
        have a1_2 : w2.cell? ⟨w.heap.size, 1, none⟩ = some (.slice (some ⟨g, 0, none⟩) 24 c) := (by rw [b2.cell (by first | omega | (simp; done) | (simp; omega))]; go_cell)
        have af1_2 : w2.frozen? ⟨w.heap.size, 1, none⟩ = false := (by rw [b2.frozen (by first | omega | (simp; done) | (simp; omega))]; (first | go_cell | (simp [World.frozen?, World.alloc]; done) | rfl))
        have al_2 : w.heap.size < w2.heap.size := (by have := b2.size; first | omega | (revert this; simp; done) | (revert this; simp; omega))
        have r0_2 : w2.cell? ⟨w.heap.size + 1, 0, none⟩ = some (.slice none 0 0) := (by rw [b2.cell (by first | omega | (simp; done) | (simp; omega))]; go_cell)
        have rf0_2 : w2.frozen? ⟨w.heap.size + 1, 0, none⟩ = false := (by rw [b2.frozen (by first | omega | (simp; done) | (simp; omega))]; (first | go_cell | (simp [World.frozen?, World.alloc]; done) | rfl))
        have r1_2 : w2.cell? ⟨w.heap.size + 1, 1, none⟩ = some (.slice none 0 0) := (by rw [b2.cell (by first | omega | (simp; done) | (simp; omega))]; go_cell)
        have rf1_2 : w2.frozen? ⟨w.heap.size + 1, 1, none⟩ = false := (by rw [b2.frozen (by first | omega | (simp; done) | (simp; omega))]; (first | go_cell | (simp [World.frozen?, World.alloc]; done) | rfl))
        have rl_2 : w.heap.size + 1 < w2.heap.size := (by have := b2.size; first | omega | (revert this; simp; done) | (revert this; simp; omega))
        clear a0_1 af0_1 a1_1 af1_1 al_1 r0_1 rf0_1 r1_1 rf1_1 rl_1
        have HROW2 := hid (row_later HROW1.out b2)
        have HC2 := hid c2
        have hgw : g < w.heap.size := by omega
        have HGL := hid (HROW2.out.lt g rfl)
        have qf := HROW2.out.frozenAt kk
        obtain ⟨z, hz⟩ := row_cell HROW2.out kk (by omega)
        clear b2 d2 f1 HROW1 K1
        go_wp2_with fail
        have e0 : (((((w2.setCell ⟨w.heap.size, 0, none⟩ (.slice xo (dropI (kk : Int) I).length xc)).setCell ⟨w.heap.size, 1, none⟩ (.slice (some ⟨g, 0, none⟩) 24 c)).setCell ⟨g, kk, none⟩ (.int .i64 ver)).setCell ⟨w.heap.size + 1, 0, none⟩ (.slice xo (dropI (kk : Int) I).length xc)).setCell ⟨w.heap.size + 1, 1, none⟩ (.slice (some ⟨g, 0, none⟩) 24 c)).cell? ⟨w.heap.size + 1, 0, none⟩ = some (.slice xo (dropI (kk : Int) I).length xc) := by go_cell
        have e1 : (((((w2.setCell ⟨w.heap.size, 0, none⟩ (.slice xo (dropI (kk : Int) I).length xc)).setCell ⟨w.heap.size, 1, none⟩ (.slice (some ⟨g, 0, none⟩) 24 c)).setCell ⟨g, kk, none⟩ (.int .i64 ver)).setCell ⟨w.heap.size + 1, 0, none⟩ (.slice xo (dropI (kk : Int) I).length xc)).setCell ⟨w.heap.size + 1, 1, none⟩ (.slice (some ⟨g, 0, none⟩) 24 c)).cell? ⟨w.heap.size + 1, 1, none⟩ = some (.slice (some ⟨g, 0, none⟩) 24 c) := by go_cell
        have zz := HZ1.out
        have q0 : ∀ (W : World) (u : Value), Only (fun q => q < N ∨ (w.heap.size ≤ q ∧ q < w1.heap.size)) W (W.setCell ⟨w.heap.size, 0, none⟩ u) := fun W u => Only.set (F := fun q => q < N ∨ (w.heap.size ≤ q ∧ q < w1.heap.size)) W (p := ⟨w.heap.size, 0, none⟩) (Or.inr ⟨Nat.le_refl _, by show w.heap.size < _; omega⟩) u
        have q1 : ∀ (W : World) (u : Value), Only (fun q => q < N ∨ (w.heap.size ≤ q ∧ q < w1.heap.size)) W (W.setCell ⟨w.heap.size, 1, none⟩ u) := fun W u => Only.set (F := fun q => q < N ∨ (w.heap.size ≤ q ∧ q < w1.heap.size)) W (p := ⟨w.heap.size, 1, none⟩) (Or.inr ⟨Nat.le_refl _, by show w.heap.size < _; omega⟩) u
        have q2 : ∀ (W : World) (u : Value), Only (fun q => q < N ∨ (w.heap.size ≤ q ∧ q < w1.heap.size)) W (W.setCell ⟨g, kk, none⟩ u) := fun W u => Only.set (F := fun q => q < N ∨ (w.heap.size ≤ q ∧ q < w1.heap.size)) W (p := ⟨g, kk, none⟩) (Or.inl hg) u
        have q3 : ∀ (t : Nat) (W : World) (u : Value), Only (fun q => q < N ∨ (w.heap.size ≤ q ∧ q < w1.heap.size)) W (W.setCell ⟨w.heap.size + 1, t, none⟩ u) := fun t W u => Only.set (F := fun q => q < N ∨ (w.heap.size ≤ q ∧ q < w1.heap.size)) W (p := ⟨w.heap.size + 1, t, none⟩) (Or.inr ⟨by show w.heap.size ≤ w.heap.size + 1; omega, by show w.heap.size + 1 < _; omega⟩) u
        have R9 := (HX.out.only (((((q0 w2 (.slice xo (dropI (kk : Int) I).length xc)).trans (q1 _ (.slice (some ⟨g, 0, none⟩) 24 c))).trans (q2 _ (.int .i64 ver))).trans (q3 0 _ (.slice xo (dropI (kk : Int) I).length xc))).trans (q3 1 _ (.slice (some ⟨g, 0, none⟩) 24 c)))).weaken (G' := fun q => q < N) (fun q _ h => Or.inl h)
        have F3 := row_put1 (row_agree (row_agree HROW2.out (w' := w2.setCell ⟨w.heap.size, 0, none⟩ (.slice xo (dropI (kk : Int) I).length xc)) (fun q hq => by cases hq; exact Below.heap_setCell _ _ _ _ (by show g ≠ w.heap.size; omega))) (w' := (w2.setCell ⟨w.heap.size, 0, none⟩ (.slice xo (dropI (kk : Int) I).length xc)).setCell ⟨w.heap.size, 1, none⟩ (.slice (some ⟨g, 0, none⟩) 24 c)) (fun q hq => by cases hq; exact Below.heap_setCell _ _ _ _ (by show g ≠ w.heap.size; omega))) kk (.int .i64 ver)
        rw [floC_set] at F3
        have F9 := row_agree (row_agree F3 (w' := (((w2.setCell ⟨w.heap.size, 0, none⟩ (.slice xo (dropI (kk : Int) I).length xc)).setCell ⟨w.heap.size, 1, none⟩ (.slice (some ⟨g, 0, none⟩) 24 c)).setCell ⟨g, kk, none⟩ (.int .i64 ver)).setCell ⟨w.heap.size + 1, 0, none⟩ (.slice xo (dropI (kk : Int) I).length xc)) (fun q hq => by cases hq; exact Below.heap_setCell _ _ _ _ (by show g ≠ w.heap.size + 1; omega))) (w' := ((((w2.setCell ⟨w.heap.size, 0, none⟩ (.slice xo (dropI (kk : Int) I).length xc)).setCell ⟨w.heap.size, 1, none⟩ (.slice (some ⟨g, 0, none⟩) 24 c)).setCell ⟨g, kk, none⟩ (.int .i64 ver)).setCell ⟨w.heap.size + 1, 0, none⟩ (.slice xo (dropI (kk : Int) I).length xc)).setCell ⟨w.heap.size + 1, 1, none⟩ (.slice (some ⟨g, 0, none⟩) 24 c)) (fun q hq => by cases hq; exact Below.heap_setCell _ _ _ _ (by show g ≠ w.heap.size + 1; omega))
        have O9 : Only (fun b => b = g) w (((((w2.setCell ⟨w.heap.size, 0, none⟩ (.slice xo (dropI (kk : Int) I).length xc)).setCell ⟨w.heap.size, 1, none⟩ (.slice (some ⟨g, 0, none⟩) 24 c)).setCell ⟨g, kk, none⟩ (.int .i64 ver)).setCell ⟨w.heap.size + 1, 0, none⟩ (.slice xo (dropI (kk : Int) I).length xc)).setCell ⟨w.heap.size + 1, 1, none⟩ (.slice (some ⟨g, 0, none⟩) 24 c)) := by
          refine ⟨HC2.out.os, HC2.out.tape, HC2.out.output, by have := HC2.out.size; simp; exact this, fun q hq hne => ?_⟩
          exact (Below.heap_setCell _ _ _ _ (by show q ≠ w.heap.size + 1; omega)).trans ((Below.heap_setCell _ _ _ _ (by show q ≠ w.heap.size + 1; omega)).trans ((Below.heap_setCell _ _ _ _ (by show q ≠ g; exact hne)).trans ((Below.heap_setCell _ _ _ _ (by show q ≠ w.heap.size; omega)).trans ((Below.heap_setCell _ _ _ _ (by show q ≠ w.heap.size; omega)).trans (HC2.out.block q hq)))))
        exact bodyPost_ret (v := .agg #[.slice xo (dropI (kk : Int) I).length xc, .slice (some ⟨g, 0, none⟩) 24 c]) (by simp [results, Try.results47, go_sem, e0, e1]) rfl ⟨⟨_, rfl, R9, F9⟩, O9⟩
  · have hkl : keyIn key = false := by
      cases h : keyIn key with
      | false => rfl
      | true => exact absurd (by simpa [keyIn] using h) hin
    have hr : raB F key ver = false := by simp [raB, hkl]
    rw [hr] at hD
    simp only [Bool.false_eq_true, if_false] at hD
    subst hD
    by_cases n0 : key < 0
    · skip
      go_enter Try.func47, Try.ntmps47
      go_upto_region 1 with fail
      have a0_1 : ((w.alloc (.cells #[.slice vo I.length vc, .slice (some ⟨g, 0, none⟩) 24 c] 36)).alloc (.cells #[.slice none 0 0, .slice none 0 0] 36)).cell? ⟨w.heap.size, 0, none⟩ = some (.slice vo I.length vc) := by go_cell
      have a1_1 : ((w.alloc (.cells #[.slice vo I.length vc, .slice (some ⟨g, 0, none⟩) 24 c] 36)).alloc (.cells #[.slice none 0 0, .slice none 0 0] 36)).cell? ⟨w.heap.size, 1, none⟩ = some (.slice (some ⟨g, 0, none⟩) 24 c) := by go_cell
      have al_1 : w.heap.size < ((w.alloc (.cells #[.slice vo I.length vc, .slice (some ⟨g, 0, none⟩) 24 c] 36)).alloc (.cells #[.slice none 0 0, .slice none 0 0] 36)).heap.size := by first | (simp; done) | (simp; omega)
      have r0_1 : ((w.alloc (.cells #[.slice vo I.length vc, .slice (some ⟨g, 0, none⟩) 24 c] 36)).alloc (.cells #[.slice none 0 0, .slice none 0 0] 36)).cell? ⟨w.heap.size + 1, 0, none⟩ = some (.slice none 0 0) := by go_cell
      have rf0_1 : ((w.alloc (.cells #[.slice vo I.length vc, .slice (some ⟨g, 0, none⟩) 24 c] 36)).alloc (.cells #[.slice none 0 0, .slice none 0 0] 36)).frozen? ⟨w.heap.size + 1, 0, none⟩ = false := by (first | go_cell | (simp [World.frozen?, World.alloc]; done) | rfl)
      have r1_1 : ((w.alloc (.cells #[.slice vo I.length vc, .slice (some ⟨g, 0, none⟩) 24 c] 36)).alloc (.cells #[.slice none 0 0, .slice none 0 0] 36)).cell? ⟨w.heap.size + 1, 1, none⟩ = some (.slice none 0 0) := by go_cell
      have rf1_1 : ((w.alloc (.cells #[.slice vo I.length vc, .slice (some ⟨g, 0, none⟩) 24 c] 36)).alloc (.cells #[.slice none 0 0, .slice none 0 0] 36)).frozen? ⟨w.heap.size + 1, 1, none⟩ = false := by (first | go_cell | (simp [World.frozen?, World.alloc]; done) | rfl)
      have rl_1 : w.heap.size + 1 < ((w.alloc (.cells #[.slice vo I.length vc, .slice (some ⟨g, 0, none⟩) 24 c] 36)).alloc (.cells #[.slice none 0 0, .slice none 0 0] 36)).heap.size := by first | (simp; done) | (simp; omega)
      have c1 : Below w.heap.size w ((w.alloc (.cells #[.slice vo I.length vc, .slice (some ⟨g, 0, none⟩) 24 c] 36)).alloc (.cells #[.slice none 0 0, .slice none 0 0] 36)) := by go_grown
      have s1 : ((w.alloc (.cells #[.slice vo I.length vc, .slice (some ⟨g, 0, none⟩) 24 c] 36)).alloc (.cells #[.slice none 0 0, .slice none 0 0] 36)).heap.size = w.heap.size + 2 := by simp
      generalize ((w.alloc (.cells #[.slice vo I.length vc, .slice (some ⟨g, 0, none⟩) 24 c] 36)).alloc (.cells #[.slice none 0 0, .slice none 0 0] 36)) = w1 at a0_1 a1_1 al_1 r0_1 rf0_1 r1_1 rf1_1 rl_1 c1 s1 ⊢
      have qa0_1 := cell_regrown a0_1
      have qa1_1 := cell_regrown a1_1
      have qr0_1 := cell_regrown r0_1
      have qr1_1 := cell_regrown r1_1
      clear qa0_1 qa1_1 qr0_1 qr1_1
      have S1 := hid s1
      clear s1
      have C1 := hid c1
      go_wp2_with fail
      have KB := (C1.out.setCell (p := ⟨w.heap.size + 1, 0, none⟩) (by show w.heap.size ≤ w.heap.size + 1; omega) (.slice vo I.length vc)).setCell (p := ⟨w.heap.size + 1, 1, none⟩) (by show w.heap.size ≤ w.heap.size + 1; omega) (.slice (some ⟨g, 0, none⟩) 24 c)
      have e0 : ((w1.setCell ⟨w.heap.size + 1, 0, none⟩ (.slice vo I.length vc)).setCell ⟨w.heap.size + 1, 1, none⟩ (.slice (some ⟨g, 0, none⟩) 24 c)).cell? ⟨w.heap.size + 1, 0, none⟩ = some (.slice vo I.length vc) := by go_cell
      have e1 : ((w1.setCell ⟨w.heap.size + 1, 0, none⟩ (.slice vo I.length vc)).setCell ⟨w.heap.size + 1, 1, none⟩ (.slice (some ⟨g, 0, none⟩) 24 c)).cell? ⟨w.heap.size + 1, 1, none⟩ = some (.slice (some ⟨g, 0, none⟩) 24 c) := by go_cell
      exact bodyPost_ret (v := .agg #[.slice vo I.length vc, .slice (some ⟨g, 0, none⟩) 24 c]) (by simp [results, Try.results47, go_sem, e0, e1]) rfl ⟨⟨_, rfl, HK.out.later KB, row_later HROW.out KB⟩, Only.later KB⟩
    · have n1 : key ≥ 24 := by omega
      go_enter Try.func47, Try.ntmps47
      go_upto_region 1 with fail
      have a0_1 : ((w.alloc (.cells #[.slice vo I.length vc, .slice (some ⟨g, 0, none⟩) 24 c] 36)).alloc (.cells #[.slice none 0 0, .slice none 0 0] 36)).cell? ⟨w.heap.size, 0, none⟩ = some (.slice vo I.length vc) := by go_cell
      have a1_1 : ((w.alloc (.cells #[.slice vo I.length vc, .slice (some ⟨g, 0, none⟩) 24 c] 36)).alloc (.cells #[.slice none 0 0, .slice none 0 0] 36)).cell? ⟨w.heap.size, 1, none⟩ = some (.slice (some ⟨g, 0, none⟩) 24 c) := by go_cell
      have al_1 : w.heap.size < ((w.alloc (.cells #[.slice vo I.length vc, .slice (some ⟨g, 0, none⟩) 24 c] 36)).alloc (.cells #[.slice none 0 0, .slice none 0 0] 36)).heap.size := by first | (simp; done) | (simp; omega)
      have r0_1 : ((w.alloc (.cells #[.slice vo I.length vc, .slice (some ⟨g, 0, none⟩) 24 c] 36)).alloc (.cells #[.slice none 0 0, .slice none 0 0] 36)).cell? ⟨w.heap.size + 1, 0, none⟩ = some (.slice none 0 0) := by go_cell
      have rf0_1 : ((w.alloc (.cells #[.slice vo I.length vc, .slice (some ⟨g, 0, none⟩) 24 c] 36)).alloc (.cells #[.slice none 0 0, .slice none 0 0] 36)).frozen? ⟨w.heap.size + 1, 0, none⟩ = false := by (first | go_cell | (simp [World.frozen?, World.alloc]; done) | rfl)
      have r1_1 : ((w.alloc (.cells #[.slice vo I.length vc, .slice (some ⟨g, 0, none⟩) 24 c] 36)).alloc (.cells #[.slice none 0 0, .slice none 0 0] 36)).cell? ⟨w.heap.size + 1, 1, none⟩ = some (.slice none 0 0) := by go_cell
      have rf1_1 : ((w.alloc (.cells #[.slice vo I.length vc, .slice (some ⟨g, 0, none⟩) 24 c] 36)).alloc (.cells #[.slice none 0 0, .slice none 0 0] 36)).frozen? ⟨w.heap.size + 1, 1, none⟩ = false := by (first | go_cell | (simp [World.frozen?, World.alloc]; done) | rfl)
      have rl_1 : w.heap.size + 1 < ((w.alloc (.cells #[.slice vo I.length vc, .slice (some ⟨g, 0, none⟩) 24 c] 36)).alloc (.cells #[.slice none 0 0, .slice none 0 0] 36)).heap.size := by first | (simp; done) | (simp; omega)
      have c1 : Below w.heap.size w ((w.alloc (.cells #[.slice vo I.length vc, .slice (some ⟨g, 0, none⟩) 24 c] 36)).alloc (.cells #[.slice none 0 0, .slice none 0 0] 36)) := by go_grown
      have s1 : ((w.alloc (.cells #[.slice vo I.length vc, .slice (some ⟨g, 0, none⟩) 24 c] 36)).alloc (.cells #[.slice none 0 0, .slice none 0 0] 36)).heap.size = w.heap.size + 2 := by simp
      generalize ((w.alloc (.cells #[.slice vo I.length vc, .slice (some ⟨g, 0, none⟩) 24 c] 36)).alloc (.cells #[.slice none 0 0, .slice none 0 0] 36)) = w1 at a0_1 a1_1 al_1 r0_1 rf0_1 r1_1 rf1_1 rl_1 c1 s1 ⊢
      have qa0_1 := cell_regrown a0_1
      have qa1_1 := cell_regrown a1_1
      have qr0_1 := cell_regrown r0_1
      have qr1_1 := cell_regrown r1_1
      clear qa0_1 qa1_1 qr0_1 qr1_1
      have S1 := hid s1
      clear s1
      have C1 := hid c1
      go_wp2_with fail
      have KB := (C1.out.setCell (p := ⟨w.heap.size + 1, 0, none⟩) (by show w.heap.size ≤ w.heap.size + 1; omega) (.slice vo I.length vc)).setCell (p := ⟨w.heap.size + 1, 1, none⟩) (by show w.heap.size ≤ w.heap.size + 1; omega) (.slice (some ⟨g, 0, none⟩) 24 c)
      have e0 : ((w1.setCell ⟨w.heap.size + 1, 0, none⟩ (.slice vo I.length vc)).setCell ⟨w.heap.size + 1, 1, none⟩ (.slice (some ⟨g, 0, none⟩) 24 c)).cell? ⟨w.heap.size + 1, 0, none⟩ = some (.slice vo I.length vc) := by go_cell
      have e1 : ((w1.setCell ⟨w.heap.size + 1, 0, none⟩ (.slice vo I.length vc)).setCell ⟨w.heap.size + 1, 1, none⟩ (.slice (some ⟨g, 0, none⟩) 24 c)).cell? ⟨w.heap.size + 1, 1, none⟩ = some (.slice (some ⟨g, 0, none⟩) 24 c) := by go_cell
      exact bodyPost_ret (v := .agg #[.slice vo I.length vc, .slice (some ⟨g, 0, none⟩) 24 c]) (by simp [results, Try.results47, go_sem, e0, e1]) rfl ⟨⟨_, rfl, HK.out.later KB, row_later HROW.out KB⟩, Only.later KB⟩

/-! ### spec.CacheFloor -/
set_option maxRecDepth 100000 in
set_option maxHeartbeats 4000000 in
theorem specCFloor_any (v0 v1 : Value) (I F : List KD) (key ver : Int) (w : World) (h0 : RdM 4 3 true w v0 I) (h1 : RdM 1 1 false w v1 F) {D : List KD × List KD} (hD : ansF I F key ver = D) :
    Calls Try.prog 19 #[.agg #[v0, v1], .int .i64 key, .int .i64 ver] w fun e w' => EndR w' D.1 D.2 e ∧ Below w.heap.size w w' := by
  have H0 := hid h0
  have H1 := hid h1
  obtain ⟨ai, ci, rfl, hq0, hq1⟩ := h0
  obtain ⟨af, cf, rfl, hq2, hq3⟩ := h1
  clear hq0 hq1 hq2 hq3
  have hco := fun (W : World) (a : RdM 4 3 true W (.slice ai I.length ci) I) (b : RdM 1 1 false W (.slice af F.length cf) F) => specCOk_any _ _ I F W a b
  go_enter Try.func19, Try.ntmps19
  go_wp2_with fail
  have a0_1 : ((w.alloc (.cells #[.slice ai I.length ci, .slice af F.length cf] 36)).alloc (.cells #[.slice none 0 0, .slice none 0 0] 36)).cell? ⟨w.heap.size, 0, none⟩ = some (.slice ai I.length ci) := by go_cell
  have a1_1 : ((w.alloc (.cells #[.slice ai I.length ci, .slice af F.length cf] 36)).alloc (.cells #[.slice none 0 0, .slice none 0 0] 36)).cell? ⟨w.heap.size, 1, none⟩ = some (.slice af F.length cf) := by go_cell
  have al_1 : w.heap.size < ((w.alloc (.cells #[.slice ai I.length ci, .slice af F.length cf] 36)).alloc (.cells #[.slice none 0 0, .slice none 0 0] 36)).heap.size := by first | (simp; done) | (simp; omega)
  have r0_1 : ((w.alloc (.cells #[.slice ai I.length ci, .slice af F.length cf] 36)).alloc (.cells #[.slice none 0 0, .slice none 0 0] 36)).cell? ⟨w.heap.size + 1, 0, none⟩ = some (.slice none 0 0) := by go_cell
  have rf0_1 : ((w.alloc (.cells #[.slice ai I.length ci, .slice af F.length cf] 36)).alloc (.cells #[.slice none 0 0, .slice none 0 0] 36)).frozen? ⟨w.heap.size + 1, 0, none⟩ = false := by (first | go_cell | (simp [World.frozen?, World.alloc]; done) | rfl)
  have r1_1 : ((w.alloc (.cells #[.slice ai I.length ci, .slice af F.length cf] 36)).alloc (.cells #[.slice none 0 0, .slice none 0 0] 36)).cell? ⟨w.heap.size + 1, 1, none⟩ = some (.slice none 0 0) := by go_cell
  have rf1_1 : ((w.alloc (.cells #[.slice ai I.length ci, .slice af F.length cf] 36)).alloc (.cells #[.slice none 0 0, .slice none 0 0] 36)).frozen? ⟨w.heap.size + 1, 1, none⟩ = false := by (first | go_cell | (simp [World.frozen?, World.alloc]; done) | rfl)
  have rl_1 : w.heap.size + 1 < ((w.alloc (.cells #[.slice ai I.length ci, .slice af F.length cf] 36)).alloc (.cells #[.slice none 0 0, .slice none 0 0] 36)).heap.size := by first | (simp; done) | (simp; omega)
  have c1 : Below w.heap.size w ((w.alloc (.cells #[.slice ai I.length ci, .slice af F.length cf] 36)).alloc (.cells #[.slice none 0 0, .slice none 0 0] 36)) := by go_grown
  have s1 : ((w.alloc (.cells #[.slice ai I.length ci, .slice af F.length cf] 36)).alloc (.cells #[.slice none 0 0, .slice none 0 0] 36)).heap.size = w.heap.size + 2 := by simp
  generalize ((w.alloc (.cells #[.slice ai I.length ci, .slice af F.length cf] 36)).alloc (.cells #[.slice none 0 0, .slice none 0 0] 36)) = w1 at a0_1 a1_1 al_1 r0_1 rf0_1 r1_1 rf1_1 rl_1 c1 s1 ⊢
  have qa0_1 := cell_regrown a0_1
  have qa1_1 := cell_regrown a1_1
  have qr0_1 := cell_regrown r0_1
  have qr1_1 := cell_regrown r1_1
  clear qa0_1 qa1_1 qr0_1 qr1_1
  cases hok : okC I F with
  | false =>
    rw [hok] at hco
    obtain rfl : D = ([], []) := by rw [← hD]; simp [ansF, hok]
    refine (hco _ (H0.out.later c1) (H1.out.later c1)).mono ?_
    rintro e w2 ⟨rfl, b2⟩
    have d2 : Below w1.heap.size w1 w2 := (Below.trans (by go_grown) (b2.mono (by first | omega | (simp; done) | (simp; omega))))
    have c2 : Below w.heap.size w w2 := c1.trans (d2.mono c1.size)
    have r0_2 : w2.cell? ⟨w.heap.size + 1, 0, none⟩ = some (.slice none 0 0) := (by rw [b2.cell (by first | omega | (simp; done) | (simp; omega))]; go_cell)
    have rf0_2 : w2.frozen? ⟨w.heap.size + 1, 0, none⟩ = false := (by rw [b2.frozen (by first | omega | (simp; done) | (simp; omega))]; (first | go_cell | (simp [World.frozen?, World.alloc]; done) | rfl))
    have r1_2 : w2.cell? ⟨w.heap.size + 1, 1, none⟩ = some (.slice none 0 0) := (by rw [b2.cell (by first | omega | (simp; done) | (simp; omega))]; go_cell)
    have rf1_2 : w2.frozen? ⟨w.heap.size + 1, 1, none⟩ = false := (by rw [b2.frozen (by first | omega | (simp; done) | (simp; omega))]; (first | go_cell | (simp [World.frozen?, World.alloc]; done) | rfl))
    have rl_2 : w.heap.size + 1 < w2.heap.size := (by have := b2.size; first | omega | (revert this; simp; done) | (revert this; simp; omega))
    clear r0_1 rf0_1 r1_1 rf1_1 rl_1
    have HC := hid c2
    clear b2 d2 hco hok hD
    go_wp2_with fail
    have KB := (HC.out.setCell (p := ⟨w.heap.size + 1, 0, none⟩) (by show w.heap.size ≤ w.heap.size + 1; omega) (.slice none 0 0)).setCell (p := ⟨w.heap.size + 1, 1, none⟩) (by show w.heap.size ≤ w.heap.size + 1; omega) (.slice none 0 0)
    have e0 : ((w2.setCell ⟨w.heap.size + 1, 0, none⟩ (.slice none 0 0)).setCell ⟨w.heap.size + 1, 1, none⟩ (.slice none 0 0)).cell? ⟨w.heap.size + 1, 0, none⟩ = some (.slice none 0 0) := by go_cell
    have e1 : ((w2.setCell ⟨w.heap.size + 1, 0, none⟩ (.slice none 0 0)).setCell ⟨w.heap.size + 1, 1, none⟩ (.slice none 0 0)).cell? ⟨w.heap.size + 1, 1, none⟩ = some (.slice none 0 0) := by go_cell
    exact bodyPost_ret (v := .agg #[.slice none 0 0, .slice none 0 0]) (by simp [results, Try.results19, go_sem, e0, e1]) rfl ⟨⟨_, _, rfl, RdM.nil _ none 0, RdM.nil _ none 0⟩, KB⟩
  | true =>
    rw [hok] at hco
    have hD' : (if raB F key ver then (dropI key I, putF F key ver) else (I, F)) = D := by rw [← hD]; simp [ansF, hok]
    have HFP : Hid (FloF D.2) := hid (by
      rw [← hD']
      have hfl := floF_of H1.out (okC_iff.1 hok).1
      split
      · rename_i hra
        have hk : 0 ≤ key ∧ key < 24 := by
          have : keyIn key = true := by simp [raB] at hra; exact hra.1
          simpa [keyIn] using this
        exact hfl.set _ _ (by omega)
      · exact hfl)
    have HFL := hid (floF_of H1.out (okC_iff.1 hok).1)
    have HSM := hid (okC_small hok)
    have hl4 : I.length ≤ 1000 := by have := HSM.out.1; omega
    refine (hco _ (H0.out.later c1) (H1.out.later c1)).mono ?_
    rintro e w2 ⟨rfl, b2⟩
    have d2 : Below w1.heap.size w1 w2 := (Below.trans (by go_grown) (b2.mono (by first | omega | (simp; done) | (simp; omega))))
    have c2 : Below w.heap.size w w2 := c1.trans (d2.mono c1.size)
    have a0_2 : w2.cell? ⟨w.heap.size, 0, none⟩ = some (.slice ai I.length ci) := (by rw [b2.cell (by first | omega | (simp; done) | (simp; omega))]; go_cell)
    have a1_2 : w2.cell? ⟨w.heap.size, 1, none⟩ = some (.slice af F.length cf) := (by rw [b2.cell (by first | omega | (simp; done) | (simp; omega))]; go_cell)
    have al_2 : w.heap.size < w2.heap.size := (by have := b2.size; first | omega | (revert this; simp; done) | (revert this; simp; omega))
    have r0_2 : w2.cell? ⟨w.heap.size + 1, 0, none⟩ = some (.slice none 0 0) := (by rw [b2.cell (by first | omega | (simp; done) | (simp; omega))]; go_cell)
    have rf0_2 : w2.frozen? ⟨w.heap.size + 1, 0, none⟩ = false := (by rw [b2.frozen (by first | omega | (simp; done) | (simp; omega))]; (first | go_cell | (simp [World.frozen?, World.alloc]; done) | rfl))
    have r1_2 : w2.cell? ⟨w.heap.size + 1, 1, none⟩ = some (.slice none 0 0) := (by rw [b2.cell (by first | omega | (simp; done) | (simp; omega))]; go_cell)
    have rf1_2 : w2.frozen? ⟨w.heap.size + 1, 1, none⟩ = false := (by rw [b2.frozen (by first | omega | (simp; done) | (simp; omega))]; (first | go_cell | (simp [World.frozen?, World.alloc]; done) | rfl))
    have rl_2 : w.heap.size + 1 < w2.heap.size := (by have := b2.size; first | omega | (revert this; simp; done) | (revert this; simp; omega))
    clear a0_1 a1_1 al_1 r0_1 rf0_1 r1_1 rf1_1 rl_1
    have HC2 := hid c2
    have rl2 : w.heap.size + 1 < w2.heap.size := rl_2
    clear b2 d2 hco hok hD
    go_wp2_with fail
    refine (l5Cache_any _ _ I F _ (H0.out.later HC2.out) (H1.out.later HC2.out) HFL.out HSM.out.1 HSM.out.2).mono ?_
    rintro e w3 ⟨⟨v, g, cg, N, rfl, hg1, hg2, hN, hrow, hrk⟩, b3⟩
    have HROW := hid hrow
    have HRK := hid hrk
    obtain ⟨vo, vc, hv, _⟩ := hrk
    subst hv
    have d3 : Below w2.heap.size w2 w3 := (Below.trans (by go_grown) (b3.mono (by first | omega | (simp; done) | (simp; omega))))
    have c3 : Below w.heap.size w w3 := c2.trans (d3.mono c2.size)
    have r0_3 : w3.cell? ⟨w.heap.size + 1, 0, none⟩ = some (.slice none 0 0) := (by rw [b3.cell (by first | omega | (simp; done) | (simp; omega))]; go_cell)
    have rf0_3 : w3.frozen? ⟨w.heap.size + 1, 0, none⟩ = false := (by rw [b3.frozen (by first | omega | (simp; done) | (simp; omega))]; (first | go_cell | (simp [World.frozen?, World.alloc]; done) | rfl))
    have r1_3 : w3.cell? ⟨w.heap.size + 1, 1, none⟩ = some (.slice none 0 0) := (by rw [b3.cell (by first | omega | (simp; done) | (simp; omega))]; go_cell)
    have rf1_3 : w3.frozen? ⟨w.heap.size + 1, 1, none⟩ = false := (by rw [b3.frozen (by first | omega | (simp; done) | (simp; omega))]; (first | go_cell | (simp [World.frozen?, World.alloc]; done) | rfl))
    have rl_3 : w.heap.size + 1 < w3.heap.size := (by have := b3.size; first | omega | (revert this; simp; done) | (revert this; simp; omega))
    clear r0_2 rf0_2 r1_2 rf1_2 rl_2
    have hgr : w.heap.size + 1 < N := by omega
    clear b3 d3 hrow
    go_wp2_with fail
    refine (l5Floor_any N g cg _ _ I F key ver _ HRK.out hN hg2 HROW.out HFL.out hl4 hD').mono ?_
    rintro e w4 ⟨⟨x, rfl, hx, hrow4⟩, o4⟩
    have HX := hid hx
    have HROW4 := hid hrow4
    obtain ⟨xo, xc, hv, _⟩ := hx
    subst hv
    obtain ⟨I', F'⟩ := D
    simp only at HX HROW4 HFP ⊢
    have hne : ¬ w.heap.size + 1 = g := by omega
    have r0_4 := (World.cell?_of_block (a := ⟨w.heap.size + 1, 0, none⟩) (o4.block (w.heap.size + 1) rl_3 hne)).trans r0_3
    have r1_4 := (World.cell?_of_block (a := ⟨w.heap.size + 1, 1, none⟩) (o4.block (w.heap.size + 1) rl_3 hne)).trans r1_3
    have rf0_4 := (World.frozen?_of_block (a := ⟨w.heap.size + 1, 0, none⟩) (o4.block (w.heap.size + 1) rl_3 hne)).trans rf0_3
    have rf1_4 := (World.frozen?_of_block (a := ⟨w.heap.size + 1, 1, none⟩) (o4.block (w.heap.size + 1) rl_3 hne)).trans rf1_3
    have HC4 := hid (c3.trans (o4.below (B := w.heap.size) (fun q hq => by omega) c3.size))
    clear o4 hrow4 HRK HROW r0_3 r1_3 rf0_3 rf1_3 hD'
    go_wp2_with fail
    have KB := (HC4.out.setCell (p := ⟨w.heap.size + 1, 0, none⟩) (by show w.heap.size ≤ w.heap.size + 1; omega) (.slice xo I'.length xc)).setCell (p := ⟨w.heap.size + 1, 1, none⟩) (by show w.heap.size ≤ w.heap.size + 1; omega) (.slice (some ⟨g, 0, none⟩) 24 cg)
    have KO : Only (fun q => q < N) w4 ((w4.setCell ⟨w.heap.size + 1, 0, none⟩ (.slice xo I'.length xc)).setCell ⟨w.heap.size + 1, 1, none⟩ (.slice (some ⟨g, 0, none⟩) 24 cg)) := (Only.set (F := fun q => q < N) _ (p := ⟨w.heap.size + 1, 0, none⟩) hgr _).trans (Only.set (F := fun q => q < N) _ (p := ⟨w.heap.size + 1, 1, none⟩) hgr _)
    have R9 := (HX.out.only KO).rd
    have F9 := rowF_rd (row_agree HROW4.out (w' := ((w4.setCell ⟨w.heap.size + 1, 0, none⟩ (.slice xo I'.length xc)).setCell ⟨w.heap.size + 1, 1, none⟩ (.slice (some ⟨g, 0, none⟩) 24 cg))) (fun q hq => by cases hq; exact (Below.heap_setCell _ _ _ _ (by show g ≠ w.heap.size + 1; omega)).trans (Below.heap_setCell _ _ _ _ (by show g ≠ w.heap.size + 1; omega)))) HFP.out
    have e0 : ((w4.setCell ⟨w.heap.size + 1, 0, none⟩ (.slice xo I'.length xc)).setCell ⟨w.heap.size + 1, 1, none⟩ (.slice (some ⟨g, 0, none⟩) 24 cg)).cell? ⟨w.heap.size + 1, 0, none⟩ = some (.slice xo I'.length xc) := by go_cell
    have e1 : ((w4.setCell ⟨w.heap.size + 1, 0, none⟩ (.slice xo I'.length xc)).setCell ⟨w.heap.size + 1, 1, none⟩ (.slice (some ⟨g, 0, none⟩) 24 cg)).cell? ⟨w.heap.size + 1, 1, none⟩ = some (.slice (some ⟨g, 0, none⟩) 24 cg) := by go_cell
    exact bodyPost_ret (v := .agg #[.slice xo I'.length xc, .slice (some ⟨g, 0, none⟩) 24 cg]) (by simp [results, Try.results19, go_sem, e0, e1]) rfl ⟨⟨_, _, rfl, R9, F9⟩, KB⟩
end Go.Proofs.Ytnenlnadmdlcfaa

/- Part: The law FnExactCacheFloor: its walk. Written by a program (glcd.py). -/
namespace Go.Proofs.Ytnenlnadmdlcfaa
open Go.RowKit
attribute [local go_sem ↓] Go.wp_at_zero Go.wp_at_succ

set_option maxRecDepth 100000 in
set_option maxHeartbeats 8000000 in
theorem lawCFloor_any (va0 va1 : Value) (A0 A1 : List KD) (key ver : Int) (w : World) (ha : RSCache w va0 va1 A0 A1) :
    Calls Try.prog 5 #[.agg #[va0, va1], .int .i64 key, .int .i64 ver] w fun e w' => e = .returned (.bool true) ∧ Below w.heap.size w w' := by
  have HA := hid ha
  have hM := ansF_small A0 A1 key ver ha.h1
  obtain ⟨ao0, ao1, ac0, ac1, rfl, rfl⟩ := ha.open
  have SD := fun (v0 v1 : Value) (W : World) (h0 : RdM 4 3 true W v0 A0) (h1 : RdM 1 1 false W v1 A1) => specCFloor_any v0 v1 A0 A1 key ver W h0 h1 rfl
  have ID := fun (v0 v1 : Value) (W : World) (h0 : RdM 4 3 true W v0 A0) (h1 : RdM 1 1 false W v1 A1) => implCFloor_any v0 v1 A0 A1 key ver W h0 h1 rfl
  unfold EndR at SD
  unfold EndC at ID
  generalize ansF A0 A1 key ver = D at SD ID hM
  obtain ⟨L0, L1⟩ := D
  simp only at SD ID hM
  have HM := hid hM
  have hpL0 := cntM_pos 3 L0
  have hpL1 := cntM_pos 1 L1
  go_enter Try.func5, Try.ntmps5
  go_wp2_with fail
  have a0_1 : (w.alloc (.cells #[.slice ao0 A0.length ac0, .slice ao1 A1.length ac1] 25)).cell? ⟨w.heap.size, 0, none⟩ = some (.slice ao0 A0.length ac0) := by go_cell
  have a1_1 : (w.alloc (.cells #[.slice ao0 A0.length ac0, .slice ao1 A1.length ac1] 25)).cell? ⟨w.heap.size, 1, none⟩ = some (.slice ao1 A1.length ac1) := by go_cell
  have al_1 : w.heap.size < (w.alloc (.cells #[.slice ao0 A0.length ac0, .slice ao1 A1.length ac1] 25)).heap.size := by first | (simp; done) | (simp; omega)
  have c1 : Below w.heap.size w (w.alloc (.cells #[.slice ao0 A0.length ac0, .slice ao1 A1.length ac1] 25)) := by go_grown
  have s1 : (w.alloc (.cells #[.slice ao0 A0.length ac0, .slice ao1 A1.length ac1] 25)).heap.size = w.heap.size + 1 := by simp
  generalize (w.alloc (.cells #[.slice ao0 A0.length ac0, .slice ao1 A1.length ac1] 25)) = w1 at a0_1 a1_1 al_1 c1 s1 ⊢
  have qa0_1 := cell_regrown a0_1
  have qa1_1 := cell_regrown a1_1
  refine (szCache_rd _ _ A0 A1 _ _ (HA.out.later c1) (by omega) (by omega)).mono ?_
  rintro e w2 ⟨hs, b2⟩
  have d2 : Below w1.heap.size w1 w2 := (Below.trans (by go_grown) (b2.mono (by first | omega | (simp; done) | (simp; omega))))
  have c2 : Below w.heap.size w w2 := c1.trans (d2.mono c1.size)
  have a0_2 : w2.cell? ⟨w.heap.size, 0, none⟩ = some (.slice ao0 A0.length ac0) := (by rw [b2.cell (by first | omega | (simp; done) | (simp; omega))]; go_cell)
  have a1_2 : w2.cell? ⟨w.heap.size, 1, none⟩ = some (.slice ao1 A1.length ac1) := (by rw [b2.cell (by first | omega | (simp; done) | (simp; omega))]; go_cell)
  have al_2 : w.heap.size < w2.heap.size := (by have := b2.size; first | omega | (revert this; simp; done) | (revert this; simp; omega))
  clear a0_1 a1_1 al_1
  clear b2 d2
  rcases hs with ⟨r, rfl, hr0, hr1, hA⟩ | rfl
  · have HLA := hid hA
    have hr2 : ¬ (r < 0) := by omega
    have hb0 := hA A0 (by simp)
    have hb1 := hA A1 (by simp)
    have hk0 : ∀ i, i < A0.length → (A0.getD i kd0).2.length ≤ 1048576 := fun i hi => by have := bulkM_get A0 i hi; omega
    have hc0 := cntM_bulk 3 A0
    have hc1 := cntM_bulk 1 A1
    have hp0 := cntM_pos 3 A0
    have hp1 := cntM_pos 1 A1
    have HN := hid (show 1 + cntM 3 A0 + cntM 1 A1 ≤ 1099511627776 from by omega)
    have HK0 := hid hk0
    have HC := hid (And.intro hb0 hb1)
    have HP := hid (And.intro hp0 hp1)
    have HPL := hid (And.intro hpL0 hpL1)
    clear hA hb0 hb1 hk0 hc0 hc1 hp0 hp1 hpL0 hpL1 hM
    clear hr0 hr1
    go_wp2_with fail
    refine (toCache_rd _ _ A0 A1 _ (HA.out.later c2) HLA.out).mono ?_
    rintro e w3 ⟨⟨zo0, zo1, zc0, zc1, rfl, oa⟩, b3⟩
    have RZ_3 := hid oa
    clear oa
    have d3 : Below w2.heap.size w2 w3 := (Below.trans (by go_grown) (b3.mono (by first | omega | (simp; done) | (simp; omega))))
    have c3 : Below w.heap.size w w3 := c2.trans (d3.mono c2.size)
    have a0_3 : w3.cell? ⟨w.heap.size, 0, none⟩ = some (.slice ao0 A0.length ac0) := (by rw [b3.cell (by first | omega | (simp; done) | (simp; omega))]; go_cell)
    have a1_3 : w3.cell? ⟨w.heap.size, 1, none⟩ = some (.slice ao1 A1.length ac1) := (by rw [b3.cell (by first | omega | (simp; done) | (simp; omega))]; go_cell)
    have al_3 : w.heap.size < w3.heap.size := (by have := b3.size; first | omega | (revert this; simp; done) | (revert this; simp; omega))
    clear a0_2 a1_2 al_2
    clear b3 d3
    go_wp2_with fail
    refine (SD _ _ _ RZ_3.out.h0 RZ_3.out.h1).mono ?_
    rintro e w4 ⟨⟨sv0, sv1, rfl, hso⟩, b4⟩
    obtain ⟨so, sf, sc, sd, hv0, hv1⟩ := hso.open
    subst hv0 hv1
    have d4 : Below w3.heap.size w3 w4 := (Below.trans (by go_grown) (b4.mono (by first | omega | (simp; done) | (simp; omega))))
    have c4 : Below w.heap.size w w4 := c3.trans (d4.mono c3.size)
    have a0_4 : w4.cell? ⟨w.heap.size, 0, none⟩ = some (.slice ao0 A0.length ac0) := (by rw [b4.cell (by first | omega | (simp; done) | (simp; omega))]; go_cell)
    have a1_4 : w4.cell? ⟨w.heap.size, 1, none⟩ = some (.slice ao1 A1.length ac1) := (by rw [b4.cell (by first | omega | (simp; done) | (simp; omega))]; go_cell)
    have al_4 : w.heap.size < w4.heap.size := (by have := b4.size; first | omega | (revert this; simp; done) | (revert this; simp; omega))
    clear a0_3 a1_3 al_3
    have RS_4 := hid hso
    clear b4 d4 hso RZ_3
    go_wp2_with fail
    have s0_5 : (w4.alloc (.cells #[.slice so L0.length sc, .slice sf L1.length sd] 36)).cell? ⟨w4.heap.size, 0, none⟩ = some (.slice so L0.length sc) := by go_cell
    have s1_5 : (w4.alloc (.cells #[.slice so L0.length sc, .slice sf L1.length sd] 36)).cell? ⟨w4.heap.size, 1, none⟩ = some (.slice sf L1.length sd) := by go_cell
    have sl_5 : w4.heap.size < (w4.alloc (.cells #[.slice so L0.length sc, .slice sf L1.length sd] 36)).heap.size := by simp
    have d5 : Below w4.heap.size w4 (w4.alloc (.cells #[.slice so L0.length sc, .slice sf L1.length sd] 36)) := by go_grown
    generalize (w4.alloc (.cells #[.slice so L0.length sc, .slice sf L1.length sd] 36)) = w5 at s0_5 s1_5 sl_5 d5 ⊢
    have c5 : Below w.heap.size w w5 := c4.trans (d5.mono c4.size)
    have a0_5 : w5.cell? ⟨w.heap.size, 0, none⟩ = some (.slice ao0 A0.length ac0) := (by rw [d5.cell (by first | omega | (simp; done) | (simp; omega))]; go_cell)
    have a1_5 : w5.cell? ⟨w.heap.size, 1, none⟩ = some (.slice ao1 A1.length ac1) := (by rw [d5.cell (by first | omega | (simp; done) | (simp; omega))]; go_cell)
    have al_5 : w.heap.size < w5.heap.size := (by have := d5.size; omega)
    clear a0_4 a1_4 al_4
    have RS_5 := hid (RS_4.out.later d5)
    have HRS := hid RS_5.out
    clear d5 RS_4
    have E5_5 := Below.refl w5.heap.size w5
    have HSL := hid sl_5
    have HAL := hid al_5
    go_wp2_with fail
    refine (toCache_own _ _ A0 A1 _ (HA.out.later c5).h0 (HA.out.later c5).h1 (by have := HC.out.1; omega) (by have := HC.out.2; omega) HK0.out).mono ?_
    rintro e w6 ⟨⟨xv0, xv1, B1, rfl, ox0, ox1, hB1, hB2⟩, b6⟩
    obtain ⟨xo0, xc0, hv0, _⟩ := ox0.rd'
    obtain ⟨xo1, xc1, hv1, _⟩ := ox1.rd'
    subst hv0 hv1
    have OX0_6 := hid ox0
    have OX1_6 := hid ox1
    clear ox0 ox1
    have d6 : Below w5.heap.size w5 w6 := (Below.trans (by go_grown) (b6.mono (by first | omega | (simp; done) | (simp; omega))))
    have c6 : Below w.heap.size w w6 := c5.trans (d6.mono c5.size)
    have a0_6 : w6.cell? ⟨w.heap.size, 0, none⟩ = some (.slice ao0 A0.length ac0) := (by rw [b6.cell (by first | omega | (simp; done) | (simp; omega))]; go_cell)
    have a1_6 : w6.cell? ⟨w.heap.size, 1, none⟩ = some (.slice ao1 A1.length ac1) := (by rw [b6.cell (by first | omega | (simp; done) | (simp; omega))]; go_cell)
    have al_6 : w.heap.size < w6.heap.size := (by have := b6.size; first | omega | (revert this; simp; done) | (revert this; simp; omega))
    have s0_6 : w6.cell? ⟨w4.heap.size, 0, none⟩ = some (.slice so L0.length sc) := (by rw [b6.cell (by first | omega | (simp; done) | (simp; omega))]; go_cell)
    have s1_6 : w6.cell? ⟨w4.heap.size, 1, none⟩ = some (.slice sf L1.length sd) := (by rw [b6.cell (by first | omega | (simp; done) | (simp; omega))]; go_cell)
    have sl_6 : w4.heap.size < w6.heap.size := (by have := b6.size; first | omega | (revert this; simp; done) | (revert this; simp; omega))
    clear a0_5 a1_5 al_5 s0_5 s1_5 sl_5
    have HB := hid (And.intro hB1 hB2)
    clear hB1 hB2
    have RS_6 := hid (RS_5.out.later d6)
    have E5_6 : Below w5.heap.size w5 w6 := E5_5.trans (d6.mono E5_5.size)
    clear d6 RS_5 E5_5
    clear b6
    go_wp2_with fail
    have x0_7 : (w6.alloc (.cells #[.slice xo0 A0.length xc0, .slice xo1 A1.length xc1] 36)).cell? ⟨w6.heap.size, 0, none⟩ = some (.slice xo0 A0.length xc0) := by go_cell
    have x1_7 : (w6.alloc (.cells #[.slice xo0 A0.length xc0, .slice xo1 A1.length xc1] 36)).cell? ⟨w6.heap.size, 1, none⟩ = some (.slice xo1 A1.length xc1) := by go_cell
    have xl_7 : w6.heap.size < (w6.alloc (.cells #[.slice xo0 A0.length xc0, .slice xo1 A1.length xc1] 36)).heap.size := by simp
    have d7 : Below w6.heap.size w6 (w6.alloc (.cells #[.slice xo0 A0.length xc0, .slice xo1 A1.length xc1] 36)) := by go_grown
    generalize (w6.alloc (.cells #[.slice xo0 A0.length xc0, .slice xo1 A1.length xc1] 36)) = w7 at x0_7 x1_7 xl_7 d7 ⊢
    have c7 : Below w.heap.size w w7 := c6.trans (d7.mono c6.size)
    have a0_7 : w7.cell? ⟨w.heap.size, 0, none⟩ = some (.slice ao0 A0.length ac0) := (by rw [d7.cell (by first | omega | (simp; done) | (simp; omega))]; go_cell)
    have a1_7 : w7.cell? ⟨w.heap.size, 1, none⟩ = some (.slice ao1 A1.length ac1) := (by rw [d7.cell (by first | omega | (simp; done) | (simp; omega))]; go_cell)
    have al_7 : w.heap.size < w7.heap.size := (by have := d7.size; omega)
    have s0_7 : w7.cell? ⟨w4.heap.size, 0, none⟩ = some (.slice so L0.length sc) := (by rw [d7.cell (by first | omega | (simp; done) | (simp; omega))]; go_cell)
    have s1_7 : w7.cell? ⟨w4.heap.size, 1, none⟩ = some (.slice sf L1.length sd) := (by rw [d7.cell (by first | omega | (simp; done) | (simp; omega))]; go_cell)
    have sl_7 : w4.heap.size < w7.heap.size := (by have := d7.size; omega)
    clear a0_6 a1_6 al_6 s0_6 s1_6 sl_6
    have OX0_7 := hid (OX0_6.out.later d7)
    have OX1_7 := hid (OX1_6.out.later d7)
    clear OX0_6 OX1_6
    have RS_7 := hid (RS_6.out.later d7)
    have E5_7 : Below w5.heap.size w5 w7 := E5_6.trans (d7.mono E5_6.size)
    clear d7 RS_6 E5_6
    have HX7 := hid xl_7
    have HS67 := hid (show w6.heap.size ≤ w7.heap.size from by have := xl_7; omega)
    go_wp2_with fail
    refine (ID _ _ _ (OX0_7.out.rd (by decide) (by decide)) (OX1_7.out.rd (by decide) (by decide))).mono ?_
    rintro e w8 ⟨⟨go, gc, gfv, gg, rfl, hgB, hgS, hgo, hgf⟩, b8⟩
    obtain ⟨gf, gd, hv⟩ := hgf.slice
    subst hv
    have d8 : Below w7.heap.size w7 w8 := (Below.trans (by go_grown) (b8.mono (by first | omega | (simp; done) | (simp; omega))))
    have c8 : Below w.heap.size w w8 := c7.trans (d8.mono c7.size)
    have a0_8 : w8.cell? ⟨w.heap.size, 0, none⟩ = some (.slice ao0 A0.length ac0) := (by rw [b8.cell (by first | omega | (simp; done) | (simp; omega))]; go_cell)
    have a1_8 : w8.cell? ⟨w.heap.size, 1, none⟩ = some (.slice ao1 A1.length ac1) := (by rw [b8.cell (by first | omega | (simp; done) | (simp; omega))]; go_cell)
    have al_8 : w.heap.size < w8.heap.size := (by have := b8.size; first | omega | (revert this; simp; done) | (revert this; simp; omega))
    have s0_8 : w8.cell? ⟨w4.heap.size, 0, none⟩ = some (.slice so L0.length sc) := (by rw [b8.cell (by first | omega | (simp; done) | (simp; omega))]; go_cell)
    have s1_8 : w8.cell? ⟨w4.heap.size, 1, none⟩ = some (.slice sf L1.length sd) := (by rw [b8.cell (by first | omega | (simp; done) | (simp; omega))]; go_cell)
    have sl_8 : w4.heap.size < w8.heap.size := (by have := b8.size; first | omega | (revert this; simp; done) | (revert this; simp; omega))
    have x0_8 : w8.cell? ⟨w6.heap.size, 0, none⟩ = some (.slice xo0 A0.length xc0) := (by rw [b8.cell (by first | omega | (simp; done) | (simp; omega))]; go_cell)
    have x1_8 : w8.cell? ⟨w6.heap.size, 1, none⟩ = some (.slice xo1 A1.length xc1) := (by rw [b8.cell (by first | omega | (simp; done) | (simp; omega))]; go_cell)
    have xl_8 : w6.heap.size < w8.heap.size := (by have := b8.size; first | omega | (revert this; simp; done) | (revert this; simp; omega))
    clear a0_7 a1_7 al_7 s0_7 s1_7 sl_7 x0_7 x1_7 xl_7
    have OG_8 := hid hgo
    have OF_8 := hid hgf
    have HGG := hid (And.intro hgB hgS)
    have HLL := hid (And.intro hgo.len hgf.non)
    clear hgo hgf hgB hgS b8
    have OX0_8 := hid (OX0_7.out.later d8)
    have OX1_8 := hid (OX1_7.out.later d8)
    clear OX0_7 OX1_7
    have HS78 := hid d8.size
    have RS_8 := hid (RS_7.out.later d8)
    have E5_8 : Below w5.heap.size w5 w8 := E5_7.trans (d8.mono E5_7.size)
    clear d8 RS_7 E5_7
    go_wp2_with fail
    have g0_9 : (w8.alloc (.cells #[.slice go L0.length gc, .slice gf L1.length gd] 36)).cell? ⟨w8.heap.size, 0, none⟩ = some (.slice go L0.length gc) := by go_cell
    have g1_9 : (w8.alloc (.cells #[.slice go L0.length gc, .slice gf L1.length gd] 36)).cell? ⟨w8.heap.size, 1, none⟩ = some (.slice gf L1.length gd) := by go_cell
    have gl_9 : w8.heap.size < (w8.alloc (.cells #[.slice go L0.length gc, .slice gf L1.length gd] 36)).heap.size := by simp
    have d9 : Below w8.heap.size w8 (w8.alloc (.cells #[.slice go L0.length gc, .slice gf L1.length gd] 36)) := by go_grown
    generalize (w8.alloc (.cells #[.slice go L0.length gc, .slice gf L1.length gd] 36)) = w9 at g0_9 g1_9 gl_9 d9 ⊢
    have c9 : Below w.heap.size w w9 := c8.trans (d9.mono c8.size)
    have a0_9 : w9.cell? ⟨w.heap.size, 0, none⟩ = some (.slice ao0 A0.length ac0) := (by rw [d9.cell (by first | omega | (simp; done) | (simp; omega))]; go_cell)
    have a1_9 : w9.cell? ⟨w.heap.size, 1, none⟩ = some (.slice ao1 A1.length ac1) := (by rw [d9.cell (by first | omega | (simp; done) | (simp; omega))]; go_cell)
    have al_9 : w.heap.size < w9.heap.size := (by have := d9.size; omega)
    have s0_9 : w9.cell? ⟨w4.heap.size, 0, none⟩ = some (.slice so L0.length sc) := (by rw [d9.cell (by first | omega | (simp; done) | (simp; omega))]; go_cell)
    have s1_9 : w9.cell? ⟨w4.heap.size, 1, none⟩ = some (.slice sf L1.length sd) := (by rw [d9.cell (by first | omega | (simp; done) | (simp; omega))]; go_cell)
    have sl_9 : w4.heap.size < w9.heap.size := (by have := d9.size; omega)
    have x0_9 : w9.cell? ⟨w6.heap.size, 0, none⟩ = some (.slice xo0 A0.length xc0) := (by rw [d9.cell (by first | omega | (simp; done) | (simp; omega))]; go_cell)
    have x1_9 : w9.cell? ⟨w6.heap.size, 1, none⟩ = some (.slice xo1 A1.length xc1) := (by rw [d9.cell (by first | omega | (simp; done) | (simp; omega))]; go_cell)
    have xl_9 : w6.heap.size < w9.heap.size := (by have := d9.size; omega)
    clear a0_8 a1_8 al_8 s0_8 s1_8 sl_8 x0_8 x1_8 xl_8
    have OX0_9 := hid (OX0_8.out.later d9)
    have OX1_9 := hid (OX1_8.out.later d9)
    clear OX0_8 OX1_8
    have OG_9 := hid (OG_8.out.later d9)
    have OF_9 := hid (OF_8.out.later d9)
    have RS_9 := hid (RS_8.out.later d9)
    have E5_9 : Below w5.heap.size w5 w9 := E5_8.trans (d9.mono E5_8.size)
    clear d9 OG_8 OF_8 RS_8 E5_8
    go_wp2_with fail
    refine (eqCache_rd _ _ _ _ L0 L1 _ ⟨OG_9.out.rd (by decide) (by decide), OF_9.out.rd⟩ RS_9.out).mono ?_
    rintro e w10 ⟨rfl, b10⟩
    have d10 : Below w9.heap.size w9 w10 := (Below.trans (by go_grown) (b10.mono (by first | omega | (simp; done) | (simp; omega))))
    have c10 : Below w.heap.size w w10 := c9.trans (d10.mono c9.size)
    have a0_10 : w10.cell? ⟨w.heap.size, 0, none⟩ = some (.slice ao0 A0.length ac0) := (by rw [b10.cell (by first | omega | (simp; done) | (simp; omega))]; go_cell)
    have a1_10 : w10.cell? ⟨w.heap.size, 1, none⟩ = some (.slice ao1 A1.length ac1) := (by rw [b10.cell (by first | omega | (simp; done) | (simp; omega))]; go_cell)
    have al_10 : w.heap.size < w10.heap.size := (by have := b10.size; first | omega | (revert this; simp; done) | (revert this; simp; omega))
    have s0_10 : w10.cell? ⟨w4.heap.size, 0, none⟩ = some (.slice so L0.length sc) := (by rw [b10.cell (by first | omega | (simp; done) | (simp; omega))]; go_cell)
    have s1_10 : w10.cell? ⟨w4.heap.size, 1, none⟩ = some (.slice sf L1.length sd) := (by rw [b10.cell (by first | omega | (simp; done) | (simp; omega))]; go_cell)
    have sl_10 : w4.heap.size < w10.heap.size := (by have := b10.size; first | omega | (revert this; simp; done) | (revert this; simp; omega))
    have x0_10 : w10.cell? ⟨w6.heap.size, 0, none⟩ = some (.slice xo0 A0.length xc0) := (by rw [b10.cell (by first | omega | (simp; done) | (simp; omega))]; go_cell)
    have x1_10 : w10.cell? ⟨w6.heap.size, 1, none⟩ = some (.slice xo1 A1.length xc1) := (by rw [b10.cell (by first | omega | (simp; done) | (simp; omega))]; go_cell)
    have xl_10 : w6.heap.size < w10.heap.size := (by have := b10.size; first | omega | (revert this; simp; done) | (revert this; simp; omega))
    have g0_10 : w10.cell? ⟨w8.heap.size, 0, none⟩ = some (.slice go L0.length gc) := (by rw [b10.cell (by first | omega | (simp; done) | (simp; omega))]; go_cell)
    have g1_10 : w10.cell? ⟨w8.heap.size, 1, none⟩ = some (.slice gf L1.length gd) := (by rw [b10.cell (by first | omega | (simp; done) | (simp; omega))]; go_cell)
    have gl_10 : w8.heap.size < w10.heap.size := (by have := b10.size; first | omega | (revert this; simp; done) | (revert this; simp; omega))
    clear a0_9 a1_9 al_9 s0_9 s1_9 sl_9 x0_9 x1_9 xl_9 g0_9 g1_9 gl_9
    clear b10
    have OX0_10 := hid (OX0_9.out.later d10)
    have OX1_10 := hid (OX1_9.out.later d10)
    clear OX0_9 OX1_9
    have OG_10 := hid (OG_9.out.later d10)
    have OF_10 := hid (OF_9.out.later d10)
    have RS_10 := hid (RS_9.out.later d10)
    have E5_10 : Below w5.heap.size w5 w10 := E5_9.trans (d10.mono E5_9.size)
    clear d10 OG_9 OF_9 RS_9 E5_9
    go_upto_region 10 with fail
    go_cut [39] from 35 (fun s wx => s = .bool false ∧ Below w10.heap.size w10 wx)
    case first =>
      go_region_with (first
        | (go_at_call 9; refine (toCache_rd (.slice ao0 A0.length ac0) (.slice ao1 A1.length ac1) A0 A1 _ (HA.out.later (c10.drew)) HLA.out).mono ?_; rintro e w50 ⟨⟨zo0, zo1, zc0, zc1, rfl, oa⟩, b50⟩; have OE50 := hid oa; clear oa; have d50 : Below w10.heap.size w10 w50 := (Below.trans (by go_grown) (b50.mono (by first | omega | (simp; done) | (simp; omega)))); have c50 : Below w.heap.size w w50 := c10.trans (d50.mono c10.size); have x0_50 : w50.cell? ⟨w6.heap.size, 0, none⟩ = some (.slice xo0 A0.length xc0) := (by rw [b50.cell (by first | omega | (simp; done) | (simp; omega))]; go_cell); have x1_50 : w50.cell? ⟨w6.heap.size, 1, none⟩ = some (.slice xo1 A1.length xc1) := (by rw [b50.cell (by first | omega | (simp; done) | (simp; omega))]; go_cell); have xl_50 : w6.heap.size < w50.heap.size := (by have := b50.size; first | omega | (revert this; simp; done) | (revert this; simp; omega)); clear x0_10 x1_10 xl_10)
        | (go_at_call 12; refine (eqCache_rd _ _ _ _ A0 A1 _ (RSCache.later ⟨OX0_10.out.rd (by decide) (by decide), OX1_10.out.rd (by decide) (by decide)⟩ d50) OE50.out).mono ?_; rintro e w51 ⟨rfl, b51⟩; have d51 : Below w50.heap.size w50 w51 := (Below.trans (by go_grown) (b51.mono (by first | omega | (simp; done) | (simp; omega)))); have c51 : Below w.heap.size w w51 := c50.trans (d51.mono c50.size)))
      all_goals
        go_wp2_with fail
        go_meet
        exact ⟨rfl, d50.trans (d51.mono d50.size)⟩
    case rest =>
      obtain ⟨rfl, b11⟩ := hcut
      obtain ⟨w11, hw11⟩ : ∃ y, y = wc := ⟨_, rfl⟩
      subst hw11
      have d11 : Below w10.heap.size w10 w11 := (Below.trans (by go_grown) (b11.mono (by first | omega | (simp; done) | (simp; omega))))
      have c11 : Below w.heap.size w w11 := c10.trans (d11.mono c10.size)
      have a0_11 : w11.cell? ⟨w.heap.size, 0, none⟩ = some (.slice ao0 A0.length ac0) := (by rw [b11.cell (by first | omega | (simp; done) | (simp; omega))]; go_cell)
      have a1_11 : w11.cell? ⟨w.heap.size, 1, none⟩ = some (.slice ao1 A1.length ac1) := (by rw [b11.cell (by first | omega | (simp; done) | (simp; omega))]; go_cell)
      have al_11 : w.heap.size < w11.heap.size := (by have := b11.size; first | omega | (revert this; simp; done) | (revert this; simp; omega))
      have s0_11 : w11.cell? ⟨w4.heap.size, 0, none⟩ = some (.slice so L0.length sc) := (by rw [b11.cell (by first | omega | (simp; done) | (simp; omega))]; go_cell)
      have s1_11 : w11.cell? ⟨w4.heap.size, 1, none⟩ = some (.slice sf L1.length sd) := (by rw [b11.cell (by first | omega | (simp; done) | (simp; omega))]; go_cell)
      have sl_11 : w4.heap.size < w11.heap.size := (by have := b11.size; first | omega | (revert this; simp; done) | (revert this; simp; omega))
      have x0_11 : w11.cell? ⟨w6.heap.size, 0, none⟩ = some (.slice xo0 A0.length xc0) := (by rw [b11.cell (by first | omega | (simp; done) | (simp; omega))]; go_cell)
      have x1_11 : w11.cell? ⟨w6.heap.size, 1, none⟩ = some (.slice xo1 A1.length xc1) := (by rw [b11.cell (by first | omega | (simp; done) | (simp; omega))]; go_cell)
      have xl_11 : w6.heap.size < w11.heap.size := (by have := b11.size; first | omega | (revert this; simp; done) | (revert this; simp; omega))
      have g0_11 : w11.cell? ⟨w8.heap.size, 0, none⟩ = some (.slice go L0.length gc) := (by rw [b11.cell (by first | omega | (simp; done) | (simp; omega))]; go_cell)
      have g1_11 : w11.cell? ⟨w8.heap.size, 1, none⟩ = some (.slice gf L1.length gd) := (by rw [b11.cell (by first | omega | (simp; done) | (simp; omega))]; go_cell)
      have gl_11 : w8.heap.size < w11.heap.size := (by have := b11.size; first | omega | (revert this; simp; done) | (revert this; simp; omega))
      clear a0_10 a1_10 al_10 s0_10 s1_10 sl_10 x0_10 x1_10 xl_10 g0_10 g1_10 gl_10
      have OX0_11 := hid (OX0_10.out.later d11)
      have OX1_11 := hid (OX1_10.out.later d11)
      clear OX0_10 OX1_10
      have OG_11 := hid (OG_10.out.later d11)
      have OF_11 := hid (OF_10.out.later d11)
      have RS_11 := hid (RS_10.out.later d11)
      have E5_11 : Below w5.heap.size w5 w11 := E5_10.trans (d11.mono E5_10.size)
      clear d11 OG_10 OF_10 RS_10 E5_10
      clear b11
      go_wp2_with fail
      refine (markCache_all _ _ A0 A1 1 (Span w5.heap.size B1) (Span B1 w6.heap.size) _ OX0_11.out OX1_11.out (fun b h q => by have := h.2; have := q.1; omega) (fun b h q => by have := q.2; have := h.1; omega) (by omega) HN.out).mono ?_
      rintro e w12 ⟨rfl, _, _, hn⟩
      have hspan : ∀ b, (Span w5.heap.size B1 b ∨ Span B1 w6.heap.size b) → w5.heap.size ≤ b ∧ b < w6.heap.size := fun b h => by rcases h with h | h <;> (have := h.1; have := h.2; have := HB.out; omega)
      have c12 : Below w.heap.size w w12 := c11.trans (hn.below (fun b hb => by have := (hspan b hb).1; have := HSL.out; have := HAL.out; omega) (by have := c11.size; omega))
      have z12 := hn.size
      have gz11 : w8.heap.size ≤ w11.heap.size := by have := gl_11; omega
      have h_a := hn.block (w.heap.size) (by have := al_11; omega) (fun q => by have := (hspan _ q).1; have := HAL.out; omega)
      have a0_12 := (World.cell?_of_block (a := ⟨w.heap.size, 0, none⟩) h_a).trans a0_11
      have a1_12 := (World.cell?_of_block (a := ⟨w.heap.size, 1, none⟩) h_a).trans a1_11
      have al_12 : w.heap.size < w12.heap.size := by have := al_11; omega
      clear h_a a0_11 a1_11 al_11
      have h_s := hn.block (w4.heap.size) (by have := sl_11; omega) (fun q => by have := (hspan _ q).1; have := HSL.out; omega)
      have s0_12 := (World.cell?_of_block (a := ⟨w4.heap.size, 0, none⟩) h_s).trans s0_11
      have s1_12 := (World.cell?_of_block (a := ⟨w4.heap.size, 1, none⟩) h_s).trans s1_11
      have sl_12 : w4.heap.size < w12.heap.size := by have := sl_11; omega
      clear h_s s0_11 s1_11 sl_11
      have h_x := hn.block (w6.heap.size) (by have := xl_11; omega) (fun q => by have := (hspan _ q).2; omega)
      have x0_12 := (World.cell?_of_block (a := ⟨w6.heap.size, 0, none⟩) h_x).trans x0_11
      have x1_12 := (World.cell?_of_block (a := ⟨w6.heap.size, 1, none⟩) h_x).trans x1_11
      have xl_12 : w6.heap.size < w12.heap.size := by have := xl_11; omega
      clear h_x x0_11 x1_11 xl_11
      have h_g := hn.block (w8.heap.size) (by have := gl_11; omega) (fun q => by have := (hspan _ q).2; have := HS67.out; have := HS78.out; omega)
      have g0_12 := (World.cell?_of_block (a := ⟨w8.heap.size, 0, none⟩) h_g).trans g0_11
      have g1_12 := (World.cell?_of_block (a := ⟨w8.heap.size, 1, none⟩) h_g).trans g1_11
      have gl_12 : w8.heap.size < w12.heap.size := by have := gl_11; omega
      clear h_g g0_11 g1_11 gl_11
      have E5_12 : Below w5.heap.size w5 w12 := E5_11.trans (hn.below (fun b hb => (hspan b hb).1) E5_11.size)
      have RS_12 := hid (HRS.out.later E5_12)
      have OG_12 := hid (OG_11.out.only hn (fun b hb _ q => by have := (hspan _ q).2; have := hb.1; have := HGG.out.1; have := HS67.out; omega))
      have OF_12 := hid (OF_11.out.agree (fun hg => hn.block gg hg (fun q => by have := (hspan _ q).2; have := HGG.out.1; have := HS67.out; omega)))
      clear hn hspan OX0_11 OX1_11 RS_11 OG_11 OF_11 E5_11 x0_12 x1_12 xl_12
      obtain ⟨kx, hkx⟩ : ∃ z : Int, 1 + cntM 3 A0 + cntM 1 A1 = z := ⟨_, rfl⟩
      have hkn : ¬ (kx < 0) := by have := HP.out.1; have := HP.out.2; omega
      rw [hkx]
      clear hkx
      go_wp2_with fail
      refine (eqCache_rd _ _ _ _ L0 L1 _ ⟨OG_12.out.rd (by decide) (by decide), OF_12.out.rd⟩ RS_12.out).mono ?_
      rintro e w13 ⟨rfl, b13⟩
      have d13 : Below w12.heap.size w12 w13 := (Below.trans (by go_grown) (b13.mono (by first | omega | (simp; done) | (simp; omega))))
      have c13 : Below w.heap.size w w13 := c12.trans (d13.mono c12.size)
      have a0_13 : w13.cell? ⟨w.heap.size, 0, none⟩ = some (.slice ao0 A0.length ac0) := (by rw [b13.cell (by first | omega | (simp; done) | (simp; omega))]; go_cell)
      have a1_13 : w13.cell? ⟨w.heap.size, 1, none⟩ = some (.slice ao1 A1.length ac1) := (by rw [b13.cell (by first | omega | (simp; done) | (simp; omega))]; go_cell)
      have al_13 : w.heap.size < w13.heap.size := (by have := b13.size; first | omega | (revert this; simp; done) | (revert this; simp; omega))
      have s0_13 : w13.cell? ⟨w4.heap.size, 0, none⟩ = some (.slice so L0.length sc) := (by rw [b13.cell (by first | omega | (simp; done) | (simp; omega))]; go_cell)
      have s1_13 : w13.cell? ⟨w4.heap.size, 1, none⟩ = some (.slice sf L1.length sd) := (by rw [b13.cell (by first | omega | (simp; done) | (simp; omega))]; go_cell)
      have sl_13 : w4.heap.size < w13.heap.size := (by have := b13.size; first | omega | (revert this; simp; done) | (revert this; simp; omega))
      have g0_13 : w13.cell? ⟨w8.heap.size, 0, none⟩ = some (.slice go L0.length gc) := (by rw [b13.cell (by first | omega | (simp; done) | (simp; omega))]; go_cell)
      have g1_13 : w13.cell? ⟨w8.heap.size, 1, none⟩ = some (.slice gf L1.length gd) := (by rw [b13.cell (by first | omega | (simp; done) | (simp; omega))]; go_cell)
      have gl_13 : w8.heap.size < w13.heap.size := (by have := b13.size; first | omega | (revert this; simp; done) | (revert this; simp; omega))
      clear a0_12 a1_12 al_12 s0_12 s1_12 sl_12 g0_12 g1_12 gl_12
      clear b13
      have OG_13 := hid (OG_12.out.later d13)
      have OF_13 := hid (OF_12.out.later d13)
      have RS_13 := hid (RS_12.out.later d13)
      have E5_13 : Below w5.heap.size w5 w13 := E5_12.trans (d13.mono E5_12.size)
      clear d13 OG_12 OF_12 RS_12 E5_12
      go_wp2_with fail
      refine (markAns_any _ _ L0 L1 gg w8.heap.size _ OG_13.out OF_13.out HGG.out.2 (by have := gl_13; omega) HM.out).mono ?_
      rintro e w14 ⟨rfl, hog, hof, hgr⟩
      have c14 : Below w.heap.size w w14 := c13.trans (hgr.below (fun b hb => by have := hb.1; have := HGG.out.1; have := HX7.out; have := HS67.out; have := HAL.out; have := HSL.out; have := HB.out; omega) c13.size)
      have E5_14 : Below w5.heap.size w5 w14 := E5_13.trans (hgr.below (fun b hb => by have := hb.1; have := HGG.out.1; have := HS67.out; have := HB.out; omega) E5_13.size)
      have z14 := hgr.size
      have h_a := hgr.block (w.heap.size) (by have := al_13; omega) (fun q => by have := q.1; have := HGG.out.1; have := HS67.out; have := HB.out; have := HAL.out; have := HSL.out; omega)
      have a0_14 := (World.cell?_of_block (a := ⟨w.heap.size, 0, none⟩) h_a).trans a0_13
      have a1_14 := (World.cell?_of_block (a := ⟨w.heap.size, 1, none⟩) h_a).trans a1_13
      have al_14 : w.heap.size < w14.heap.size := by have := al_13; omega
      clear h_a a0_13 a1_13 al_13
      have h_s := hgr.block (w4.heap.size) (by have := sl_13; omega) (fun q => by have := q.1; have := HGG.out.1; have := HS67.out; have := HB.out; have := HAL.out; have := HSL.out; omega)
      have s0_14 := (World.cell?_of_block (a := ⟨w4.heap.size, 0, none⟩) h_s).trans s0_13
      have s1_14 := (World.cell?_of_block (a := ⟨w4.heap.size, 1, none⟩) h_s).trans s1_13
      have sl_14 : w4.heap.size < w14.heap.size := by have := sl_13; omega
      clear h_s s0_13 s1_13 sl_13
      have h_g := hgr.block (w8.heap.size) (by have := gl_13; omega) (fun q => Nat.lt_irrefl _ q.2)
      have g0_14 := (World.cell?_of_block (a := ⟨w8.heap.size, 0, none⟩) h_g).trans g0_13
      have g1_14 := (World.cell?_of_block (a := ⟨w8.heap.size, 1, none⟩) h_g).trans g1_13
      have gl_14 : w8.heap.size < w14.heap.size := by have := gl_13; omega
      clear h_g g0_13 g1_13 gl_13
      have RS_14 := hid (HRS.out.later E5_14)
      have RM_14 := hid (show RSCache w14 _ _ (relM 3 1 L0) (relM 1 (1 + cntM 3 L0) L1) from ⟨hog.rd (by decide) (by decide), hof.rd⟩)
      clear hgr hog hof OG_13 OF_13 RS_13 E5_13
      have HG1 := fun (W : World) (v0 v1 : Value) (h : RSCache W v0 v1 (relM 3 1 L0) (relM 1 (1 + cntM 3 L0) L1)) => heldCache_all v0 v1 L0 L1 1 W h.h0 h.h1 HLL.out.1 HLL.out.2 (by omega) HM.out
      obtain ⟨km, hkm⟩ : ∃ z : Int, 1 + cntM 3 L0 + cntM 1 L1 = z := ⟨_, rfl⟩
      have hkp : ¬ (km < 0) := by have := HPL.out.1; have := HPL.out.2; omega
      rw [hkm] at HG1 ⊢
      clear hkm
      go_wp2_with fail
      refine (HG1 _ _ _ RM_14.out).mono ?_
      rintro e w15 ⟨rfl, b15⟩
      have d15 : Below w14.heap.size w14 w15 := (Below.trans (by go_grown) (b15.mono (by first | omega | (simp; done) | (simp; omega))))
      have c15 : Below w.heap.size w w15 := c14.trans (d15.mono c14.size)
      have a0_15 : w15.cell? ⟨w.heap.size, 0, none⟩ = some (.slice ao0 A0.length ac0) := (by rw [b15.cell (by first | omega | (simp; done) | (simp; omega))]; go_cell)
      have a1_15 : w15.cell? ⟨w.heap.size, 1, none⟩ = some (.slice ao1 A1.length ac1) := (by rw [b15.cell (by first | omega | (simp; done) | (simp; omega))]; go_cell)
      have al_15 : w.heap.size < w15.heap.size := (by have := b15.size; first | omega | (revert this; simp; done) | (revert this; simp; omega))
      have s0_15 : w15.cell? ⟨w4.heap.size, 0, none⟩ = some (.slice so L0.length sc) := (by rw [b15.cell (by first | omega | (simp; done) | (simp; omega))]; go_cell)
      have s1_15 : w15.cell? ⟨w4.heap.size, 1, none⟩ = some (.slice sf L1.length sd) := (by rw [b15.cell (by first | omega | (simp; done) | (simp; omega))]; go_cell)
      have sl_15 : w4.heap.size < w15.heap.size := (by have := b15.size; first | omega | (revert this; simp; done) | (revert this; simp; omega))
      have g0_15 : w15.cell? ⟨w8.heap.size, 0, none⟩ = some (.slice go L0.length gc) := (by rw [b15.cell (by first | omega | (simp; done) | (simp; omega))]; go_cell)
      have g1_15 : w15.cell? ⟨w8.heap.size, 1, none⟩ = some (.slice gf L1.length gd) := (by rw [b15.cell (by first | omega | (simp; done) | (simp; omega))]; go_cell)
      have gl_15 : w8.heap.size < w15.heap.size := (by have := b15.size; first | omega | (revert this; simp; done) | (revert this; simp; omega))
      clear a0_14 a1_14 al_14 s0_14 s1_14 sl_14 g0_14 g1_14 gl_14
      have RM_15 := hid (RM_14.out.later d15)
      clear RM_14 b15
      have RS_15 := hid (RS_14.out.later d15)
      have E5_15 : Below w5.heap.size w5 w15 := E5_14.trans (d15.mono E5_14.size)
      clear d15 RS_14 E5_14
      go_wp2_with fail
      refine (toCache_rd _ _ A0 A1 _ (HA.out.later c15) HLA.out).mono ?_
      rintro e w17 ⟨⟨yo0, yo1, yc0, yc1, rfl, oa⟩, b17⟩
      have RY_17 := hid oa
      clear oa
      have d17 : Below w15.heap.size w15 w17 := (Below.trans (by go_grown) (b17.mono (by first | omega | (simp; done) | (simp; omega))))
      have c17 : Below w.heap.size w w17 := c15.trans (d17.mono c15.size)
      have a0_17 : w17.cell? ⟨w.heap.size, 0, none⟩ = some (.slice ao0 A0.length ac0) := (by rw [b17.cell (by first | omega | (simp; done) | (simp; omega))]; go_cell)
      have a1_17 : w17.cell? ⟨w.heap.size, 1, none⟩ = some (.slice ao1 A1.length ac1) := (by rw [b17.cell (by first | omega | (simp; done) | (simp; omega))]; go_cell)
      have al_17 : w.heap.size < w17.heap.size := (by have := b17.size; first | omega | (revert this; simp; done) | (revert this; simp; omega))
      have s0_17 : w17.cell? ⟨w4.heap.size, 0, none⟩ = some (.slice so L0.length sc) := (by rw [b17.cell (by first | omega | (simp; done) | (simp; omega))]; go_cell)
      have s1_17 : w17.cell? ⟨w4.heap.size, 1, none⟩ = some (.slice sf L1.length sd) := (by rw [b17.cell (by first | omega | (simp; done) | (simp; omega))]; go_cell)
      have sl_17 : w4.heap.size < w17.heap.size := (by have := b17.size; first | omega | (revert this; simp; done) | (revert this; simp; omega))
      have g0_17 : w17.cell? ⟨w8.heap.size, 0, none⟩ = some (.slice go L0.length gc) := (by rw [b17.cell (by first | omega | (simp; done) | (simp; omega))]; go_cell)
      have g1_17 : w17.cell? ⟨w8.heap.size, 1, none⟩ = some (.slice gf L1.length gd) := (by rw [b17.cell (by first | omega | (simp; done) | (simp; omega))]; go_cell)
      have gl_17 : w8.heap.size < w17.heap.size := (by have := b17.size; first | omega | (revert this; simp; done) | (revert this; simp; omega))
      clear a0_15 a1_15 al_15 s0_15 s1_15 sl_15 g0_15 g1_15 gl_15
      have RM_17 := hid (RM_15.out.later d17)
      clear RM_15 b17
      have RS_17 := hid (RS_15.out.later d17)
      have E5_17 : Below w5.heap.size w5 w17 := E5_15.trans (d17.mono E5_15.size)
      clear d17 RS_15 E5_15
      go_wp2_with fail
      refine (ID _ _ _ RY_17.out.h0 RY_17.out.h1).mono ?_
      rintro e w18 ⟨⟨ho, hc, hfv, hg, rfl, _, _, hho, hhf⟩, b18⟩
      obtain ⟨hf, hd, hv⟩ := hhf.slice
      subst hv
      have d18 : Below w17.heap.size w17 w18 := (Below.trans (by go_grown) (b18.mono (by first | omega | (simp; done) | (simp; omega))))
      have c18 : Below w.heap.size w w18 := c17.trans (d18.mono c17.size)
      have a0_18 : w18.cell? ⟨w.heap.size, 0, none⟩ = some (.slice ao0 A0.length ac0) := (by rw [b18.cell (by first | omega | (simp; done) | (simp; omega))]; go_cell)
      have a1_18 : w18.cell? ⟨w.heap.size, 1, none⟩ = some (.slice ao1 A1.length ac1) := (by rw [b18.cell (by first | omega | (simp; done) | (simp; omega))]; go_cell)
      have al_18 : w.heap.size < w18.heap.size := (by have := b18.size; first | omega | (revert this; simp; done) | (revert this; simp; omega))
      have s0_18 : w18.cell? ⟨w4.heap.size, 0, none⟩ = some (.slice so L0.length sc) := (by rw [b18.cell (by first | omega | (simp; done) | (simp; omega))]; go_cell)
      have s1_18 : w18.cell? ⟨w4.heap.size, 1, none⟩ = some (.slice sf L1.length sd) := (by rw [b18.cell (by first | omega | (simp; done) | (simp; omega))]; go_cell)
      have sl_18 : w4.heap.size < w18.heap.size := (by have := b18.size; first | omega | (revert this; simp; done) | (revert this; simp; omega))
      have g0_18 : w18.cell? ⟨w8.heap.size, 0, none⟩ = some (.slice go L0.length gc) := (by rw [b18.cell (by first | omega | (simp; done) | (simp; omega))]; go_cell)
      have g1_18 : w18.cell? ⟨w8.heap.size, 1, none⟩ = some (.slice gf L1.length gd) := (by rw [b18.cell (by first | omega | (simp; done) | (simp; omega))]; go_cell)
      have gl_18 : w8.heap.size < w18.heap.size := (by have := b18.size; first | omega | (revert this; simp; done) | (revert this; simp; omega))
      clear a0_17 a1_17 al_17 s0_17 s1_17 sl_17 g0_17 g1_17 gl_17
      have RM_18 := hid (RM_17.out.later d18)
      have RH_18 := hid (show RSCache w18 _ _ L0 L1 from ⟨hho.rd (by decide) (by decide), hhf.rd⟩)
      clear RM_17 RY_17 b18 hho hhf
      have RS_18 := hid (RS_17.out.later d18)
      have E5_18 : Below w5.heap.size w5 w18 := E5_17.trans (d18.mono E5_17.size)
      clear d18 RS_17 E5_17
      go_wp2_with fail
      have h0_19 : (w18.alloc (.cells #[.slice ho L0.length hc, .slice hf L1.length hd] 36)).cell? ⟨w18.heap.size, 0, none⟩ = some (.slice ho L0.length hc) := by go_cell
      have h1_19 : (w18.alloc (.cells #[.slice ho L0.length hc, .slice hf L1.length hd] 36)).cell? ⟨w18.heap.size, 1, none⟩ = some (.slice hf L1.length hd) := by go_cell
      have hl_19 : w18.heap.size < (w18.alloc (.cells #[.slice ho L0.length hc, .slice hf L1.length hd] 36)).heap.size := by simp
      have d19 : Below w18.heap.size w18 (w18.alloc (.cells #[.slice ho L0.length hc, .slice hf L1.length hd] 36)) := by go_grown
      generalize (w18.alloc (.cells #[.slice ho L0.length hc, .slice hf L1.length hd] 36)) = w19 at h0_19 h1_19 hl_19 d19 ⊢
      have c19 : Below w.heap.size w w19 := c18.trans (d19.mono c18.size)
      have a0_19 : w19.cell? ⟨w.heap.size, 0, none⟩ = some (.slice ao0 A0.length ac0) := (by rw [d19.cell (by first | omega | (simp; done) | (simp; omega))]; go_cell)
      have a1_19 : w19.cell? ⟨w.heap.size, 1, none⟩ = some (.slice ao1 A1.length ac1) := (by rw [d19.cell (by first | omega | (simp; done) | (simp; omega))]; go_cell)
      have al_19 : w.heap.size < w19.heap.size := (by have := d19.size; omega)
      have s0_19 : w19.cell? ⟨w4.heap.size, 0, none⟩ = some (.slice so L0.length sc) := (by rw [d19.cell (by first | omega | (simp; done) | (simp; omega))]; go_cell)
      have s1_19 : w19.cell? ⟨w4.heap.size, 1, none⟩ = some (.slice sf L1.length sd) := (by rw [d19.cell (by first | omega | (simp; done) | (simp; omega))]; go_cell)
      have sl_19 : w4.heap.size < w19.heap.size := (by have := d19.size; omega)
      have g0_19 : w19.cell? ⟨w8.heap.size, 0, none⟩ = some (.slice go L0.length gc) := (by rw [d19.cell (by first | omega | (simp; done) | (simp; omega))]; go_cell)
      have g1_19 : w19.cell? ⟨w8.heap.size, 1, none⟩ = some (.slice gf L1.length gd) := (by rw [d19.cell (by first | omega | (simp; done) | (simp; omega))]; go_cell)
      have gl_19 : w8.heap.size < w19.heap.size := (by have := d19.size; omega)
      clear a0_18 a1_18 al_18 s0_18 s1_18 sl_18 g0_18 g1_18 gl_18
      have RM_19 := hid (RM_18.out.later d19)
      have RH_19 := hid (RH_18.out.later d19)
      clear RM_18 RH_18
      have RS_19 := hid (RS_18.out.later d19)
      have E5_19 : Below w5.heap.size w5 w19 := E5_18.trans (d19.mono E5_18.size)
      clear d19 RS_18 E5_18
      go_wp2_with fail
      refine (eqCache_rd _ _ _ _ L0 L1 _ RH_19.out RS_19.out).mono ?_
      rintro e w20 ⟨rfl, b20⟩
      have d20 : Below w19.heap.size w19 w20 := (Below.trans (by go_grown) (b20.mono (by first | omega | (simp; done) | (simp; omega))))
      have c20 : Below w.heap.size w w20 := c19.trans (d20.mono c19.size)
      have a0_20 : w20.cell? ⟨w.heap.size, 0, none⟩ = some (.slice ao0 A0.length ac0) := (by rw [b20.cell (by first | omega | (simp; done) | (simp; omega))]; go_cell)
      have a1_20 : w20.cell? ⟨w.heap.size, 1, none⟩ = some (.slice ao1 A1.length ac1) := (by rw [b20.cell (by first | omega | (simp; done) | (simp; omega))]; go_cell)
      have al_20 : w.heap.size < w20.heap.size := (by have := b20.size; first | omega | (revert this; simp; done) | (revert this; simp; omega))
      have s0_20 : w20.cell? ⟨w4.heap.size, 0, none⟩ = some (.slice so L0.length sc) := (by rw [b20.cell (by first | omega | (simp; done) | (simp; omega))]; go_cell)
      have s1_20 : w20.cell? ⟨w4.heap.size, 1, none⟩ = some (.slice sf L1.length sd) := (by rw [b20.cell (by first | omega | (simp; done) | (simp; omega))]; go_cell)
      have sl_20 : w4.heap.size < w20.heap.size := (by have := b20.size; first | omega | (revert this; simp; done) | (revert this; simp; omega))
      have g0_20 : w20.cell? ⟨w8.heap.size, 0, none⟩ = some (.slice go L0.length gc) := (by rw [b20.cell (by first | omega | (simp; done) | (simp; omega))]; go_cell)
      have g1_20 : w20.cell? ⟨w8.heap.size, 1, none⟩ = some (.slice gf L1.length gd) := (by rw [b20.cell (by first | omega | (simp; done) | (simp; omega))]; go_cell)
      have gl_20 : w8.heap.size < w20.heap.size := (by have := b20.size; first | omega | (revert this; simp; done) | (revert this; simp; omega))
      clear a0_19 a1_19 al_19 s0_19 s1_19 sl_19 g0_19 g1_19 gl_19
      clear b20
      have RM_20 := hid (RM_19.out.later d20)
      clear RM_19 RH_19
      have RS_20 := hid (RS_19.out.later d20)
      have E5_20 : Below w5.heap.size w5 w20 := E5_19.trans (d20.mono E5_19.size)
      clear d20 RS_19 E5_19
      go_wp2_with fail
      refine (HG1 _ _ _ RM_20.out).mono ?_
      rintro e w21 ⟨rfl, b21⟩
      have d21 : Below w20.heap.size w20 w21 := (Below.trans (by go_grown) (b21.mono (by first | omega | (simp; done) | (simp; omega))))
      have c21 : Below w.heap.size w w21 := c20.trans (d21.mono c20.size)
      have a0_21 : w21.cell? ⟨w.heap.size, 0, none⟩ = some (.slice ao0 A0.length ac0) := (by rw [b21.cell (by first | omega | (simp; done) | (simp; omega))]; go_cell)
      have a1_21 : w21.cell? ⟨w.heap.size, 1, none⟩ = some (.slice ao1 A1.length ac1) := (by rw [b21.cell (by first | omega | (simp; done) | (simp; omega))]; go_cell)
      have al_21 : w.heap.size < w21.heap.size := (by have := b21.size; first | omega | (revert this; simp; done) | (revert this; simp; omega))
      have s0_21 : w21.cell? ⟨w4.heap.size, 0, none⟩ = some (.slice so L0.length sc) := (by rw [b21.cell (by first | omega | (simp; done) | (simp; omega))]; go_cell)
      have s1_21 : w21.cell? ⟨w4.heap.size, 1, none⟩ = some (.slice sf L1.length sd) := (by rw [b21.cell (by first | omega | (simp; done) | (simp; omega))]; go_cell)
      have sl_21 : w4.heap.size < w21.heap.size := (by have := b21.size; first | omega | (revert this; simp; done) | (revert this; simp; omega))
      have g0_21 : w21.cell? ⟨w8.heap.size, 0, none⟩ = some (.slice go L0.length gc) := (by rw [b21.cell (by first | omega | (simp; done) | (simp; omega))]; go_cell)
      have g1_21 : w21.cell? ⟨w8.heap.size, 1, none⟩ = some (.slice gf L1.length gd) := (by rw [b21.cell (by first | omega | (simp; done) | (simp; omega))]; go_cell)
      have gl_21 : w8.heap.size < w21.heap.size := (by have := b21.size; first | omega | (revert this; simp; done) | (revert this; simp; omega))
      clear a0_20 a1_20 al_20 s0_20 s1_20 sl_20 g0_20 g1_20 gl_20
      have RM_21 := hid (RM_20.out.later d21)
      clear RM_20 b21
      go_wp2
      go_ret
      exact ⟨by simp, c21⟩
  · go_wp2
    go_ret
    exact ⟨by simp, c2⟩
end Go.Proofs.Ytnenlnadmdlcfaa

/- Part: An argument that is a slice of edges reads as a list of pairs. -/
namespace Go.Proofs.Ytnenlnadmdlcfaa
open Go.ChangeShapes Go.WideShapes Go.ChangeAt Go.RowKit Go.Deep

theorem Try.own : ownKnob Try.prog.godebug = none := by kernel_rfl
theorem Try.laidOut : laidOutB Try.prog = true := by kernel_rfl
theorem Try.cells112 : Try.prog.cellsOf 112 = 2 := by kernel_rfl
theorem Try.cells3 : Try.prog.cellsOf 3 = 1 := by kernel_rfl

set_option maxRecDepth 100000 in
theorem rd_of {H : Type} {enc : TypeId × Value → H} {W : World} {base : Nat} {v : Value} {d : DataW H} {p : List MemPlace} (hv : Value.okWide Try.prog W .any base 46 v)
    (h : DataW.Trod enc Try.prog W 0 (fun _ => true) true 46 v d p) (hlt : ∀ x ∈ p, x.block < W.heap.size) : ∃ l, Rd W v l := by
  obtain ⟨a0, len, cap, rfl⟩ := okWide_slice Try.underlying46 hv
  obtain ⟨fuel, hf⟩ := h
  rcases open_slice_pairs Try.underlying46 Try.underlying112 Try.cells112 rfl rfl Try.cells3 Try.cells3 hf with ⟨hcs, _⟩ | ⟨a, len', cap', m, n, V0, V1, D0, D1, P0, P1, hcs, _, hlc, hcm, hm, hx, hcell⟩
  · simp [Value.cells] at hcs
    obtain ⟨rfl, rfl, rfl⟩ := hcs
    exact ⟨[], Rd.nil W none 0⟩
  · simp [Value.cells] at hcs
    obtain ⟨rfl, rfl, rfl⟩ := hcs
    simp only [if_true] at hm
    subst hm
    have num : ∀ (t : Value) (x : DataW H × List MemPlace), DataW.trod enc Try.prog W 0 (fun _ => true) true n 3 [t] = some x → ∃ z, t = .int .i64 z := by
      intro t x hx
      obtain ⟨z, hz, _⟩ := DataW.trod_int Try.underlying3 hx
      exact ⟨z, by simpa using hz⟩
    let N : Value → Int := fun t => match t with | .int _ z => z | _ => 0
    refine ⟨(List.range len).map fun i => (N (V0 i), N (V1 i)), some a, _, by simp; rfl, by simp only [List.length_map, List.length_range]; omega, fun h0 => ?_⟩
    simp only [List.length_map, List.length_range] at h0 ⊢
    obtain ⟨b, off, spot⟩ := a
    have hs : spot = none := by
      have := (hcell 0 (by omega)).1
      simpa [Addr.add] using World.cell?_spot this
    subst hs
    refine ⟨b, off, rfl, ?_, fun i hi => ?_⟩
    · simp only [Prod.mk.injEq] at hx
      have := hlt (.cell b off) (by rw [hx.2]; exact List.mem_append_left _ (MemPlace.mem_row.2 ⟨0, by omega, by simp⟩))
      exact this
    · obtain ⟨c0, c1, t0, t1⟩ := hcell i (by omega)
      obtain ⟨z0, e0⟩ := num _ _ t0
      obtain ⟨z1, e1⟩ := num _ _ t1
      rw [add_plain] at c0 c1
      have hg : ((List.range len).map fun i => (N (V0 i), N (V1 i))).getD i (0, 0) = (z0, z1) := by
        simp [List.getD_eq_getElem?_getD, hi, e0, e1, N]
      rw [hg]
      exact ⟨by rw [c0, e0], by rw [show off + i * 2 + 1 = off + (i * 2 + 1) from by omega, c1, e1]⟩
end Go.Proofs.Ytnenlnadmdlcfaa

/- Part: An argument that is a value (a number and a slice of edges). -/
namespace Go.Proofs.Ytnenlnadmdlcfaa
open Go.ChangeShapes Go.WideShapes Go.ChangeAt Go.RowKit Go.Deep Go.Joins

theorem Try.cells48 : Try.prog.cellsOf 48 = 2 := by kernel_rfl

set_option maxRecDepth 100000 in
theorem rd_of_trod {H : Type} {enc : TypeId × Value → H} {W : World} {v : Value} {d : DataW H} {p : List MemPlace} {fuel : Nat}
    (hf : DataW.trod enc Try.prog W 0 (fun _ => true) true fuel 46 [v] = some (d, p)) (hlt : ∀ x ∈ p, x.block < W.heap.size) : ∃ l, Rd W v l := by
  rcases open_slice_pairs Try.underlying46 Try.underlying112 Try.cells112 rfl rfl Try.cells3 Try.cells3 hf with ⟨hcs, _⟩ | ⟨a, len', cap', m, n, V0, V1, D0, D1, P0, P1, hcs, _, hlc, hcm, hm, hx, hcell⟩
  · simp at hcs
    subst hcs
    exact ⟨[], Rd.nil W none 0⟩
  · simp at hcs
    subst hcs
    simp only [if_true] at hm
    subst hm
    have num : ∀ (t : Value) (x : DataW H × List MemPlace), DataW.trod enc Try.prog W 0 (fun _ => true) true n 3 [t] = some x → ∃ z, t = .int .i64 z := by
      intro t x hx
      obtain ⟨z, hz, _⟩ := DataW.trod_int Try.underlying3 hx
      exact ⟨z, by simpa using hz⟩
    let N : Value → Int := fun t => match t with | .int _ z => z | _ => 0
    refine ⟨(List.range len').map fun i => (N (V0 i), N (V1 i)), some a, _, by simp; rfl, by simp only [List.length_map, List.length_range]; omega, fun h0 => ?_⟩
    simp only [List.length_map, List.length_range] at h0 ⊢
    obtain ⟨b, off, spot⟩ := a
    have hs : spot = none := by
      have := (hcell 0 (by omega)).1
      simpa [Addr.add] using World.cell?_spot this
    subst hs
    refine ⟨b, off, rfl, ?_, fun i hi => ?_⟩
    · simp only [Prod.mk.injEq] at hx
      have := hlt (.cell b off) (by rw [hx.2]; exact List.mem_append_left _ (MemPlace.mem_row.2 ⟨0, by omega, by simp⟩))
      exact this
    · obtain ⟨c0, c1, t0, t1⟩ := hcell i (by omega)
      obtain ⟨z0, e0⟩ := num _ _ t0
      obtain ⟨z1, e1⟩ := num _ _ t1
      rw [add_plain] at c0 c1
      have hg : ((List.range len').map fun i => (N (V0 i), N (V1 i))).getD i (0, 0) = (z0, z1) := by
        simp [List.getD_eq_getElem?_getD, hi, e0, e1, N]
      rw [hg]
      exact ⟨by rw [c0, e0], by rw [show off + i * 2 + 1 = off + (i * 2 + 1) from by omega, c1, e1]⟩

set_option maxRecDepth 100000 in
theorem val_of {H : Type} {enc : TypeId × Value → H} {W : World} {base : Nat} {v : Value} {d : DataW H} {p : List MemPlace} (hv : Value.okWide Try.prog W .any base 48 v)
    (h : DataW.Trod enc Try.prog W 0 (fun _ => true) true 48 v d p) (hlt : ∀ x ∈ p, x.block < W.heap.size) : ∃ n u l, v = .agg #[.int .i64 n, u] ∧ Rd W u l := by
  obtain ⟨v0, v1, y0, y1, n, rfl, rfl, rfl, h0, h1⟩ := open_agg2 Try.underlying48 (by kernel_rfl) Try.cells48 hv h
  obtain ⟨z, hz, _⟩ := DataW.trod_int Try.underlying3 h0
  have hz' : v0 = .int .i64 z := by simpa using hz
  obtain ⟨d1, p1⟩ := y1
  obtain ⟨l, hl⟩ := rd_of_trod h1 (fun x hx => hlt x (List.mem_append_right _ hx))
  exact ⟨z, v1, l, by rw [hz'], hl⟩
end Go.Proofs.Ytnenlnadmdlcfaa

/- Part: An argument's cells: numbers, then kin; lists of such. -/
namespace Go.Proofs.Ytnenlnadmdlcfaa
open Go.ChangeShapes Go.WideShapes Go.ChangeAt Go.RowKit Go.Deep Go.Joins

theorem Try.cells46' : Try.prog.cellsOf 46 = 1 := by kernel_rfl
/-- The cells of an element: its m numbers, then its kin. -/
def CellsK (W : World) (m : Nat) (kn : Bool) (cs : List Value) (x : KD) : Prop :=
  x.1.length = m ∧ ∃ us : List Value, cs = x.1.map (fun n => Value.int .i64 n) ++ us ∧ (kn = true → ∃ u, us = [u] ∧ Rd W u x.2) ∧ (kn = false → us = [] ∧ x.2 = [])
theorem CellsK.append {W : World} {m1 m2 : Nat} {kn : Bool} {cs1 cs2 : List Value} {x1 x2 : KD} (h1 : CellsK W m1 false cs1 x1) (h2 : CellsK W m2 kn cs2 x2) : CellsK W (m1 + m2) kn (cs1 ++ cs2) (x1.1 ++ x2.1, x2.2) := by
  obtain ⟨l1, us1, rfl, _, g1⟩ := h1
  obtain ⟨l2, us2, rfl, f2, g2⟩ := h2
  obtain ⟨rfl, _⟩ := g1 rfl
  exact ⟨by rw [List.length_append, l1, l2], us2, by simp, f2, g2⟩
theorem CellsK.at {W : World} {m : Nat} {kn : Bool} {cs : List Value} {x : KD} {b p : Nat} (h : CellsK W m kn cs x) (hc : ∀ j, j < cs.length → W.cell? ⟨b, p + j, none⟩ = cs[j]?) : AtK m kn W b p x := by
  obtain ⟨l, us, rfl, f, g⟩ := h
  refine ⟨l, fun j hj => ?_, fun hk => ?_, fun hk => (g hk).2⟩
  · rw [hc j (by simp; omega), List.getElem?_append_left (by simp; omega), List.getElem?_map, List.getElem?_eq_getElem (by omega)]
    simp [List.getD_eq_getElem?_getD, List.getElem?_eq_getElem (show j < x.1.length by omega)]
  · obtain ⟨u, rfl, hu⟩ := f hk
    exact ⟨u, by rw [hc m (by simp [l]), List.getElem?_append_right (by simp [l])]; simp [l], hu⟩
/-- Whatever is read by a type has such cells. -/
def ElemK {H : Type} (enc : TypeId × Value → H) (W : World) (t : TypeId) (m : Nat) (kn : Bool) : Prop :=
  ∀ (fuel : Nat) (cs : List Value) (d : DataW H) (p : List MemPlace), DataW.trod enc Try.prog W 0 (fun _ => true) true fuel t cs = some (d, p) → (∀ x ∈ p, x.block < W.heap.size) → ∃ x, CellsK W m kn cs x
theorem elem_int {H : Type} (enc : TypeId × Value → H) (W : World) : ElemK enc W 3 1 false := by
  intro fuel cs d p h _
  obtain ⟨z, hz, _⟩ := DataW.trod_int Try.underlying3 h
  exact ⟨([z], []), rfl, [], by simpa using hz, fun q => (by cases q), fun _ => ⟨rfl, rfl⟩⟩
theorem elem_kin {H : Type} (enc : TypeId × Value → H) (W : World) : ElemK enc W 46 0 true := by
  intro fuel cs d p h hlt
  have : ∃ v, cs = [v] := by
    rcases open_slice Try.underlying46 h with ⟨hc, _⟩ | ⟨a, len, cap, _, _, _, _, hc, _⟩
    · exact ⟨_, hc⟩
    · exact ⟨_, hc⟩
  obtain ⟨v, rfl⟩ := this
  obtain ⟨l, hl⟩ := rd_of_trod h hlt
  exact ⟨([], l), rfl, [v], rfl, fun _ => ⟨v, rfl, hl⟩, fun q => (by cases q)⟩

set_option maxRecDepth 100000 in
theorem rdM_of_trod {H : Type} {enc : TypeId × Value → H} {W : World} {v : Value} {d : DataW H} {p : List MemPlace} {fuel : Nat} {t e : TypeId} {sz m : Nat} {kn : Bool} (ht : Try.prog.underlying t = some (.slice e)) (hce : Try.prog.cellsOf e = sz) (hsz : 0 < sz) (he : ElemK enc W e m kn)
    (hf : DataW.trod enc Try.prog W 0 (fun _ => true) true fuel t [v] = some (d, p)) (hlt : ∀ x ∈ p, x.block < W.heap.size) : ∃ L, RdM sz m kn W v L := by
  rcases open_slice ht hf with ⟨hcs, _⟩ | ⟨a, len, cap, mm, n, D, Pl, hcs, _, hl, hm, hmm, hx, hcell⟩
  · simp at hcs
    subst hcs
    exact ⟨[], RdM.nil W none 0⟩
  · simp at hcs
    subst hcs
    simp only [if_true] at hmm
    subst hmm
    simp only [Prod.mk.injEq] at hx
    rw [hce] at hcell hx
    have each : ∀ i, i < mm → ∃ q : List Value × KD, W.cells? 0 (a.add (i * sz)) sz = some q.1 ∧ CellsK W m kn q.1 q.2 := by
      intro i hi
      obtain ⟨cs', h1, h2⟩ := hcell i hi
      obtain ⟨x, hxk⟩ := he n cs' (D i) (Pl i) h2 (fun x hx1 => hlt x (by
        rw [hx.2]
        exact List.mem_append_right _ (List.mem_flatMap.2 ⟨i, List.mem_range.2 hi, hx1⟩)))
      exact ⟨(cs', x), h1, hxk⟩
    let N : Nat → KD := fun i => if h : i < mm then (each i h).choose.2 else kd0
    refine ⟨(List.range len).map N, some a, mm, by simp, by simp only [List.length_map, List.length_range]; omega, fun h0 => ?_⟩
    simp only [List.length_map, List.length_range] at h0 ⊢
    have hfirst : ∃ u, W.cell? (a.add (0 * sz)) = some u := by
      obtain ⟨cs', h1, _⟩ := hcell 0 (by omega)
      obtain ⟨_, hlen, hcc⟩ := World.cells?_some h1
      have := hcc 0 hsz
      refine ⟨cs'[0]'(by omega), ?_⟩
      rw [add_add, Nat.add_zero] at this
      rw [this]
      simp [List.getElem?_eq_getElem (show 0 < cs'.length by omega)]
    obtain ⟨b, off, spot⟩ := a
    have hs : spot = none := by
      obtain ⟨u, hu⟩ := hfirst
      simpa [Addr.add] using World.cell?_spot hu
    subst hs
    refine ⟨b, off, rfl, ?_, fun i hi => ?_⟩
    · have := hlt (.cell b off) (by rw [hx.2]; exact List.mem_append_left _ (MemPlace.mem_row.2 ⟨0, Nat.mul_pos (by omega) hsz, by simp⟩))
      exact this
    · have hg : ((List.range len).map N).getD i kd0 = N i := by
        simp [List.getD_eq_getElem?_getD, hi]
      rw [hg]
      have hi' : i < mm := by omega
      obtain ⟨h1, h2⟩ := (each i hi').choose_spec
      have hN : N i = (each i hi').choose.2 := by simp only [N, dif_pos hi']
      rw [hN]
      obtain ⟨_, hlen, hcc⟩ := World.cells?_some h1
      refine h2.at fun j hj => ?_
      have e : (((⟨b, off, none⟩ : Addr).add (i * sz)).add j) = ⟨b, off + i * sz + j, none⟩ := by rw [add_plain, add_plain]
      exact (congrArg W.cell? e).symm.trans (hcc j (by omega))
end Go.Proofs.Ytnenlnadmdlcfaa

/- Part: An argument that is a Cache. Written by a program (gopen.py). -/
namespace Go.Proofs.Ytnenlnadmdlcfaa
open Go.ChangeShapes Go.WideShapes Go.ChangeAt Go.RowKit Go.Deep Go.Joins

theorem Try.cells_Val : Try.prog.cellsOf 48 = 2 := by kernel_rfl
set_option maxRecDepth 100000 in
theorem elem_Val {H : Type} (enc : TypeId × Value → H) (W : World) : ElemK enc W 48 1 true := by
  intro fuel cs d p h hlt
  obtain ⟨xs, n, _, hx, hl, hxl, hff⟩ := DataW.trod_struct Try.underlying48 h
  rw [Try.cells_Val] at hl
  simp only [Prod.mk.injEq] at hx
  match xs, hxl, hx, hff with
  | [(d0, q0), (d1, q1)], _, hx, hff =>
    have h0 : DataW.trod enc Try.prog W 0 (fun _ => true) true n 3 ((cs.drop 0).take 1) = some (d0, q0) := by
      have h := hff 0 _ rfl
      first | exact h | (rw [Try.cells3] at h; exact h)
    obtain ⟨x0, k0⟩ := elem_int enc W _ _ _ _ h0 (fun x hx1 => hlt x (by rw [hx.2]; simp only [List.flatMap_cons, List.flatMap_nil, List.mem_append]; exact Or.inl hx1))
    have h1 : DataW.trod enc Try.prog W 0 (fun _ => true) true n 46 ((cs.drop 1).take 1) = some (d1, q1) := by
      have h := hff 1 _ rfl
      first | exact h | (rw [Try.cells46'] at h; exact h)
    obtain ⟨x1, k1⟩ := elem_kin enc W _ _ _ _ h1 (fun x hx1 => hlt x (by rw [hx.2]; simp only [List.flatMap_cons, List.flatMap_nil, List.mem_append]; exact Or.inr (Or.inl hx1)))
    have e : cs = (cs.drop 0).take 1 ++ ((cs.drop 1).take 1) := by
      match cs, hl with
      | [z0, z1], _ => rfl
    have k := (k0.append k1)
    rw [← e] at k
    exact ⟨_, k⟩
theorem Try.cells_Item : Try.prog.cellsOf 50 = 4 := by kernel_rfl
set_option maxRecDepth 100000 in
theorem elem_Item {H : Type} (enc : TypeId × Value → H) (W : World) : ElemK enc W 50 3 true := by
  intro fuel cs d p h hlt
  obtain ⟨xs, n, _, hx, hl, hxl, hff⟩ := DataW.trod_struct Try.underlying50 h
  rw [Try.cells_Item] at hl
  simp only [Prod.mk.injEq] at hx
  match xs, hxl, hx, hff with
  | [(d0, q0), (d1, q1), (d2, q2)], _, hx, hff =>
    have h0 : DataW.trod enc Try.prog W 0 (fun _ => true) true n 3 ((cs.drop 0).take 1) = some (d0, q0) := by
      have h := hff 0 _ rfl
      first | exact h | (rw [Try.cells3] at h; exact h)
    obtain ⟨x0, k0⟩ := elem_int enc W _ _ _ _ h0 (fun x hx1 => hlt x (by rw [hx.2]; simp only [List.flatMap_cons, List.flatMap_nil, List.mem_append]; exact Or.inl hx1))
    have h1 : DataW.trod enc Try.prog W 0 (fun _ => true) true n 3 ((cs.drop 1).take 1) = some (d1, q1) := by
      have h := hff 1 _ rfl
      first | exact h | (rw [Try.cells3] at h; exact h)
    obtain ⟨x1, k1⟩ := elem_int enc W _ _ _ _ h1 (fun x hx1 => hlt x (by rw [hx.2]; simp only [List.flatMap_cons, List.flatMap_nil, List.mem_append]; exact Or.inr (Or.inl hx1)))
    have h2 : DataW.trod enc Try.prog W 0 (fun _ => true) true n 48 ((cs.drop 2).take 2) = some (d2, q2) := by
      have h := hff 2 _ rfl
      first | exact h | (rw [Try.cells_Val] at h; exact h)
    obtain ⟨x2, k2⟩ := elem_Val enc W _ _ _ _ h2 (fun x hx1 => hlt x (by rw [hx.2]; simp only [List.flatMap_cons, List.flatMap_nil, List.mem_append]; exact Or.inr (Or.inr (Or.inl hx1))))
    have e : cs = (cs.drop 0).take 1 ++ ((cs.drop 1).take 1 ++ ((cs.drop 2).take 2)) := by
      match cs, hl with
      | [z0, z1, z2, z3], _ => rfl
    have k := (k0.append (k1.append k2))
    rw [← e] at k
    exact ⟨_, k⟩
theorem Try.cellsL_Item : Try.prog.cellsOf 22 = 1 := by kernel_rfl
theorem Try.cellsL_int : Try.prog.cellsOf 23 = 1 := by kernel_rfl
theorem Try.cells_Cache : Try.prog.cellsOf 25 = 2 := by kernel_rfl
set_option maxRecDepth 100000 in
theorem cache_of {H : Type} {enc : TypeId × Value → H} {W : World} {base : Nat} {v : Value} {d : DataW H} {p : List MemPlace} (hv : Value.okWide Try.prog W .any base 25 v)
    (h : DataW.Trod enc Try.prog W 0 (fun _ => true) true 25 v d p) (hlt : ∀ x ∈ p, x.block < W.heap.size) : ∃ (u0 u1 : Value) (L0 L1 : List KD), v = .agg #[u0, u1] ∧ RSCache W u0 u1 L0 L1 := by
  obtain ⟨cs, rfl, hsz⟩ := okWide_struct Try.underlying25 hv
  rw [Try.cells_Cache] at hsz
  obtain ⟨z0, z1, rfl⟩ : ∃ z0 z1, cs = #[z0, z1] := by
    obtain ⟨l⟩ := cs
    match l, hsz with
    | [z0, z1], _ => exact ⟨z0, z1, rfl⟩
  obtain ⟨fuel, hf⟩ := h
  obtain ⟨xs, n, _, hx, _, hxl, hff⟩ := DataW.trod_struct Try.underlying25 hf
  simp only [Prod.mk.injEq] at hx
  match xs, hxl, hx, hff with
  | [(d0, q0), (d1, q1)], _, hx, hff =>
    have h0 := hff 0 _ rfl
    simp [Value.cells, Try.cellsL_Item] at h0
    obtain ⟨L0, hL0⟩ := rdM_of_trod (sz := 4) (m := 3) (kn := true) Try.underlying22 Try.cells_Item (by decide) (elem_Item enc W) h0 (fun x hx1 => hlt x (by rw [hx.2]; simp only [List.flatMap_cons, List.flatMap_nil, List.mem_append]; exact Or.inl hx1))
    have h1 := hff 1 _ rfl
    simp [Value.cells, Try.cellsL_int] at h1
    obtain ⟨L1, hL1⟩ := rdM_of_trod (sz := 1) (m := 1) (kn := false) Try.underlying23 Try.cells3 (by decide) (elem_int enc W) h1 (fun x hx1 => hlt x (by rw [hx.2]; simp only [List.flatMap_cons, List.flatMap_nil, List.mem_append]; exact Or.inr (Or.inl hx1)))
    exact ⟨z0, z1, L0, L1, rfl, ⟨hL0, hL1⟩⟩
end Go.Proofs.Ytnenlnadmdlcfaa

/- Part: What every row here asks of the program: two closed facts. -/
namespace Go.Proofs.Ytnenlnadmdlcfaa
open Go.ChangeShapes Go.WideShapes Go.ChangeAt Go.RowKit
end Go.Proofs.Ytnenlnadmdlcfaa

/- Part: Proved here: FnExactCacheFloor returns true for every cache and every two numbers (no condition); what it was handed reads as before. -/
namespace Go.Proofs.Ytnenlnadmdlcfaa
open Go.ChangeShapes Go.WideShapes Go.ChangeAt Go.RowKit

set_option maxRecDepth 100000 in
theorem cFloor_lifted (os : Os) (started : os.Started) (H : Type) (enc : TypeId × Value → H) :
    ReturnsInHanded {} Try.checked os 5 .any (Rows.fnExactCacheFloorSpec.pre6 enc Try.prog Try.f5 Rows.fnExactCacheFloorRow.domain false) (Rows.fnExactCacheFloorSpec.post enc Try.prog Try.f5 false true false false) := by
  refine returnsInHanded_of_change (C := Try.checked) Try.own started (by kernel_rfl) Try.func5
    (ChangeSpec.witness6 (enc := enc) (C := Try.checked) false ⟨#[], #[.agg #[.slice none 0 0, .slice none 0 0], .int .i64 0, .int .i64 0], []⟩ 8 (by kernel_rfl) (by kernel_rfl) (by kernel_rfl) (by kernel_rfl)) ?_
  intro W base args ds gs before hval0 hW _ _
  have hval : ∀ (j : Nat) t v, Try.f5.params[j]? = some t → args[j]? = some v → Value.okWide Try.prog W .any base t v := hval0
  have hW' := hW
  obtain ⟨p, q, hA0, hV, rfl, _, _⟩ := hW
  have hA : DataW.TrodAll enc Try.prog W 0 (fun _ => true) true Try.f5.params.toList args.toList ds p := hA0
  rw [Try.params5] at hA hval
  obtain ⟨v0, v1, v2, d0, d1, d2, p0, p1, p2, rfl, rfl, rfl, h0, h1, h2⟩ := trodAll_three hA
  obtain ⟨rfl, rfl⟩ := trodVars_none hV
  obtain ⟨n1, rfl, rfl, rfl, wn1⟩ := open_int Try.underlying3 (hval 1 3 v1 rfl rfl) h1
  obtain ⟨n2, rfl, rfl, rfl, wn2⟩ := open_int Try.underlying3 (hval 2 3 v2 rfl rfl) h2
  clear hA0 hval0
  simp only [List.append_nil] at hW'
  have hlt0 : ∀ x ∈ p0, x.block < W.heap.size := fun x hx => by have := hW'.lt x (by first | exact hx | (simp; first | exact hx | exact Or.inl hx | exact Or.inr hx | exact Or.inr (Or.inl hx))); exact this
  obtain ⟨u0_0, u0_1, l0_0, l0_1, ev0, hl0⟩ := cache_of (hval 0 25 v0 rfl rfl) h0 hlt0
  have hargs0 : ∀ (W' : World), Below W.heap.size W W' → DataW.Trod enc Try.prog W' 0 (fun b => decide (b < W.heap.size)) true 25 v0 d0 p0 :=
    fun W' hn => Below.trod Try.laidOut (by kernel_rfl) (of_decide_eq_true (by kernel_rfl)) h0 hn hlt0
  subst ev0
  refine (lawCFloor_any u0_0 u0_1 l0_0 l0_1 n1 n2 W hl0).mono fun e W' ⟨he, hnx⟩ => ?_
  subst he
  exact ⟨_, rfl, _, _, _, [], p0 ++ ([] ++ ([])), [], hW', trodAll_mk1 (shut_bool Try.underlying4 _), trodAll_mk3 (hargs0 _ hnx) (shut_int Try.underlying3 wn1) (shut_int Try.underlying3 wn2), rfl, hnx.frame _, fun h => by cases h⟩

theorem cFloor_holds : Rows.FnExactCacheFloorSaid :=
  OpenClaim.holds_of_wide 5 Try.f5 rfl rfl rfl rfl rfl rfl rfl ⟨rfl, rfl, rfl, rfl, rfl⟩ rfl rfl rfl rfl rfl (by kernel_rfl) Try.func5 (by kernel_rfl)
    (of_decide_eq_true (by kernel_rfl)) (by unfold Func.isWrapper; first | (rw [if_pos (by decide +kernel)]; kernel_rfl) | (rw [if_neg (by decide +kernel)]; exact ⟨rfl, rfl⟩))
    (fun os started H enc _ => cFloor_lifted os started H enc)
#print axioms cFloor_holds

end Go.Proofs.Ytnenlnadmdlcfaa
