/- spec.l1Add, spec.EdgeAdd: contracts. -/
import Derived.Test.YtnenlnadmdlcfaaDr
import Derived.Test.YtnenlnadmdlcfaaAd
namespace Go.Proofs.Ytnenlnadmdlcfaa
open Go.RowKit Go.Shelf
attribute [local go_sem ↓] Go.wp_at_zero Go.wp_at_succ

/-- The first k of an owned list are owned. -/
theorem Own.take {w : World} {B g cap : Nat} {l : List (Int × Int)} (h : Own w B (.slice (some ⟨g, 0, none⟩) l.length cap) l) (k : Nat) (hk : k ≤ l.length) : Own w B (.slice (some ⟨g, 0, none⟩) k cap) (l.take k) := by
  have hl : (l.take k).length = k := by simp; omega
  rcases h.2 with ⟨hh, _⟩ | ⟨g', cap', cur, hh, hb, hg, hnc, hcm, hcs, ht⟩
  · cases hh
  · cases hh
    refine ⟨by rw [ecells_length], .inr ⟨g, cap, cur, by rw [hl], hb, hg, by omega, hcm, hcs, ?_⟩⟩
    have e1 : ecells l = ecells (l.take k) ++ ecells (l.drop k) := by rw [← ecells_append, List.take_append_drop]
    rw [hl]
    have : cur.toList.take (k * 2) = (cur.toList.take (l.length * 2)).take (k * 2) := by rw [List.take_take, Nat.min_eq_left (by omega)]
    rw [this, ht, e1, List.take_left' (by rw [ecells_length, hl])]

theorem Own.at {w : World} {B g n cap : Nat} {l : List (Int × Int)} (h : Own w B (.slice (some ⟨g, 0, none⟩) n cap) l) {k : Nat} (hk : k < l.length) :
    w.cell? ⟨g, k * 2, none⟩ = some (.int .i64 (l.getD k (0, 0)).1) ∧ w.cell? ⟨g, k * 2 + 1, none⟩ = some (.int .i64 (l.getD k (0, 0)).2) := by
  obtain ⟨ao, cap', hv, _, hc⟩ := h.rd
  cases hv
  obtain ⟨b, off, he, _, hcc⟩ := hc (by omega)
  cases he
  simpa using hcc k hk

theorem Own.from {w : World} {B g cap : Nat} {l : List (Int × Int)} (h : Own w B (.slice (some ⟨g, 0, none⟩) l.length cap) l) (k : Nat) : Rd w (.slice (some ⟨g, k * 2, none⟩) (l.drop k).length (cap - k)) (l.drop k) := by
  have hb := h.block g rfl
  have hm : l.length ≤ maxLen := by
    obtain ⟨_, _, _, hm, _⟩ := h.rd
    exact hm
  refine ⟨_, _, rfl, by simp; omega, fun h0 => ⟨g, k * 2, rfl, hb.2, fun i hi => ?_⟩⟩
  rw [List.length_drop] at hi
  obtain ⟨c0, c1⟩ := h.at (k := k + i) (by omega)
  have e : (l.drop k).getD i (0, 0) = l.getD (k + i) (0, 0) := by simp [List.getD_eq_getElem?_getD]
  rw [e, show k * 2 + i * 2 = (k + i) * 2 by omega]
  exact ⟨c0, c1⟩

/-- A slice value that reads as a list is copied: onto nothing. -/
theorem Rd.cells {w : World} {b off n cap : Nat} {l : List (Int × Int)} (h : Rd w (.slice (some ⟨b, off, none⟩) n cap) l) : ∀ j u, (ecells l)[j]? = some u → w.cell? ((⟨b, off, none⟩ : Addr).add j) = some u := by
  obtain ⟨ao, cap', hv, hl, hc⟩ := h
  cases hv
  intro j u hu
  have hj : j < l.length * 2 := by rw [← ecells_length]; exact (List.getElem?_eq_some_iff.1 hu).1
  obtain ⟨b', off', he, hlt, hcc⟩ := hc (by omega)
  cases he
  obtain ⟨c0, c1⟩ := hcc (j / 2) (by omega)
  have g := ecells_get l (j / 2) (by omega)
  rw [Addr.add_lit]
  by_cases hp : j % 2 = 0
  · have e : j / 2 * 2 = j := by omega
    rw [e] at c0 g
    rw [c0, ← g.1, hu]
  · have e : j / 2 * 2 + 1 = j := by omega
    rw [Nat.add_assoc, e] at c1
    rw [e] at g
    rw [c1, ← g.2, hu]

theorem copy_any (b off n cap : Nat) (l : List (Int × Int)) (w : World) (hn : l.length = n) (h : Rd w (.slice (some ⟨b, off, none⟩) l.length cap) l) (hl : l.length ≤ 1099511627776) :
    Calls Try.prog 80 #[.slice (some ⟨b, off, none⟩) n cap] w fun x w' => ∃ v', x = .returned v' ∧ Own w' w.heap.size v' l ∧ Below w.heap.size w w' ∧ ∃ g cp, v' = .slice (some ⟨g, 0, none⟩) n cp := by
  subst hn
  obtain ⟨i0, hi, hz0, hz1, hz2⟩ := info_parts Try.info62
  have hk1 : 0 + l.length ≤ maxLen := by unfold maxLen; omega
  have hk2 : (0 + l.length) * 16 ≤ 140737488355328 := by omega
  have HC := hid ((h.later ((Below.refl _ w).alloc (Nat.le_refl _) (.cells #[] 62))).cells)
  have HR := hid (World.ownsRow_lit (e := 62) (size := 2) w #[] 0 (Nat.le_refl _) (Nat.zero_le _) rfl)
  have hbs : w.heap.size ≤ (w.alloc (.cells #[] 62)).heap.size := by simp
  have hone := ecells_one l
  have hlen := ecells_length l
  clear h
  go_enter Try.func80, Try.ntmps80
  go_wp2_with (at_builtin; refine wpList_append_own _ rfl _ _ 27 rfl w.heap.size 62 i0 (.agg #[.int .i64 0, .int .i64 0]) 2 16 Try.underlying27 hi hz0 hz1 hz2 rfl (by decide) _ _ _ rfl HR.out ⟨b, off, none⟩ l.length cap (ecells l) rfl hlen HC.out hone hk1 hk2 hbs ?_; intro v' w1 hown' hgrow' hnil)
  go_ret
  rw [Nat.zero_add] at hown'
  have hown2 : Own w1 w.heap.size v' l := by
    show World.ownsRow _ _ _ _ _ _ _
    simpa using hown'
  refine ⟨v', rfl, hown2, ((Below.refl _ w).alloc (Nat.le_refl _) _).grown hgrow' hbs (fun j ej => (HR.out.lt j ej).1), ?_⟩
  rcases hown'.2 with ⟨hv, _⟩ | ⟨g, cp, _, hv, _⟩
  · have hno := (hnil.1 hv).1
    cases hno
  · exact ⟨g, cp, hv⟩

theorem take_row {w : World} {B g cap : Nat} {l : List (Int × Int)} (h : Own w B (.slice (some ⟨g, 0, none⟩) l.length cap) l) (k : Nat) (hk : k ≤ l.length) : w.ownsRow B 62 2 (.slice (some ⟨g, 0, none⟩) k cap) k (ecells (l.take k)) := by
  have := h.take k hk
  unfold Own at this
  rwa [show (l.take k).length = k by simp; omega] at this
/-- The cells of a list that lies elsewhere, behind an append onto row g. -/
theorem tail_cells {w w1 w6 : World} {B gt ct g n : Nat} {l : List (Int × Int)} (o : Obj) (h : Own w B (.slice (some ⟨gt, 0, none⟩) n ct) l) (hne : gt ≠ g) (hg : w1.grownBy w6 (some g)) (he : w1 = (w.alloc o).drew) :
    ∀ j u, (ecells l)[j]? = some u → w6.cell? ((⟨gt, 0, none⟩ : Addr).add j) = some u := by
  subst he
  intro j u hu
  have h1 := World.ownsRow.cells (h.later (((Below.refl _ w).alloc (Nat.le_refl _) o).drew)) (g := gt) rfl j u hu
  exact hg.cell h1 (fun e => hne (by rw [Addr.add_lit] at e; exact Option.some.inj e))

theorem own_three {w : World} {B k : Nat} {v : Value} {l : List (Int × Int)} {x1 x2 : Int} (h : w.ownsRow B 62 2 v (k + 1 + (l.length - k)) (ecells (l.take k) ++ [.int .i64 x1, .int .i64 x2] ++ ecells (l.drop k))) (hk : k ≤ l.length) : Own w B v (insAt l k (x1, x2)) := by
  have hlen : (insAt l k (x1, x2)).length = k + 1 + (l.length - k) := by simp [insAt]; omega
  have hc : ecells (insAt l k (x1, x2)) = ecells (l.take k) ++ [.int .i64 x1, .int .i64 x2] ++ ecells (l.drop k) := by
    rw [insAt, ecells_append]
    simp [ecells]
  unfold Own
  rw [hlen, hc]
  exact h

/-- append onto an owned row, as one step of a region that draws its order. -/
theorem step_append_own {P : Program} {ops : Array Oper} {o : Oper} {a : Act} {w : World} {K : Act → World → Prop} {Q : Exit → Act → World → Prop} {E : Prop} (hgd : o.guard = none) (s x : Operand) (t : TypeId)
    (ho : o.op = .call { callee := .builtin .append, args := #[s, x], argTypes := #[t, t] })
    (base : Nat) (e : TypeId) (i : TypeInfo) (z : Value) (size bytes : Nat) (ht : P.underlying t = some (.slice e)) (hi : P.info? e = some i) (hz : i.zero = some z)
    (hsize : i.size = size) (hby : i.bytes = bytes) (hzs : z.cells.size = size) (hsz : 0 < size)
    (v : Value) (n : Nat) (xs : List Value) (hs : a.eval s = v) (hown : w.ownsRow base e size v n xs)
    (ad : Addr) (m c : Nat) (news : List Value) (hx : a.eval x = .slice (some ad) m c) (hl : news.length = m * size) (hnews : ∀ j u, news[j]? = some u → w.cell? (ad.add j) = some u) (h1 : ∀ u ∈ news, u.oneCell' = true)
    (h63 : n + m ≤ maxLen) (hbytes : (n + m) * bytes ≤ 140737488355328) (hbase : base ≤ w.heap.size)
    (h : ∀ v' w', w'.ownsRow base e size v' (n + m) (xs ++ news) → w.grownBy w' v.ownBlock → (v' = .slice none 0 0 ↔ v = .slice none 0 0 ∧ m = 0) → K (a.put o.dst v') w') :
    if Region.wanted o (yielded ops a.tmps) = true then Oper.wp P o a w K Q else E := by
  have hw : Region.wanted o (yielded ops a.tmps) = true := by simp [Region.wanted, hgd]
  rw [if_pos hw]
  obtain ⟨v', w', hr, h2, h3, h4⟩ := run_append_own (P := P) w base t o.type e i z size bytes ht hi hz hsize hby hzs hsz v n xs hown ad m c news hl hnews h1 h63 hbytes hbase
  unfold Oper.wp
  simp [execOp, ho, resolve, invoke, builtin, hs, hx, hr, Result.andThen]
  exact h v' w' h2 h3 h4

end Go.Proofs.Ytnenlnadmdlcfaa
