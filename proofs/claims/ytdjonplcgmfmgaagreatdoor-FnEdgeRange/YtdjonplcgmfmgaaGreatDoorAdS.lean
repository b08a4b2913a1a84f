/- spec.l1Add, spec.EdgeAdd: contracts. -/
import Derived.Test.YtdjonplcgmfmgaaGreatDoorDr
import Derived.Test.YtdjonplcgmfmgaaGreatDoorAd
namespace Go.Proofs.YtdjonplcgmfmgaaGreatDoor
open Go.RowKit Go.Shelf
attribute [local go_sem ↓] Go.wp_at_zero Go.wp_at_succ

/-- The first k of an owned list are owned. -/
theorem Own.take {w : World} {B g cap : Nat} {l : List (Int × Int)} (h : Own w B (.slice (some ⟨g, 0, none⟩) l.length cap) l) (k : Nat) (hk : k ≤ l.length) : Own w B (.slice (some ⟨g, 0, none⟩) k cap) (l.take k) := by
  have hl : (l.take k).length = k := by simp; omega
  rcases h.2 with ⟨hh, _⟩ | ⟨g', cap', cur, hh, hb, hg, hnc, hcm, hcs, ht⟩
  · cases hh
  · cases hh
    refine ⟨by rw [ecells_length], .inr ⟨g, cap, cur, by rw [hl], hb, hg, by omega, hcm, hcs, ?_⟩⟩
    have e1 : ecells l = ecells (l.take k) ++ ecells (l.drop k) := by rw [← ecells_append, List.take_append_drop]
    rw [hl]
    have : cur.toList.take (k * 2) = (cur.toList.take (l.length * 2)).take (k * 2) := by rw [List.take_take, Nat.min_eq_left (by omega)]
    rw [this, ht, e1, List.take_left' (by rw [ecells_length, hl])]

theorem Own.at {w : World} {B g n cap : Nat} {l : List (Int × Int)} (h : Own w B (.slice (some ⟨g, 0, none⟩) n cap) l) {k : Nat} (hk : k < l.length) :
    w.cell? ⟨g, k * 2, none⟩ = some (.int .i64 (l.getD k (0, 0)).1) ∧ w.cell? ⟨g, k * 2 + 1, none⟩ = some (.int .i64 (l.getD k (0, 0)).2) := by
  obtain ⟨ao, cap', hv, _, hc⟩ := h.rd
  cases hv
  obtain ⟨b, off, he, _, hcc⟩ := hc (by omega)
  cases he
  simpa using hcc k hk

theorem Own.from {w : World} {B g cap : Nat} {l : List (Int × Int)} (h : Own w B (.slice (some ⟨g, 0, none⟩) l.length cap) l) (k : Nat) : Rd w (.slice (some ⟨g, k * 2, none⟩) (l.drop k).length (cap - k)) (l.drop k) := by
  have hb := h.block g rfl
  have hm : l.length ≤ maxLen := by
    obtain ⟨_, _, _, hm, _⟩ := h.rd
    exact hm
  refine ⟨_, _, rfl, by simp; omega, fun h0 => ⟨g, k * 2, rfl, hb.2, fun i hi => ?_⟩⟩
  rw [List.length_drop] at hi
  obtain ⟨c0, c1⟩ := h.at (k := k + i) (by omega)
  have e : (l.drop k).getD i (0, 0) = l.getD (k + i) (0, 0) := by simp [List.getD_eq_getElem?_getD]
  rw [e, show k * 2 + i * 2 = (k + i) * 2 by omega]
  exact ⟨c0, c1⟩

/-- A slice value that reads as a list is copied: onto nothing. -/
theorem Rd.cells {w : World} {b off n cap : Nat} {l : List (Int × Int)} (h : Rd w (.slice (some ⟨b, off, none⟩) n cap) l) : ∀ j u, (ecells l)[j]? = some u → w.cell? ((⟨b, off, none⟩ : Addr).add j) = some u := by
  obtain ⟨ao, cap', hv, hl, hc⟩ := h
  cases hv
  intro j u hu
  have hj : j < l.length * 2 := by rw [← ecells_length]; exact (List.getElem?_eq_some_iff.1 hu).1
  obtain ⟨b', off', he, hlt, hcc⟩ := hc (by omega)
  cases he
  obtain ⟨c0, c1⟩ := hcc (j / 2) (by omega)
  have g := ecells_get l (j / 2) (by omega)
  rw [Addr.add_lit]
  by_cases hp : j % 2 = 0
  · have e : j / 2 * 2 = j := by omega
    rw [e] at c0 g
    rw [c0, ← g.1, hu]
  · have e : j / 2 * 2 + 1 = j := by omega
    rw [Nat.add_assoc, e] at c1
    rw [e] at g
    rw [c1, ← g.2, hu]

theorem copy_any (b off n cap : Nat) (l : List (Int × Int)) (w : World) (hn : l.length = n) (h : Rd w (.slice (some ⟨b, off, none⟩) l.length cap) l) (hl : l.length ≤ 1099511627776) :
    Calls Tryz.prog 71 #[.slice (some ⟨b, off, none⟩) n cap] w fun x w' => ∃ v', x = .returned v' ∧ Own w' w.heap.size v' l ∧ Below w.heap.size w w' ∧ ∃ g cp, v' = .slice (some ⟨g, 0, none⟩) n cp := by
  subst hn
  obtain ⟨i0, hi, hz0, hz1, hz2⟩ := info_parts Tryz.info53
  have hk1 : 0 + l.length ≤ maxLen := by unfold maxLen; omega
  have hk2 : (0 + l.length) * 16 ≤ 140737488355328 := by omega
  have HC := hid ((h.later ((Below.refl _ w).alloc (Nat.le_refl _) (.cells #[] 53))).cells)
  have HR := hid (World.ownsRow_lit (e := 53) (size := 2) w #[] 0 (Nat.le_refl _) (Nat.zero_le _) rfl)
  have hbs : w.heap.size ≤ (w.alloc (.cells #[] 53)).heap.size := by simp
  have hone := ecells_one l
  have hlen := ecells_length l
  clear h
  go_enter Tryz.func71, Tryz.ntmps71
  go_wp2_with (at_builtin; refine wpList_append_own _ rfl _ _ 23 rfl w.heap.size 53 i0 (.agg #[.int .i64 0, .int .i64 0]) 2 16 Tryz.underlying23 hi hz0 hz1 hz2 rfl (by decide) _ _ _ rfl HR.out ⟨b, off, none⟩ l.length cap (ecells l) rfl hlen HC.out hone hk1 hk2 hbs ?_; intro v' w1 hown' hgrow' hnil)
  go_ret
  rw [Nat.zero_add] at hown'
  have hown2 : Own w1 w.heap.size v' l := by
    show World.ownsRow _ _ _ _ _ _ _
    simpa using hown'
  refine ⟨v', rfl, hown2, ((Below.refl _ w).alloc (Nat.le_refl _) _).grown hgrow' hbs (fun j ej => (HR.out.lt j ej).1), ?_⟩
  rcases hown'.2 with ⟨hv, _⟩ | ⟨g, cp, _, hv, _⟩
  · have hno := (hnil.1 hv).1
    cases hno
  · exact ⟨g, cp, hv⟩

theorem take_row {w : World} {B g cap : Nat} {l : List (Int × Int)} (h : Own w B (.slice (some ⟨g, 0, none⟩) l.length cap) l) (k : Nat) (hk : k ≤ l.length) : w.ownsRow B 53 2 (.slice (some ⟨g, 0, none⟩) k cap) k (ecells (l.take k)) := by
  have := h.take k hk
  unfold Own at this
  rwa [show (l.take k).length = k by simp; omega] at this
/-- The cells of a list that lies elsewhere, behind an append onto row g. -/
theorem tail_cells {w w1 w6 : World} {B gt ct g n : Nat} {l : List (Int × Int)} (o : Obj) (h : Own w B (.slice (some ⟨gt, 0, none⟩) n ct) l) (hne : gt ≠ g) (hg : w1.grownBy w6 (some g)) (he : w1 = (w.alloc o).drew) :
    ∀ j u, (ecells l)[j]? = some u → w6.cell? ((⟨gt, 0, none⟩ : Addr).add j) = some u := by
  subst he
  intro j u hu
  have h1 := World.ownsRow.cells (h.later (((Below.refl _ w).alloc (Nat.le_refl _) o).drew)) (g := gt) rfl j u hu
  exact hg.cell h1 (fun e => hne (by rw [Addr.add_lit] at e; exact Option.some.inj e))

theorem own_three {w : World} {B k : Nat} {v : Value} {l : List (Int × Int)} {x1 x2 : Int} (h : w.ownsRow B 53 2 v (k + 1 + (l.length - k)) (ecells (l.take k) ++ [.int .i64 x1, .int .i64 x2] ++ ecells (l.drop k))) (hk : k ≤ l.length) : Own w B v (insAt l k (x1, x2)) := by
  have hlen : (insAt l k (x1, x2)).length = k + 1 + (l.length - k) := by simp [insAt]; omega
  have hc : ecells (insAt l k (x1, x2)) = ecells (l.take k) ++ [.int .i64 x1, .int .i64 x2] ++ ecells (l.drop k) := by
    rw [insAt, ecells_append]
    simp [ecells]
  unfold Own
  rw [hlen, hc]
  exact h

/-- append onto an owned row, as one step of a region that draws its order. -/
theorem step_append_own {P : Program} {ops : Array Oper} {o : Oper} {a : Act} {w : World} {K : Act → World → Prop} {Q : Exit → Act → World → Prop} {E : Prop} (hgd : o.guard = none) (s x : Operand) (t : TypeId)
    (ho : o.op = .call { callee := .builtin .append, args := #[s, x], argTypes := #[t, t] })
    (base : Nat) (e : TypeId) (i : TypeInfo) (z : Value) (size bytes : Nat) (ht : P.underlying t = some (.slice e)) (hi : P.info? e = some i) (hz : i.zero = some z)
    (hsize : i.size = size) (hby : i.bytes = bytes) (hzs : z.cells.size = size) (hsz : 0 < size)
    (v : Value) (n : Nat) (xs : List Value) (hs : a.eval s = v) (hown : w.ownsRow base e size v n xs)
    (ad : Addr) (m c : Nat) (news : List Value) (hx : a.eval x = .slice (some ad) m c) (hl : news.length = m * size) (hnews : ∀ j u, news[j]? = some u → w.cell? (ad.add j) = some u) (h1 : ∀ u ∈ news, u.oneCell' = true)
    (h63 : n + m ≤ maxLen) (hbytes : (n + m) * bytes ≤ 140737488355328) (hbase : base ≤ w.heap.size)
    (h : ∀ v' w', w'.ownsRow base e size v' (n + m) (xs ++ news) → w.grownBy w' v.ownBlock → (v' = .slice none 0 0 ↔ v = .slice none 0 0 ∧ m = 0) → K (a.put o.dst v') w') :
    if Region.wanted o (yielded ops a.tmps) = true then Oper.wp P o a w K Q else E := by
  have hw : Region.wanted o (yielded ops a.tmps) = true := by simp [Region.wanted, hgd]
  rw [if_pos hw]
  obtain ⟨v', w', hr, h2, h3, h4⟩ := run_append_own (P := P) w base t o.type e i z size bytes ht hi hz hsize hby hzs hsz v n xs hown ad m c news hl hnews h1 h63 hbytes hbase
  unfold Oper.wp
  simp [execOp, ho, resolve, invoke, builtin, hs, hx, hr, Result.andThen]
  exact h v' w' h2 h3 h4

set_option maxRecDepth 100000 in
set_option maxHeartbeats 1000000 in
theorem l1Add_any (v : Value) (l : List (Int × Int)) (x1 x2 : Int) (w : World) (h : Rd w v l) (hll : l.length ≤ 1099511627776) (hok : okL l = true) :
    Calls Tryz.prog 53 #[v, .agg #[.int .i64 x1, .int .i64 x2]] w fun x w' => ∃ v', x = .returned v' ∧ Own w' w.heap.size v' (insL (l.filter (notWho x1)) (x1, x2)) ∧ Below w.heap.size w w' := by
  have hG := (okL_iff _).1 (okL_filter (notWho x1) _ hok)
  have hLL := Nat.le_trans (List.length_filter_le (notWho x1) l) hll
  have hD := l1Drop_any v l x1
  obtain ⟨rest, hrest⟩ : ∃ r, l.filter (notWho x1) = r := ⟨_, rfl⟩
  simp only [hrest] at hG hLL hD ⊢
  have HG := hid hG
  clear hG hrest
  obtain ⟨ao, cap, hv, hml, _⟩ := id h
  subst hv
  unfold maxLen at hml
  go_enter Tryz.func53, Tryz.ntmps53
  go_wp2_with fail
  have hP0 : PairAt (w.alloc (.cells #[.int .i64 x1, .int .i64 x2] 53)) w.heap.size (x1, x2) := PairAt.new w (x1, x2)
  have hB0 : Below w.heap.size w (w.alloc (.cells #[.int .i64 x1, .int .i64 x2] 53)) := (Below.refl _ w).alloc (Nat.le_refl _) _
  obtain ⟨W0, hW0⟩ : ∃ W0, w.alloc (.cells #[.int .i64 x1, .int .i64 x2] 53) = W0 := ⟨_, rfl⟩
  rw [hW0] at hP0 hB0 ⊢
  clear hW0
  refine (hD W0 (h.later hB0) hll).mono ?_
  rintro e w1 ⟨v', rfl, own, ⟨g, cp, rfl⟩, b1⟩
  have HK := hid (show KeepAdd w1 W0 w.heap.size (.slice (some ⟨g, 0, none⟩) rest.length cp) rest (x1, x2) from ⟨hP0.past b1, own, b1⟩)
  clear hP0 own b1 hD h hok
  have hcp : rest.length ≤ cp ∧ cp ≤ 9223372036854775807 := by
    rcases HK.out.own.2 with ⟨hh, _⟩ | ⟨_, _, _, hh, _, _, hnc, hcm, _⟩
    · cases hh
    · cases hh; unfold maxLen at hcm; exact ⟨hnc, by omega⟩
  obtain ⟨hcp1, hcp2⟩ := hcp
  go_wp2
  go_loopw [7] (fun i wr => ∃ k : Nat, k ≤ rest.length ∧ i = .int .i64 k ∧ Hid (∀ t, t < k → aheadB (rest.getD t (0, 0)) (x1, x2) = true) ∧ Hid (KeepAdd wr W0 w.heap.size (.slice (some ⟨g, 0, none⟩) rest.length cp) rest (x1, x2))) (fun i _ => rest.length - (intOf i).toNat)
  case atStart => exact ⟨0, Nat.zero_le _, rfl, fun t ht => absurd ht (Nat.not_lt_zero _), HK⟩
  case round =>
    obtain ⟨k, hk, rfl, hlo, hkeep⟩ := hrel
    by_cases hlt : k < rest.length
    · obtain ⟨c0, c1⟩ := hkeep.out.own.at hlt
      have t0 := hkeep.out.pair.c0
      have t1 := hkeep.out.pair.c1
      cases hah : aheadB (rest.getD k (0, 0)) (x1, x2) with
      | true =>
        have hlo' : Hid (∀ t, t < k + 1 → aheadB (rest.getD t (0, 0)) (x1, x2) = true) := fun t ht => ahead_head HG.out (by omega) hlt hah
        generalize rest.getD k (0, 0) = y at c0 c1 hah
        go_wp2
        have r0 := cell_regrown c0
        have r1 := cell_regrown c1
        have r2 := cell_regrown t0
        have r3 := cell_regrown t1
        refine wp_region_quiet_below (by kernel_rfl) (by kernel_rfl) ?_
        repeat (first | go_big_quiet_skip | (go_big_quiet_want; go_big_quiet_op; first | go_big_quiet_on | go_big_quiet_call (first | (go_at_call 43; exact Calls.regrown_of (l1Ahead_any _ _ _ _ _)))))
        refine wpQuiet_nil ?_
        rintro wq ⟨pq, hwq⟩
        have hq : Below wr.heap.size wr wq := by rw [hwq]; exact below_regrown _ _ _
        clear hwq pq
        clear r0 r1 r2 r3
        go_wp2
        go_roundw
        case rel => exact ⟨k + 1, by omega, by go_num, hlo', hid (hkeep.out.later hq)⟩
        case measure => simp [intOf]; omega
      | false =>
        have HPL := hid (placeN_eq rest (x1, x2) k hk (fun t ht => hlo.out t ht) (fun _ => hah))
        generalize rest.getD k (0, 0) = y at c0 c1 hah
        go_wp2
        have r0 := cell_regrown c0
        have r1 := cell_regrown c1
        have r2 := cell_regrown t0
        have r3 := cell_regrown t1
        refine wp_region_quiet_below (by kernel_rfl) (by kernel_rfl) ?_
        repeat (first | go_big_quiet_skip | (go_big_quiet_want; go_big_quiet_op; first | go_big_quiet_on | go_big_quiet_call (first | (go_at_call 43; exact Calls.regrown_of (l1Ahead_any _ _ _ _ _)))))
        refine wpQuiet_nil ?_
        rintro wq ⟨pq, hwq⟩
        have hq : Below wr.heap.size wr wq := by rw [hwq]; exact below_regrown _ _ _
        clear hwq pq
        clear r0 r1 r2 r3
        have hkq := hid (hkeep.out.later hq)
        go_wp2_with fail
        refine (copy_any g (k * 2) (rest.length - k) (cp - k) (rest.drop k) wq (by simp) (hkq.out.own.from k) (by simp; omega)).mono ?_
        rintro e w5 ⟨tl, rfl, ownT, bT, gt, ct, rfl⟩
        have hK5 := hid (hkq.out.later bT)
        have HT := hid ownT
        have t0 := hK5.out.pair.c0
        have t1 := hK5.out.pair.c1
        clear ownT
        obtain ⟨i0, hi, hz0, hz1, hz2⟩ := info_parts Tryz.info53
        have hk1 : k + 1 ≤ maxLen := by unfold maxLen; omega
        have hk2 : (k + 1) * 16 ≤ 140737488355328 := by omega
        have hk3 : k + 1 + (rest.length - k) ≤ maxLen := by unfold maxLen; omega
        have hk4 : (k + 1 + (rest.length - k)) * 16 ≤ 140737488355328 := by omega
        have HA := hid ((hK5.out.alloc (.cells #[.int .i64 x1, .int .i64 x2] 53)).drew)
        have HTK := hid (take_row (HA.out.own) k hk)
        have HNW := hid (pair_cells ((PairAt.new w5 (x1, x2)).past ((Below.refl _ _).drew)))
        have hkc : k ≤ cp := by omega
        have hlt7 : (ecells (rest.drop k)).length = (rest.length - k) * 2 := by rw [ecells_length, List.length_drop]
        have hone7 := ecells_one (rest.drop k)
        have hkc' : (k : Int) ≤ (cp : Int) := by omega
        have hlt5 := hid (HT.out.block gt rfl)
        have hne5 : gt ≠ g := by have := (hkq.out.own.block g rfl).2; have := hlt5.out.1; omega
        go_wp2_with fail
        go_region_law (first
          | (refine step_append_own rfl _ _ 23 rfl W0.heap.size 53 i0 (.agg #[.int .i64 0, .int .i64 0]) 2 16 Tryz.underlying23 hi hz0 hz1 hz2 rfl (by decide) (.slice (some ⟨g, 0, none⟩) k cp) k _ (by simp [Act.eval]) HTK.out ⟨w5.heap.size, 0, none⟩ 1 1 [.int .i64 x1, .int .i64 x2] (by simp [Act.eval]) rfl HNW.out (by simp [Value.oneCell']) hk1 hk2 HA.out.bel.size ?_; intro v6 w6 hown6 hgrow6 _; obtain ⟨g6, c6, rfl⟩ := ownsRow_succ hown6; have HS6 := hid (tail_cells _ HT.out hne5 hgrow6 rfl); have HO6 := hid hown6; have HB6 := hid (HA.out.bel.trans (Below.of_grown hgrow6 HA.out.bel.size (fun q hq => (HTK.out.lt q hq).1))); have hz6 := hid (Nat.le_trans HA.out.bel.size hgrow6.size); clear hown6 hgrow6)
          | (refine step_append_own rfl _ _ 23 rfl W0.heap.size 53 i0 (.agg #[.int .i64 0, .int .i64 0]) 2 16 Tryz.underlying23 hi hz0 hz1 hz2 rfl (by decide) (.slice (some ⟨g6, 0, none⟩) (k + 1) c6) (k + 1) _ (by simp [Act.eval]) HO6.out ⟨gt, 0, none⟩ (rest.length - k) ct (ecells (rest.drop k)) (by simp [Act.eval]) hlt7 HS6.out hone7 hk3 hk4 hz6.out ?_; intro v7 w7 hown7 hgrow7 _; have HO7 := hid hown7; have HB7 := hid (HB6.out.trans (Below.of_grown hgrow7 hz6.out (fun q hq => (HO6.out.lt q hq).1))); clear hown7 hgrow7))
        go_wp2
        go_ret
        refine ⟨v7, rfl, ?_, hB0.trans (HB7.out.mono hB0.size)⟩
        rw [insL, HPL.out]
        exact (own_three HO7.out hk).mono hB0.size
    · obtain rfl : k = rest.length := by omega
      have HPL := hid (placeN_eq rest (x1, x2) _ hk (fun t ht => hlo.out t ht) (fun hh => absurd hh (Nat.lt_irrefl _)))
      go_wp2
      refine wp_region_quiet_below (by kernel_rfl) (by kernel_rfl) ?_
      repeat (first | go_big_quiet_skip | (go_big_quiet_want; go_big_quiet_op; first | go_big_quiet_on | go_big_quiet_call (first | (fail))))
      refine wpQuiet_nil ?_
      rintro wq ⟨pq, hwq⟩
      have hq : Below wr.heap.size wr wq := by rw [hwq]; exact below_regrown _ _ _
      clear hwq pq
      have hkq := hid (hkeep.out.later hq)
      go_wp2_with fail
      all_goals
        refine (copy_any g _ 0 _ (rest.drop rest.length) wq (by simp) (by rw [List.drop_length]; exact Rd.nil _ _ _) (by simp)).mono ?_
        rintro e w5 ⟨tl, rfl, ownT, bT, gt, ct, rfl⟩
        have hK5 := hid (hkq.out.later bT)
        have HT := hid ownT
        have t0 := hK5.out.pair.c0
        have t1 := hK5.out.pair.c1
        clear ownT
        obtain ⟨i0, hi, hz0, hz1, hz2⟩ := info_parts Tryz.info53
        have hk1 : rest.length + 1 ≤ maxLen := by unfold maxLen; omega
        have hk2 : (rest.length + 1) * 16 ≤ 140737488355328 := by omega
        have hk3 : rest.length + 1 + 0 ≤ maxLen := by unfold maxLen; omega
        have hk4 : (rest.length + 1 + 0) * 16 ≤ 140737488355328 := by omega
        have HA := hid ((hK5.out.alloc (.cells #[.int .i64 x1, .int .i64 x2] 53)).drew)
        have HTK := hid (take_row (HA.out.own) rest.length hk)
        have HNW := hid (pair_cells ((PairAt.new w5 (x1, x2)).past ((Below.refl _ _).drew)))
        have hkc : rest.length ≤ cp := by omega
        have hlt7 : (ecells (rest.drop rest.length)).length = 0 * 2 := by rw [ecells_length, List.length_drop, Nat.sub_self]
        have hone7 := ecells_one (rest.drop rest.length)
        have hkc' : (rest.length : Int) ≤ (cp : Int) := by omega
        have hlt5 := hid (HT.out.block gt rfl)
        have hne5 : gt ≠ g := by have := (hkq.out.own.block g rfl).2; have := hlt5.out.1; omega
        go_wp2_with fail
        go_region_law (first
          | (refine step_append_own rfl _ _ 23 rfl W0.heap.size 53 i0 (.agg #[.int .i64 0, .int .i64 0]) 2 16 Tryz.underlying23 hi hz0 hz1 hz2 rfl (by decide) (.slice (some ⟨g, 0, none⟩) rest.length cp) rest.length _ (by simp [Act.eval] <;> omega) HTK.out ⟨w5.heap.size, 0, none⟩ 1 1 [.int .i64 x1, .int .i64 x2] (by simp [Act.eval]) rfl HNW.out (by simp [Value.oneCell']) hk1 hk2 HA.out.bel.size ?_; intro v6 w6 hown6 hgrow6 _; obtain ⟨g6, c6, rfl⟩ := ownsRow_succ hown6; have HS6 := hid (tail_cells _ HT.out hne5 hgrow6 rfl); have HO6 := hid hown6; have HB6 := hid (HA.out.bel.trans (Below.of_grown hgrow6 HA.out.bel.size (fun q hq => (HTK.out.lt q hq).1))); have hz6 := hid (Nat.le_trans HA.out.bel.size hgrow6.size); clear hown6 hgrow6)
          | (refine step_append_own rfl _ _ 23 rfl W0.heap.size 53 i0 (.agg #[.int .i64 0, .int .i64 0]) 2 16 Tryz.underlying23 hi hz0 hz1 hz2 rfl (by decide) (.slice (some ⟨g6, 0, none⟩) (rest.length + 1) c6) (rest.length + 1) _ (by simp [Act.eval]) HO6.out ⟨gt, 0, none⟩ 0 ct (ecells (rest.drop rest.length)) (by simp [Act.eval]) hlt7 HS6.out hone7 hk3 hk4 hz6.out ?_; intro v7 w7 hown7 hgrow7 _; have HO7 := hid hown7; have HB7 := hid (HB6.out.trans (Below.of_grown hgrow7 hz6.out (fun q hq => (HO6.out.lt q hq).1))); clear hown7 hgrow7))
        go_wp2
        go_ret
        refine ⟨v7, rfl, ?_, hB0.trans (HB7.out.mono hB0.size)⟩
        rw [insL, HPL.out]
        exact (own_three (by rw [Nat.sub_self]; exact HO7.out) hk).mono hB0.size

end Go.Proofs.YtdjonplcgmfmgaaGreatDoor
