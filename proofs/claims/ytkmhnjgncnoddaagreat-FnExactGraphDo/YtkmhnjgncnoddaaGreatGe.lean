/- szValS, szGraph, toValS, toGraph, eqGraph: contracts. -/
import Derived.Test.YtkmhnjgncnoddaaGreatGd
namespace Go.Proofs.YtkmhnjgncnoddaaGreat
open Go.RowKit
attribute [local go_sem ↓] Go.wp_at_zero Go.wp_at_succ

/-- How much a list of values weighs. -/
def bulkG (L : List ValD) : Nat := (L.map fun x => x.2.length).sum
theorem bulk_step (L : List ValD) (k : Nat) (h : k < L.length) : bulkG (L.take (k + 1)) = bulkG (L.take k) + (L.getD k valD0).2.length := by
  rw [bulkG, bulkG, List.take_succ_eq_append_getElem h, List.map_append, List.sum_append, List.getD_eq_getElem?_getD, List.getElem?_eq_getElem h]
  simp only [List.map_cons, List.map_nil, List.sum_cons, List.sum_nil, Option.getD_some, Nat.add_zero]
theorem bulk_take (L : List ValD) (k : Nat) : bulkG (L.take k) ≤ bulkG L := by
  have h : bulkG L = bulkG (L.take k) + bulkG (L.drop k) := by
    rw [bulkG, bulkG, bulkG, ← List.sum_append, ← List.map_append, List.take_append_drop]
  omega
theorem bulk_get (L : List ValD) (k : Nat) (h : k < L.length) : (L.getD k valD0).2.length ≤ bulkG L := by
  have := bulk_step L k h
  have := bulk_take L (k + 1)
  omega
/-- What szValS answers. -/
def SzG (L : List ValD) (left : Int) (e : Ending) : Prop := (e = .returned (.int .i64 (left - L.length - bulkG L)) ∧ 0 ≤ left - L.length - bulkG L) ∨ (e = .returned (.int .i64 (-1)) ∧ left - L.length - bulkG L < 0)

theorem szVal_two (n : Int) (u : Value) (l : List (Int × Int)) (left : Int) (w : World) (h : Rd w u l) (h0 : 0 ≤ left) (h1 : left ≤ 1048576) :
    Calls Tryz.prog 110 #[.agg #[.int .i64 n, u], .int .i64 left] w fun e w' => (∃ r : Int, e = .returned (.int .i64 r) ∧ Hid ((r = left - l.length ∧ 0 ≤ r) ∨ (r = -1 ∧ left - l.length < 0))) ∧ Below w.heap.size w w' := by
  obtain ⟨ao, cap, rfl, hl, _⟩ := h
  by_cases hf : (l.length : Int) ≤ left
  · exact (szVal_fits n ao l.length cap left hf h1 w).mono fun e w' ⟨he, hb⟩ => ⟨⟨_, he, hid (Or.inl ⟨rfl, by omega⟩)⟩, hb⟩
  · exact (szVal_over n ao l.length cap left hl (by omega) h0 h1 w).mono fun e w' ⟨he, hb⟩ => ⟨⟨_, he, hid (Or.inr ⟨rfl, by omega⟩)⟩, hb⟩

set_option maxRecDepth 100000 in
set_option maxHeartbeats 1000000 in
theorem szValS_any (v : Value) (L : List ValD) (left : Int) (w : World) (h : RdG w v L) (h0 : 0 ≤ left) (h1 : left ≤ 1048576) :
    Calls Tryz.prog 51 #[v, .int .i64 left] w fun e w' => SzG L left e ∧ Below w.heap.size w w' := by
  obtain ⟨ao, cap, rfl, hl, hc⟩ := h
  unfold maxLen at hl
  by_cases hbig : left < (L.length : Int)
  · have HS : Hid (left - L.length - bulkG L < 0) := hid (by omega)
    go_enter Tryz.func51, Tryz.ntmps51
    go_wp2
    go_ret
    exact ⟨Or.inr ⟨by simp, HS.out⟩, Below.refl _ _⟩
  · go_enter Tryz.func51, Tryz.ntmps51
    go_wp2
    go_loopw [1, 5] (fun s i wr => ∃ (k : Nat) (r : Int), k ≤ L.length ∧ i = .int .i64 k ∧ s = .int .i64 r ∧ Hid (r = left - L.length - bulkG (L.take k)) ∧ 0 ≤ r ∧ r ≤ 1048576 ∧ Below w.heap.size w wr) (fun _ i _ => L.length - (intOf i).toNat)
    case atStart => exact ⟨0, left - L.length, Nat.zero_le _, rfl, by first | rfl | (simp; done), hid (by simp [bulkG]), by omega, by omega, Below.refl _ _⟩
    case round =>
      obtain ⟨k, r, hk, rfl, rfl, hr, hr0, hr1, hbel⟩ := hrel
      by_cases hlt : k < L.length
      · obtain ⟨b, o, rfl, hb, hcc⟩ := hc (by omega)
        obtain ⟨c0, u, c1, hu⟩ := hcc k hlt
        rw [← hbel.cell (p := ⟨b, o + k * 2, none⟩) hb] at c0
        rw [← hbel.cell (p := ⟨b, o + k * 2 + 1, none⟩) hb] at c1
        have HU := hid (hu.later hbel)
        have HB := hid (bulk_step L k hlt)
        have HT := hid (bulk_take L (k + 1))
        have hsz := hbel.size
        clear hcc hc hu
        generalize L.getD k valD0 = x at *
        go_wp2_with fail
        refine (szVal_two x.1 u x.2 r _ HU.out hr0 hr1).mono ?_
        rintro e w2 ⟨⟨q, rfl, hq⟩, b2⟩
        have c2 := hbel.trans (b2.mono hsz)
        by_cases hneg : q < 0
        · have HS : Hid (left - L.length - bulkG L < 0) := hid (by
            have := hr.out; have := HB.out; have := HT.out
            rcases hq.out with ⟨_, h2⟩ | ⟨_, h2⟩ <;> omega)
          go_wp2
          go_ret
          exact ⟨Or.inr ⟨by simp, HS.out⟩, c2⟩
        · have HQ : Hid (q = left - L.length - bulkG (L.take (k + 1))) := hid (by
            have := hr.out; have := HB.out
            rcases hq.out with ⟨h2, _⟩ | ⟨h2, _⟩ <;> omega)
          have hq1 : q ≤ 1048576 := by rcases hq.out with ⟨h2, _⟩ | ⟨h2, _⟩ <;> omega
          clear hq hr HB HT
          go_wp2
          go_roundw
          case rel => exact ⟨k + 1, q, by omega, by go_num, rfl, HQ, by omega, hq1, c2⟩
          case measure => simp [intOf]; omega
      · obtain rfl : k = L.length := by omega
        have HQ : Hid (r = left - L.length - bulkG L) := hid (by have := hr.out; rwa [List.take_length] at this)
        clear hr
        go_wp2
        go_ret
        exact ⟨Or.inl ⟨by rw [← HQ.out]; simp, by rw [← HQ.out]; exact hr0⟩, hbel⟩

theorem Tryz.info38 : (Tryz.prog.info? 38).map (fun i => (i.zero, i.size, i.bytes)) = some (some (.agg #[.int .i64 0, .slice none 0 0]), 2, 32) := by kernel_rfl
/-- The first k elements' cells are those of L; their kin lie apart, from block B on. -/
def FilledV (w : World) (B : Nat) (xs : List Value) (L : List ValD) (k : Nat) : Prop :=
  ∀ i, i < k → xs[i * 2]? = some (.int .i64 (L.getD i valD0).1) ∧ ∃ u, xs[i * 2 + 1]? = some u ∧ Own w B u (L.getD i valD0).2
theorem FilledV.zero (w : World) (B : Nat) (xs : List Value) (L : List ValD) : FilledV w B xs L 0 := fun _ h => absurd h (Nat.not_lt_zero _)
theorem FilledV.later {w w' : World} {B : Nat} {xs : List Value} {L : List ValD} {k : Nat} (h : FilledV w B xs L k) (hb : Below w.heap.size w w') : FilledV w' B xs L k := fun i hi => by
  obtain ⟨c0, u, c1, hu⟩ := h i hi
  exact ⟨c0, u, c1, hu.later hb⟩
theorem FilledV.set {w : World} {B : Nat} {xs : List Value} {L : List ValD} {k : Nat} (h : FilledV w B xs L k) {p : Addr} (hp : p.block < B) (z : Value) : FilledV (w.setCell p z) B xs L k := fun i hi => by
  obtain ⟨c0, u, c1, hu⟩ := h i hi
  exact ⟨c0, u, c1, hu.apartSet hp z⟩
theorem FilledV.step {w : World} {B : Nat} {xs : List Value} {L : List ValD} {k : Nat} (h : FilledV w B xs L k) (hx : k * 2 + 1 < xs.length) {u : Value} (hu : Own w B u (L.getD k valD0).2) :
    FilledV w B ((xs.set (k * 2) (.int .i64 (L.getD k valD0).1)).set (k * 2 + 1) u) L (k + 1) := by
  intro i hi
  by_cases e : i = k
  · subst e
    rw [List.getElem?_set_ne (by omega), List.getElem?_set_self (by omega), List.getElem?_set_self (by rw [List.length_set]; omega)]
    exact ⟨rfl, u, rfl, hu⟩
  · rw [List.getElem?_set_ne (by omega), List.getElem?_set_ne (by omega), List.getElem?_set_ne (by omega), List.getElem?_set_ne (by omega)]
    exact h i (by omega)
theorem row_same {w w' : World} {B : Nat} {e : TypeId} {size : Nat} {v : Value} {n : Nat} {xs : List Value} (h : w.ownsRow B e size v n xs) (hs : ∀ k, B ≤ k → k < w.heap.size → w'.heap[k]? = w.heap[k]?) : w'.ownsRow B e size v n xs := by
  refine ⟨h.1, ?_⟩
  rcases h.2 with hn | ⟨g, cap, cur, rfl, hbg, hgg, rest⟩
  · exact .inl hn
  · exact .inr ⟨g, cap, cur, rfl, hbg, (hs g hbg (Array.getElem?_eq_some_iff.1 hgg).1).trans hgg, rest⟩
/-- It reads as L in memory from block B on alone. -/
def FromG (B : Nat) (w : World) (v : Value) (L : List ValD) : Prop := ∀ w' : World, w.heap.size ≤ w'.heap.size → (∀ k, B ≤ k → k < w.heap.size → w'.heap[k]? = w.heap[k]?) → RdG w' v L
theorem FromG.rd {B : Nat} {w : World} {v : Value} {L : List ValD} (h : FromG B w v L) : RdG w v L := h w (Nat.le_refl _) (fun _ _ _ => rfl)
theorem FromG.later {B : Nat} {w w' : World} {v : Value} {L : List ValD} (h : FromG B w v L) (hb : Below w.heap.size w w') : FromG B w' v L := fun w'' hz hs =>
  h w'' (Nat.le_trans hb.size hz) (fun k hk hl => (hs k hk (Nat.lt_of_lt_of_le hl hb.size)).trans (hb.block k hl))
theorem FromG.set {B : Nat} {w : World} {v : Value} {L : List ValD} (h : FromG B w v L) {p : Addr} (hp : p.block < B) (u : Value) : FromG B (w.setCell p u) v L := fun w'' hz hs =>
  h w'' (by simpa using hz) (fun k hk hl => (hs k hk (by simpa using hl)).trans (Below.heap_setCell _ _ _ _ (by omega)))
theorem FromG.mono {B B' : Nat} {w : World} {v : Value} {L : List ValD} (h : FromG B w v L) (hB : B' ≤ B) : FromG B' w v L := fun w' hz hs => h w' hz (fun k hk => hs k (Nat.le_trans hB hk))
theorem FilledV.rdG {w : World} {B g : Nat} {xs : List Value} {L : List ValD} {n cap : Nat} (h : FilledV w B xs L n) (hn : n = L.length) (hrow : w.ownsRow g 38 2 (.slice (some ⟨g, 0, none⟩) n cap) n xs) (hm : n ≤ maxLen) :
    RdG w (.slice (some ⟨g, 0, none⟩) n cap) L := by
  subst hn
  refine ⟨_, _, rfl, hm, fun h0 => ⟨g, 0, rfl, (hrow.lt g rfl).2, fun i hi => ?_⟩⟩
  obtain ⟨c0, u, c1, hu⟩ := h i hi
  rw [Nat.zero_add]
  exact ⟨(hrow.cellAt _ (by omega)).trans c0, u, (hrow.cellAt _ (by omega)).trans c1, hu.rd⟩

theorem FilledV.fromG {w : World} {g : Nat} {xs : List Value} {L : List ValD} {n cap : Nat} (h : FilledV w (g + 1) xs L n) (hn : n = L.length) (hrow : w.ownsRow g 38 2 (.slice (some ⟨g, 0, none⟩) n cap) n xs) (hm : n ≤ maxLen) :
    FromG g w (.slice (some ⟨g, 0, none⟩) n cap) L := fun _ _ hs =>
  FilledV.rdG (B := g + 1) (fun i hi => by
    obtain ⟨c0, u, c1, hu⟩ := h i hi
    exact ⟨c0, u, c1, row_same hu (fun k hk hl => hs k (by omega) hl)⟩) hn (row_same hrow hs) hm

set_option maxRecDepth 100000 in
set_option maxHeartbeats 1000000 in
theorem toValS_any (v : Value) (L : List ValD) (w : World) (h : RdG w v L) (hl : L.length ≤ 1048576) (hbk : ∀ i, i < L.length → (L.getD i valD0).2.length ≤ 1048576) :
    Calls Tryz.prog 52 #[v] w fun e w' => ∃ v', e = .returned v' ∧ FromG w.heap.size w' v' L ∧ Below w.heap.size w w' := by
  obtain ⟨ao, cap, rfl, _, hc⟩ := h
  obtain ⟨i0, hi, hz0, hz1, hz2⟩ := info_parts Tryz.info38
  have hby : i0.bytes * L.length ≤ 281474976710656 := by rw [hz2]; omega
  have hml : L.length ≤ maxLen := by unfold maxLen; omega
  have HBK := hid hbk
  clear hbk
  go_enter Tryz.func52, Tryz.ntmps52
  go_wp2_with (first | (at_make; refine wpList_make_full _ rfl (.tmp 6) (.tmp 6) 23 rfl w.heap.size 38 i0 _ 2 Tryz.underlying23 hi hz0 hz1 .i64 .i64 _ _ L.length rfl rfl rfl rfl hby hml (Nat.le_refl _) ?_; intro w1 hown hgrow))
  go_loopw [4] (fun i wr => ∃ (k : Nat) (xs : List Value), k ≤ L.length ∧ i = .int .i64 k ∧ Hid (FilledV wr (w.heap.size + 1) xs L k) ∧ Below w.heap.size w wr ∧
      wr.ownsRow w.heap.size 38 2 (.slice (some ⟨w.heap.size, 0, none⟩) L.length L.length) L.length xs) (fun i _ => L.length - (intOf i).toNat)
  case atStart => exact ⟨0, _, Nat.zero_le _, rfl, hid (FilledV.zero _ _ _ _), (Below.refl _ _).grown hgrow (Nat.le_refl _) (by simp), hown⟩
  case round =>
    obtain ⟨k, xs, hk, rfl, hfil, hbel, hrow⟩ := hrel
    clear hown hgrow hby hi hz0 hz1 hz2
    by_cases hlt : k < L.length
    · obtain ⟨b, o, rfl, hb, hcc⟩ := hc (by omega)
      obtain ⟨c0, u, c1, hu⟩ := hcc k hlt
      rw [← hbel.cell (p := ⟨b, o + k * 2, none⟩) hb] at c0
      rw [← hbel.cell (p := ⟨b, o + k * 2 + 1, none⟩) hb] at c1
      have HU := hid (hu.later hbel)
      have hlen := HBK.out k hlt
      have hxl : k * 2 + 1 < xs.length := by rw [hrow.1]; omega
      have hgl := (hrow.lt w.heap.size rfl).2
      have HST := hid (fun (W : World) (z : Value) (hf : FilledV W (w.heap.size + 1) xs L k) (hz : Own W (w.heap.size + 1) z (L.getD k valD0).2) => FilledV.step hf hxl hz)
      clear hcc hc hu
      generalize hx : L.getD k valD0 = x at *
      have hsz := hbel.size
      have HROW := hid hrow
      go_wp2_with (first | (go_at_call 111; refine (toVal_any x.1 u x.2 _ HU.out hlen).mono ?_; rintro e w2 ⟨z, rfl, oz, hb2⟩; obtain ⟨zo, zc, hzv, _⟩ := oz.rd; subst hzv; have HOZ := hid oz; have hrow2 := row_later hrow hb2; have HF2 := hid (hfil.out.later hb2); have HR2 := hid hrow2; have HB2 := hid hb2; obtain ⟨q0, hq0⟩ := row_cell hrow2 (k * 2) (by omega); obtain ⟨q1, hq1⟩ := row_cell hrow2 (k * 2 + 1) (by omega); have f0 := hrow2.frozenAt (k * 2); have f1 := hrow2.frozenAt (k * 2 + 1); clear hrow2 oz hrow hb2))
      go_roundw
      case rel =>
        refine ⟨k + 1, _, by omega, by go_num, hid (HST.out _ _ ((HF2.out.set (p := ⟨w.heap.size, k * 2, none⟩) (by show w.heap.size < _; omega) _).set (p := ⟨w.heap.size, k * 2 + 1, none⟩) (by show w.heap.size < _; omega) _) ?_), ((hbel.trans (HB2.out.mono hsz)).setCell (Nat.le_refl _) _).setCell (Nat.le_refl _) _, row_two HR2.out (k * 2) _ _⟩
        exact ((Own.mono HOZ.out (B' := w.heap.size + 1) (by omega)).apartSet (p := ⟨w.heap.size, k * 2, none⟩) (by show w.heap.size < _; omega) _).apartSet (p := ⟨w.heap.size, k * 2 + 1, none⟩) (by show w.heap.size < _; omega) _
      case measure => simp [intOf]; omega
    · have hkl : k = L.length := by omega
      go_wp2
      go_ret
      subst hkl
      exact ⟨_, rfl, hfil.out.fromG rfl hrow hml, hbel⟩
end Go.Proofs.YtkmhnjgncnoddaaGreat
