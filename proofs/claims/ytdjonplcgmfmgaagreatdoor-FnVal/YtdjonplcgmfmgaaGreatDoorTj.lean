/- impl.EdgeText: contract. -/
import Derived.Test.YtdjonplcgmfmgaaGreatDoorTt
import Derived.Test.YtdjonplcgmfmgaaGreatDoorTo
import Derived.WalkSmall
import Derived.Sort.Grow
namespace Go.Proofs.YtdjonplcgmfmgaaGreatDoor
open Go.RowKit Go.Shelf
attribute [local go_sem ↓] Go.wp_at_zero Go.wp_at_succ

/-- The table of powers of ten, as the library lays it. -/
def Tab (w : World) : Prop := Lib.TabIs Tryz.prog w "internal/strconv.uint64pow10" .u64 Lib.pow10Tab

theorem Tab.below {w w' : World} (h : Tab w) (hb : Below w.heap.size w w') : Tab w' := by
  unfold Tab Lib.TabIs at *
  cases hg : Tryz.prog.globalNamed "internal/strconv.uint64pow10" with
  | none => simp [World.var?, hg] at h
  | some g =>
    have hlt : g < w.heap.size := by
      apply Classical.byContradiction
      intro hn
      have hnone : w.heap[g]? = none := Array.getElem?_eq_none (by omega)
      simp [World.var?, hg, hnone] at h
    exact var?_below hb hg hlt h

theorem Tryz.infoS : (Tryz.prog.info? 9).map (fun i => (i.zero, i.size, i.bytes)) = some (some (.string ⟨#[]⟩), 1, 16) := by kernel_rfl

theorem edge_length {x : Int × Int} (h0 : -9223372036854775808 ≤ x.1 ∧ x.1 ≤ 9223372036854775807) (h1 : -9223372036854775808 ≤ x.2 ∧ x.2 ≤ 9223372036854775807) : (edgeT x).length ≤ 43 := by
  have n1 := Lib.itoa_length_le x.1 h0.1 h0.2
  have n2 := Lib.itoa_length_le x.2 h1.1 h1.2
  simp [edgeT]; omega
theorem tail_length (r : List (Int × Int)) (h : ∀ x ∈ r, (edgeT x).length ≤ 43) : (Lib.joinTail [32] (r.map edgeT)).length ≤ 44 * r.length := by
  induction r with
  | nil => simp [Lib.joinTail]
  | cons x r ih =>
    have h1 := h x List.mem_cons_self
    have h2 := ih (fun y hy => h y (List.mem_cons_of_mem _ hy))
    simp only [Lib.joinTail, List.map_cons, List.flatten_cons, List.length_append, List.length_cons, List.length_nil] at h2 ⊢
    omega
theorem inner_length {l : List (Int × Int)} (h : WfL l) : (innerL l).length ≤ 44 * l.length := by
  have hm : ∀ x ∈ l, (edgeT x).length ≤ 43 := fun x hx => by
    obtain ⟨i, hi, rfl⟩ := List.getElem_of_mem hx
    have := h i hi
    rw [List.getD_eq_getElem?_getD, List.getElem?_eq_getElem hi] at this
    exact edge_length this.1 this.2
  unfold innerL
  cases l with
  | nil => simp [Lib.join_nil]
  | cons x r =>
    rw [List.map_cons, Lib.join_cons, List.length_append]
    have h1 := hm x List.mem_cons_self
    have h2 := tail_length r (fun y hy => hm y (List.mem_cons_of_mem _ hy))
    simp only [List.length_cons]
    omega

/-- The first k words are the texts of the first k edges. -/
def FilledS (xs : List Value) (l : List (Int × Int)) (k : Nat) : Prop := ∀ i, i < k → xs[i]? = some (.string ⟨(edgeT (l.getD i (0, 0))).toArray⟩)
theorem FilledS.step {xs : List Value} {l : List (Int × Int)} {k : Nat} (h : FilledS xs l k) (hk : k < xs.length) : FilledS (xs.set k (.string ⟨(edgeT (l.getD k (0, 0))).toArray⟩)) l (k + 1) := by
  intro i hi
  by_cases e : i = k
  · subst e; rw [List.getElem?_set_self (by omega)]
  · rw [List.getElem?_set_ne (by omega)]; exact h i (by omega)
theorem cat_word (x1 x2 : Int) : (⟨(Lib.itoa x1).toArray⟩ ++ ⟨#[64]⟩ ++ ⟨(Lib.itoa x2).toArray⟩ : ByteArray) = ⟨(edgeT (x1, x2)).toArray⟩ :=
  bytes_eq (by simp [ByteArray.data_append, edgeT])

theorem itoa_any (n : Int) (w : World) (h0 : -9223372036854775808 ≤ n) (h1 : n ≤ 9223372036854775807) (ht : Tab w) :
    Calls Tryz.prog 33 #[.int .i64 n] w fun e w' => e = .returned (.string ⟨(Lib.itoa n).toArray⟩) ∧ Below w.heap.size w w' := by
  refine (Tryz.strconv_Itoa n h0 h1 w ht).mono ?_
  rintro e w' ⟨he, k, os, rfl⟩
  exact ⟨he, rfl, rfl, rfl, by simp [Go.Sort.grow], fun j hj => by simp [Go.Sort.grow, Array.getElem?_append, hj]⟩

set_option maxRecDepth 10000 in
set_option maxHeartbeats 2000000 in
theorem implText_any (v : Value) (l : List (Int × Int)) (w : World) (h : Rd w v l) (hl : l.length ≤ 1048576) (hw : WfL l) (ht : Tab w) :
    Calls Tryz.prog 10 #[v] w fun e w' => e = .returned (.string ⟨(textL l).toArray⟩) ∧ Below w.heap.size w w' := by
  obtain ⟨ao, cap, rfl, _, hc⟩ := h
  obtain ⟨i0, hi, hz0, hz1, hz2⟩ := info_parts Tryz.infoS
  have hby : i0.bytes * l.length ≤ 281474976710656 := by rw [hz2]; omega
  have hml : l.length ≤ maxLen := by unfold maxLen; omega
  have HT := hid ht
  clear ht
  go_enter Tryz.func10, Tryz.ntmps10
  go_wp2_with (first | (at_make; refine wpList_make_full _ rfl (.tmp 7) (.tmp 7) 57 rfl w.heap.size 9 i0 _ 1 Tryz.underlying57 hi hz0 hz1 .i64 .i64 _ _ l.length rfl rfl rfl rfl hby hml (Nat.le_refl _) ?_; intro w1 hown hgrow))
  go_loopw [11] (fun i wr => ∃ (k : Nat) (xs : List Value), k ≤ l.length ∧ i = .int .i64 k ∧ Hid (FilledS xs l k) ∧ Below w.heap.size w wr ∧
      wr.ownsRow w.heap.size 9 1 (.slice (some ⟨w.heap.size, 0, none⟩) l.length l.length) l.length xs) (fun i _ => l.length - (intOf i).toNat)
  case atStart => exact ⟨0, _, Nat.zero_le _, rfl, hid (fun _ h => absurd h (Nat.not_lt_zero _)), (Below.refl _ _).grown hgrow (Nat.le_refl _) (by simp), hown⟩
  case round =>
    obtain ⟨k, xs, hk, rfl, hfil, hbel, hrow⟩ := hrel
    clear hown hgrow hby hi hz0 hz1 hz2
    have hsz := hbel.size
    by_cases hlt : k < l.length
    · obtain ⟨b, o, rfl, hb, hcc⟩ := hc (by omega)
      obtain ⟨c0, c1⟩ := hcc k hlt
      rw [← hbel.cell (p := ⟨b, o + k * 2, none⟩) hb] at c0
      rw [← hbel.cell (p := ⟨b, o + k * 2 + 1, none⟩) hb] at c1
      obtain ⟨⟨w0, w1⟩, ⟨w2, w3⟩⟩ := hw k hlt
      have hstep := hid (hfil.out.step (by rw [hrow.1]; omega))
      clear hcc hc hw hfil
      obtain ⟨⟨x1, x2⟩, hi0⟩ : ∃ x, l.getD k (0, 0) = x := ⟨_, rfl⟩
      rw [hi0] at c0 c1 w0 w1 w2 w3 hstep
      simp only at c0 c1 w0 w1 w2 w3
      clear hi0
      go_wp2_with fail
      have ba : Below wr.heap.size wr (wr.alloc (.cells #[.int .i64 x1, .int .i64 x2] 53)) := by go_grown
      have e0_a : (wr.alloc (.cells #[.int .i64 x1, .int .i64 x2] 53)).cell? ⟨wr.heap.size, 0, none⟩ = some (.int .i64 x1) := by go_cell
      have e1_a : (wr.alloc (.cells #[.int .i64 x1, .int .i64 x2] 53)).cell? ⟨wr.heap.size, 1, none⟩ = some (.int .i64 x2) := by go_cell
      have el_a : wr.heap.size < (wr.alloc (.cells #[.int .i64 x1, .int .i64 x2] 53)).heap.size := by simp
      have ca := hbel.trans (ba.mono hbel.size)
      have hrowa := row_later hrow ba
      clear ba hrow c0 c1
      generalize wr.alloc (.cells #[.int .i64 x1, .int .i64 x2] 53) = wa at e0_a e1_a el_a ca hrowa ⊢
      have HT0 := hid (HT.out.below ca.drew)
      have HW := hid (cat_word x1 x2)
      have n1 := Lib.itoa_length_le x1 w0 w1
      have n2 := Lib.itoa_length_le x2 w2 w3
      go_region_with (first
        | (go_at_call 33; first
          | (have zz := HT0; clear zz; refine (itoa_any x1 _ w0 w1 HT0.out).mono ?_; rintro e w5 ⟨rfl, b5⟩; have d5 : Below wa.heap.size wa w5 := (Below.trans (by go_grown) (b5.mono (by first | omega | (simp; done) | (simp; omega)))); have c5 : Below w.heap.size w w5 := ca.trans (d5.mono ca.size); have e0_5 : w5.cell? ⟨wr.heap.size, 0, none⟩ = some (.int .i64 x1) := (by rw [b5.cell (by first | omega | (simp; done) | (simp; omega))]; go_cell); have e1_5 : w5.cell? ⟨wr.heap.size, 1, none⟩ = some (.int .i64 x2) := (by rw [b5.cell (by first | omega | (simp; done) | (simp; omega))]; go_cell); have el_5 : wr.heap.size < w5.heap.size := (by have := b5.size; first | omega | (revert this; simp; done) | (revert this; simp; omega)); clear e0_a e1_a el_a; have HT5 := hid (HT0.out.below b5); have hrow5 := row_later hrowa d5; clear HT0)
          | (refine (itoa_any x2 _ w2 w3 HT5.out).mono ?_; rintro e w6 ⟨rfl, b6⟩; have d6 : Below w5.heap.size w5 w6 := (Below.trans (by go_grown) (b6.mono (by first | omega | (simp; done) | (simp; omega)))); have c6 : Below w.heap.size w w6 := c5.trans (d6.mono c5.size); have hrow6 := row_later hrow5 d6; obtain ⟨q0, hq0⟩ := row_cell hrow6 k (by omega); have f0 := hrow6.frozenAt k)))
      all_goals
        go_wp2
        go_roundw
        case rel =>
          refine ⟨k + 1, xs.set k (.string ⟨(edgeT (x1, x2)).toArray⟩), by omega, by go_num, hstep, c6.setCell (Nat.le_refl _) _, ?_⟩
          rw [HW.out]
          exact (hrow6.stored k (.string ⟨(edgeT (x1, x2)).toArray⟩)).1
        case measure => simp [intOf]; omega
    · obtain rfl : k = l.length := by omega
      have hin := inner_length hw
      have HROW := hid hrow
      clear hrow hw
      by_cases hl0 : l.length = 0
      · have hnil : l = [] := List.eq_nil_of_length_eq_zero hl0
        subst hnil
        go_wp2_with fail
        refine (Tryz.strings_Join_none _ _ _ _).mono ?_
        rintro e w9 ⟨rfl, rfl⟩
        go_wp2
        go_ret
        exact ⟨by rfl, hbel⟩
      · have hcells : ∀ (j : Nat) x, (l.map fun x => (⟨(edgeT x).toArray⟩ : ByteArray))[j]? = some x → wr.cell? ⟨w.heap.size, 0 + j, none⟩ = some (.string x) := by
          intro j x hx
          have hj : j < l.length := by
            have := (List.getElem?_eq_some_iff.1 hx).1
            simpa using this
          have h1 := HROW.out.cellAt j (by omega)
          have h2 := hfil.out j hj
          rw [Nat.zero_add, h1, h2]
          rw [List.getElem?_map, List.getElem?_eq_getElem hj] at hx
          rw [List.getD_eq_getElem?_getD, List.getElem?_eq_getElem hj]
          simp only [Option.map_some, Option.some.injEq] at hx
          rw [← hx]
          rfl
        have hmm : ((l.map fun x => (⟨(edgeT x).toArray⟩ : ByteArray)).map (·.data.toList)) = l.map edgeT := by simp
        have hjoin := Tryz.strings_Join w.heap.size 0 l.length (l.map fun x => (⟨(edgeT x).toArray⟩ : ByteArray)) ⟨#[32]⟩ wr hcells (by have := (HROW.out.lt w.heap.size rfl).2; exact this) (by rw [List.length_map]; omega) (by rw [List.length_map]; exact Nat.le_refl _) (by rw [hmm]; show (innerL l).length ≤ _; omega)
        rw [hmm, List.length_map, show Lib.join (l.map edgeT) (⟨#[32]⟩ : ByteArray).data.toList = innerL l from rfl] at hjoin
        have HJ := hid hjoin
        have HE : Hid ((⟨#[40]⟩ ++ ⟨(innerL l).toArray⟩ ++ ⟨#[41]⟩ : ByteArray) = ⟨(textL l).toArray⟩) := hid (bytes_eq (by simp [ByteArray.data_append, textL]))
        have hb1 : 1 + (innerL l).length ≤ 9223372036854775807 := by omega
        clear hcells hmm hjoin hfil
        go_wp2_with fail
        refine HJ.out.mono ?_
        rintro e w9 ⟨rfl, b9⟩
        have c9 := hbel.trans (b9.mono hbel.size)
        go_wp2
        go_ret
        refine ⟨?_, c9⟩
        rw [← HE.out]
        rfl
end Go.Proofs.YtdjonplcgmfmgaaGreatDoor
