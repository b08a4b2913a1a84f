/- impl.rowsOf, impl.GraphOk: contracts. -/
import Derived.Test.YtpdfhffmhlgcmaaAs
import Derived.Test.YtpdfhffmhlgcmaaAt
import Derived.Laws.Cover3
namespace Go.Proofs.Ytpdfhffmhlgcmaa
open Go.RowKit
attribute [local go_sem ↓] Go.wp_at_zero Go.wp_at_succ
attribute [local go_sem ↓] ldS_open stS_open ixS_open

/-- Is a graph one, each bond known from both of its ends? -/
def okG (L : List ValD) : Bool := decide (L.length = 24) && rightG L && (endsG L 16 8 && endsG L 8 16)
theorem okG_len {L : List ValD} (h : L.length ≠ 24) : okG L = false := by simp [okG, h]
theorem okG_right {L : List ValD} (h : rightG L = false) : okG L = false := by simp [okG, h]
theorem okG_turn {L M : List ValD} (hl : L.length = 24) (hr : rightG L = true) (hT : Turn (toldL L 24 0) M) (hN : NumsG L M 24) : eqG L M = okG L := by
  rw [okG, hr, decide_eq_true hl, Bool.true_and, Bool.true_and]
  have := turn_same (rightG_iff.1 hr) hl hT hN
  rw [Bool.eq_iff_iff, Bool.and_eq_true, endsG_iff, endsG_iff, ← this]
  simp [eqG, eq_comm]

theorem ldS_at {w : World} {b off : Nat} {xs : List Value} (hs : xs.length = 48) (h : ∀ j, j < 48 → w.cell? ⟨b, off + j, none⟩ = xs[j]?) :
    (ldS (.pointer (some ⟨b, off, none⟩))).run Try.prog w = .ok (.agg xs.toArray) w := by
  simp only [ldS, Instr.loadAt, Instr.sureAddr, Sem.run_bind, Sem.run_pure, Result.andThen]
  have hl : (loadCells ⟨b, off, none⟩ xs.length).run Try.prog w = .ok xs.toArray w :=
    run_loadCells_list (P := Try.prog) w ⟨b, off, none⟩ xs (fun j v hv => by
      have hadd : (⟨b, off, none⟩ : Addr).add j = ⟨b, off + j, none⟩ := by unfold Addr.add; split <;> simp_all
      have hj : j < 48 := by rw [← hs]; exact (List.getElem?_eq_some_iff.1 hv).1
      rw [hadd, h j hj]
      exact hv)
  have hagg : (isAgg 43).run Try.prog w = .ok true w := by
    unfold isAgg
    rw [Sem.run_bind, run_underlying Try.underlying43 w]
    rfl
  cases hq : Try.prog.info? 43 with
  | none => have := Try.infoR; rw [hq] at this; cases this
  | some i =>
    have hs' : i.size = 48 := by have := Try.infoR; rw [hq] at this; simpa using this
    rw [hs] at hl
    simp [loadVar, Sem.run_bind, hagg, sizeOf, typeInfo, hq, hs', hl]

theorem rowsOf_arr {w : World} {b off : Nat} {L : List ValD} (hl : L.length = 24)
    (hc : ∀ i, i < L.length → w.cell? ⟨b, off + i * 2, none⟩ = some (.int .i64 (L.getD i valD0).1) ∧ ∃ u, w.cell? ⟨b, off + i * 2 + 1, none⟩ = some u ∧ Rd w u (L.getD i valD0).2) :
    ∃ xs : List Value, xs.length = 48 ∧ (∀ j, j < 48 → w.cell? ⟨b, off + j, none⟩ = xs[j]?) ∧ AgG w xs.toArray L := by
  have hall : ∀ j, j < 48 → ∃ v, w.cell? ⟨b, off + j, none⟩ = some v := fun j hj => by
    obtain ⟨h0, u, h1, _⟩ := hc (j / 2) (by omega)
    rcases Nat.mod_two_eq_zero_or_one j with e | e
    · rw [show off + j / 2 * 2 = off + j from by omega] at h0
      exact ⟨_, h0⟩
    · rw [show off + j / 2 * 2 + 1 = off + j from by omega] at h1
      exact ⟨_, h1⟩
  have hxs : ∀ j, j < 48 → w.cell? ⟨b, off + j, none⟩ = ((List.range 48).map fun j => (w.cell? ⟨b, off + j, none⟩).getD undef)[j]? := fun j hj => by
    obtain ⟨v, hv⟩ := hall j hj
    rw [List.getElem?_map, List.getElem?_range hj]
    simp [hv]
  refine ⟨_, by simp, hxs, by simp, hl, fun k hk => ?_, fun k hk => ?_⟩
  · rw [List.getElem?_toArray, ← hxs (k * 2) (by omega)]
    exact (hc k (by omega)).1
  · obtain ⟨_, u, h1, hr⟩ := hc k (by omega)
    refine ⟨u, ?_, hr⟩
    rw [List.getElem?_toArray, ← hxs (k * 2 + 1) (by omega)]
    exact h1

set_option maxRecDepth 100000 in
set_option maxHeartbeats 1000000 in
theorem rowsOf_no (ao : Option Addr) (n cap : Nat) (hn : n ≠ 24) (w : World) :
    Calls Try.prog 13 #[.agg #[.slice ao n cap]] w fun e w' => e = .returned (.tuple #[.agg zeroV, .bool false]) ∧ Below w.heap.size w w' := by
  have hnI : (decide ((n : Int) = 24)) = false := by simp; omega
  have hrow : ((w.alloc (.cells #[.slice ao n cap] 28)).alloc (.cells zeroV 43)).heap[w.heap.size + 1]? = some (.cells zeroV 43 (0, 0)) := heap_alloc2_new w _ _
  have hone : zeroV.all (·.oneCell') = true := (Back.zero hrow).agg.one
  have hs := stS_row (cs := zeroV) hrow (by simp [zeroV]) (by simp [zeroV]) hone
  have hg := hid (setRow_heap _ (w.heap.size + 1) zeroV zeroV _ _ hrow)
  have hb := hid (below_setRow (show Below w.heap.size w ((w.alloc (.cells #[.slice ao n cap] 28)).alloc (.cells zeroV 43)) from by go_grown) (g := w.heap.size + 1) (by omega) zeroV)
  rw [zeroV_is] at hs hb hg
  go_enter Try.func13, Try.ntmps13
  go_wp2_with fail
  rw [← zeroV_is] at hs hb hg ⊢
  have hld := ld_row _ _ _ _ _ hg.out (show zeroV.size = 48 by simp [zeroV])
  refine bodyPost_ret (v := .tuple #[.agg zeroV, .bool false]) (by simp [results, Try.results13, asAddr, hld]) rfl ⟨rfl, hb.out⟩

set_option maxRecDepth 100000 in
set_option maxHeartbeats 1000000 in
theorem rowsOf_yes (b off cap : Nat) (xs : List Value) (L : List ValD) (w : World) (hlt : b < w.heap.size) (hxl : xs.length = 48) (hx : ∀ j, j < 48 → w.cell? ⟨b, off + j, none⟩ = xs[j]?) (hA : AgG w xs.toArray L) :
    Calls Try.prog 13 #[.agg #[.slice (some ⟨b, off, none⟩) 24 cap]] w fun e w' => e = .returned (.tuple #[.agg xs.toArray, .bool true]) ∧ Below w.heap.size w w' := by
  have hb0 : Below w.heap.size w ((w.alloc (.cells #[.slice (some ⟨b, off, none⟩) 24 cap] 28)).alloc (.cells zeroV 43)) := by go_grown
  have hrow : ((w.alloc (.cells #[.slice (some ⟨b, off, none⟩) 24 cap] 28)).alloc (.cells zeroV 43)).heap[w.heap.size + 1]? = some (.cells zeroV 43 (0, 0)) := heap_alloc2_new w _ _
  have hs := stS_row (cs := xs.toArray) hrow (by simp [zeroV]) (by simp [hxl]) hA.one
  have hg := hid (setRow_heap _ (w.heap.size + 1) zeroV xs.toArray _ _ hrow)
  have hb := hid (below_setRow hb0 (g := w.heap.size + 1) (by omega) xs.toArray)
  have hl := ldS_at (w := ((w.alloc (.cells #[.slice (some ⟨b, off, none⟩) 24 cap] 28)).alloc (.cells zeroV 43))) (b := b) (off := off) hxl (fun j hj => (hb0.cell (p := ⟨b, off + j, none⟩) hlt).trans (hx j hj))
  have hat : ∀ W, (Instr.arrayAt 43 (.slice (some ⟨b, off, none⟩) 24 cap)).run Try.prog W = .ok (.pointer (some ⟨b, off, none⟩)) W := fun W => run_arrayAt W _ _ 24 _ 24 cap Try.underlying43 (Nat.le_refl _)
  have hsz : xs.toArray.size = 48 := by simp [hxl]
  clear hxl hx
  generalize xs.toArray = X at *
  clear hA
  rw [zeroV_is] at hs hb hg hl
  go_enter Try.func13, Try.ntmps13
  go_wp2_with (simp only [hat])
  rw [← zeroV_is] at hs hb hg hl ⊢
  have hld := ld_row _ _ _ _ _ hg.out hsz
  refine bodyPost_ret (v := .tuple #[.agg X, .bool true]) (by simp [results, Try.results13, asAddr, hld]) rfl ⟨rfl, hb.out⟩

theorem zeroR (w : World) : (zeroValue 43).run Try.prog w = .ok (.agg zeroV) w := by
  rw [zeroV_is]
  exact Try.zeroValue43 w
attribute [local go_sem ↓] zeroR
set_option maxRecDepth 100000 in
set_option maxHeartbeats 2000000 in
theorem implGOk_len (va : Value) (L : List ValD) (w : World) (h : RdG w va L) (hl : L.length ≠ 24) :
    Calls Try.prog 6 #[.agg #[va]] w fun e w' => e = .returned (.bool (okG L)) ∧ Below w.heap.size w w' := by
  obtain ⟨ao, cap, rfl, _, _⟩ := h
  have hno := okG_len hl
  go_enter Try.func6, Try.ntmps6
  go_wp2_with fail
  refine (rowsOf_no ao L.length cap hl _).mono ?_
  rintro e w1 ⟨rfl, b1⟩
  have c1 : Below w.heap.size w w1 := (Below.trans (by go_grown) (b1.mono (by first | omega | (simp; done) | (simp; omega))))
  clear b1
  have hs := stS_row (w := w1.alloc (.cells zeroV 43)) (g := w1.heap.size) (cs := zeroV) (heap_alloc_new w1 _) (by simp [zeroV]) (by simp [zeroV]) (Back.zero (heap_alloc_new w1 (.cells zeroV 43))).agg.one
  have hc2 := hid (below_setRow (c1.alloc c1.size (.cells zeroV 43)) (g := w1.heap.size) c1.size zeroV)
  go_upto_region 2 with fail
  go_quiet (fail)
  go_wp2
  go_ret
  exact ⟨by simp [hno], hc2.out.os, hc2.out.tape, hc2.out.output, hc2.out.size, hc2.out.block⟩

set_option maxRecDepth 100000 in
set_option maxHeartbeats 4000000 in
theorem implGOk_rows (va : Value) (L : List ValD) (w : World) (h : RdG w va L) (hl : L.length = 24) :
    Calls Try.prog 6 #[.agg #[va]] w fun e w' => e = .returned (.bool (okG L)) ∧ Below w.heap.size w w' := by
  obtain ⟨ao, cap, rfl, _, hc⟩ := h
  obtain ⟨b, off, rfl, hlt, hcc⟩ := hc (by omega)
  obtain ⟨xs, hxl, hx, hA⟩ := rowsOf_arr hl hcc
  rw [hl]
  clear hc hcc
  go_enter Try.func6, Try.ntmps6
  go_wp2_with fail
  have g0 : Below w.heap.size w (w.alloc (.cells #[.slice (some ⟨b, off, none⟩) 24 cap] 28)) := by go_grown
  refine (rowsOf_yes b off cap xs L _ (Nat.lt_of_lt_of_le hlt g0.size) hxl (fun j hj => (g0.cell (p := ⟨b, off + j, none⟩) hlt).trans (hx j hj)) (hA.later g0)).mono ?_
  rintro e w1 ⟨rfl, b1⟩
  have c1 : Below w.heap.size w w1 := (Below.trans (by go_grown) (b1.mono (by first | omega | (simp; done) | (simp; omega))))
  have hsz : xs.toArray.size = 48 := by simp [hxl]
  generalize xs.toArray = X at *
  have hA1 := hid (hA.later c1)
  clear b1 g0 hx hxl hA hlt
  have hs := stS_row (w := w1.alloc (.cells zeroV 43)) (g := w1.heap.size) (cs := X) (heap_alloc_new w1 _) (by simp [zeroV]) hsz hA1.out.one
  have hg2 := hid (setRow_heap (w1.alloc (.cells zeroV 43)) w1.heap.size zeroV X _ _ (heap_alloc_new w1 _))
  have d2 := hid (below_setRow (B := w1.heap.size) ((Below.refl _ w1).alloc (Nat.le_refl _) (.cells zeroV 43)) (g := w1.heap.size) (Nat.le_refl _) X)
  have hz2 : w1.heap.size < ((w1.alloc (.cells zeroV 43)).setRow w1.heap.size X).heap.size := by simp
  go_upto_region 2 with fail
  clear hs
  generalize ((w1.alloc (.cells zeroV 43)).setRow w1.heap.size X) = w2 at *
  have hA2 := hid (hA1.out.later d2.out)
  have c2 := hid (c1.trans (d2.out.mono c1.size))
  generalize w1.heap.size = g at *
  have hld := fun (W : World) (hb : Below w2.heap.size w2 W) => ldS_row ((hb.block g hz2).trans hg2.out) hsz
  have hl2 := hld w2.drew (Below.drew (Below.refl _ w2))
  cases hr : rightG L with
  | false =>
    have hno := okG_right hr
    have CR := fun W (h : AgG W X L) => rightRows_any X L W h
    rw [hr] at CR
    go_region_with (first
      | (go_at_call 14; refine (CR _ (hA2.out.later (by go_grown))).mono ?_; rintro e w4 ⟨rfl, b4⟩; have d4 : Below w2.heap.size w2 w4 := (Below.trans (by go_grown) (b4.mono (by first | omega | (simp; done) | (simp; omega)))); have c4 := hid (c2.out.trans (d4.mono c2.out.size)); clear b4 d4))
    all_goals
      go_wp2
      go_ret
      exact ⟨by simp [hno, Act.put], c4.out⟩
  | true =>
    have CR := fun W (h : AgG W X L) => rightRows_any X L W h
    rw [hr] at CR
    have hRT := hid (rightG_iff.1 hr)
    have HR := hid hr
    clear hr
    go_region_with (first
      | (go_at_call 14; refine (CR _ (hA2.out.later (by go_grown))).mono ?_; rintro e w4 ⟨rfl, b4⟩; have d4 : Below w2.heap.size w2 w4 := (Below.trans (by go_grown) (b4.mono (by first | omega | (simp; done) | (simp; omega)))); have c4 := hid (c2.out.trans (d4.mono c2.out.size)); have hA4 := hid (hA2.out.later d4); have hl4 := hld w4 d4; have D4 := hid d4; clear b4 d4)
      | (go_at_call 16; refine (turned_any X L _ (hA4.out.later (by go_grown)) hRT.out).mono ?_; rintro e w5 ⟨ds, M, rfl, hM, hT, hN, b5⟩; have d5 : Below w4.heap.size w4 w5 := (Below.trans (by go_grown) (b5.mono (by first | omega | (simp; done) | (simp; omega)))); have D5 := hid (D4.out.trans (d5.mono D4.out.size)); have hA5 := hid (hA4.out.later d5); have hM5 := hid hM; have hT5 := hid hT; have hN5 := hid hN; have hl5 := hld w5 D5.out; clear b5 d5 hM hT hN)
      | (go_at_call 15; refine (sameRows_any X ds L M _ (hA5.out.later (by go_grown)) (hM5.out.later (by go_grown))).mono ?_; rintro e w6 ⟨rfl, b6⟩; have d6 : Below w5.heap.size w5 w6 := (Below.trans (by go_grown) (b6.mono (by first | omega | (simp; done) | (simp; omega)))); have c6 := hid (c2.out.trans ((D5.out.trans (d6.mono D5.out.size)).mono c2.out.size)); clear b6 d6))
    all_goals
      go_wp2
      go_ret
      exact ⟨by rw [← okG_turn hl HR.out hT5.out hN5.out]; simp [Act.put], c6.out⟩
theorem implGOk_any (va : Value) (L : List ValD) (w : World) (h : RdG w va L) :
    Calls Try.prog 6 #[.agg #[va]] w fun e w' => e = .returned (.bool (okG L)) ∧ Below w.heap.size w w' := by
  by_cases hl : L.length = 24
  · exact implGOk_rows va L w h hl
  · exact implGOk_len va L w h hl
end Go.Proofs.Ytpdfhffmhlgcmaa
