/- (*impl.shelf).drop, impl.spotOf: contracts; copies whose source may be nil. -/
import Derived.Test.YtnenlnadmdlcfaaXc
import Derived.Deep.RegionLaw
namespace Go.Proofs.Ytnenlnadmdlcfaa
open Go.RowKit
attribute [local go_sem ↓] Go.wp_at_zero Go.wp_at_succ

/-- Without the first item of a key; what is empty comes behind. -/
def dropX (key : Int) (X : List (Option KD)) : List (Option KD) := if X.any (hasK key) then X.eraseP (hasK key) ++ [none] else X
theorem eraseP_first {α : Type} {p : α → Bool} (d : α) : ∀ (X : List α) (k : Nat), (∀ j, j < k → p (X.getD j d) = false) → k < X.length → p (X.getD k d) = true → X.eraseP p = X.take k ++ X.drop (k + 1)
  | [], _, _, h, _ => absurd h (Nat.not_lt_zero _)
  | x :: r, 0, _, _, h => by
    rw [List.getD_cons_zero] at h
    rw [List.eraseP_cons_of_pos h]; rfl
  | x :: r, k + 1, hp, hl, h => by
    have h0 := hp 0 (by omega)
    rw [List.getD_cons_zero] at h0
    rw [List.eraseP_cons_of_neg (by rw [h0]; simp), List.take_succ_cons, List.drop_succ_cons, List.cons_append, eraseP_first d r k (fun j hj => by simpa using hp (j + 1) (by omega)) (by simpa using hl) (by simpa using h)]
theorem dropX_found {key : Int} {X : List (Option KD)} {k : Nat} (h : FoundX key X k) (h4 : X.length = 4) : dropX key X = X.take k ++ X.drop (k + 1) ++ [none] := by
  have hk : k < X.length := by rw [h4]; exact h.1
  have ha : X.any (hasK key) = true := by
    rw [List.any_eq_true]
    refine ⟨X[k], List.getElem_mem hk, ?_⟩
    have := h.2.1
    simpa [hk] using this
  rw [dropX, if_pos ha, eraseP_first none X k h.2.2 hk h.2.1]
theorem dropX_none {key : Int} {X : List (Option KD)} (h : NoneX key X 4) (h4 : X.length = 4) : dropX key X = X := by
  rw [dropX, if_neg]
  rw [List.any_eq_true]
  rintro ⟨x, hx, hp⟩
  obtain ⟨i, hi, rfl⟩ := List.getElem_of_mem hx
  have := h i (by omega)
  simp [hi] at this
  rw [this] at hp
  cases hp
theorem dropX_length {key : Int} {X : List (Option KD)} (h4 : X.length = 4) : (dropX key X).length = 4 := by
  unfold dropX
  split
  · rename_i h
    rw [List.any_eq_true] at h
    obtain ⟨x, hx, hp⟩ := h
    rw [List.length_append, List.length_eraseP_of_mem hx hp, h4]; rfl
  · exact h4
theorem splice_drop {X : List (Option KD)} {k : Nat} (hk : k < 4) (h4 : X.length = 4) : splice (splice X k (X.drop (k + 1))) 3 [none] = X.take k ++ X.drop (k + 1) ++ [none] := by
  match X, h4 with
  | [a, b, c, d], _ =>
    obtain rfl | rfl | rfl | rfl : k = 0 ∨ k = 1 ∨ k = 2 ∨ k = 3 := by omega
    all_goals rfl

theorem Try.infoX_spot2 : ∃ i, Try.prog.info? 65 = some i ∧ i.size = 21 := by
  cases hq : Try.prog.info? 65 with
  | none => have := Try.infoX_spot; rw [hq] at this; cases this
  | some i => exact ⟨i, rfl, by have := Try.infoX_spot; rw [hq] at this; simpa using this⟩
def stQ (p v : Value) : Sem Unit := Instr.storeAt 65 p v
theorem stQ_open (p v : Value) : Instr.storeAt 65 p v = stQ p v := rfl
theorem stQ_at {W : World} {g : Nat} {fr : Fr} {X : List (Option KD)} {F : List KD} (h : ShAt W g fr X F) (i : Nat) (hi : i < 4) (x : Option KD) :
    ∃ W', (stQ (.pointer (some ⟨g, fr.pre.length + 21 * i, none⟩)) (.agg (cellsP x).toArray)).run Try.prog W = .ok () W' ∧ ShAt W' g fr (splice X i [x]) F ∧ Only (fun k => k = g) W W' := by
  have e : cellsP x = spotsC [x] := by simp [spotsC]
  refine ⟨W.setRow g (splice (cellsS fr X F) (fr.pre.length + 21 * i) (spotsC [x])).toArray, ?_, ?_, only_setRow _ _ _⟩
  · rw [e]
    exact run_store_splice W g _ _ fr.t _ _ h.row (by rw [cellsS_length, spotsC_length, h.x4, h.f24, List.length_singleton]; omega) (spotsC_one _) (by rw [Try.infoX_spot, spotsC_length]; rfl)
  · exact shAt_setSpots h i [x] (by simp; omega)
theorem Try.zeroX_spot : (Try.prog.info? 65).map (fun i => i.zero) = some (some (.agg (cellsP none).toArray)) := by kernel_rfl
theorem zeroX (w : World) : (zeroValue 65).run Try.prog w = .ok (.agg (cellsP none).toArray) w := by
  cases hq : Try.prog.info? 65 with
  | none => have := Try.zeroX_spot; rw [hq] at this; cases this
  | some i =>
    have hz : i.zero = some (.agg (cellsP none).toArray) := by have := Try.zeroX_spot; rw [hq] at this; simpa using this
    simp [zeroValue, typeInfo, hq, hz]
attribute [local go_sem ↓] ldQ_open stQ_open zeroX
theorem spots_src {w : World} {g : Nat} {fr : Fr} {X : List (Option KD)} {F : List KD} (h : ShAt w g fr X F) (i : Nat) (hi : i ≤ 4) (Y : List (Option KD)) (hY : ∃ Z, X.drop i = Y ++ Z) (o : Nat) (ho : o = fr.pre.length + 21 * i) :
    ∀ j v, (spotsC Y)[j]? = some v → w.cell? ((⟨g, o, none⟩ : Addr).add j) = some v := by
  subst ho
  obtain ⟨Z, hz⟩ := hY
  intro j v hv
  have := h.spots i hi
  rw [hz, spotsC_append] at this
  rw [Addr.add_mid]
  exact rangeAt_prefix this j v hv
theorem drop_copied {w w' : World} {g : Nat} {fr : Fr} {X : List (Option KD)} {F : List KD} (h : ShAt w g fr X F) (k : Nat) (hk : k < 4) (o : Nat) (ho : o = fr.pre.length + 21 * k)
    (hg : w'.heap[g]? = some (.cells (splice (cellsS fr X F) o (spotsC (X.drop (k + 1)))).toArray fr.t (0, 0))) : ShAt w' g fr (splice X k (X.drop (k + 1))) F := by
  subst ho
  have hl : k + (X.drop (k + 1)).length ≤ X.length := by rw [List.length_drop, h.x4]; omega
  exact ⟨by rw [length_splice _ _ _ hl, h.x4], h.f24, by rw [hg, splice_spots fr X _ F k hl]⟩
theorem drop_only {w w2 w3 : World} {g : Nat} (hb : Below w.heap.size w w2) (hB : Below g w2 w3) (hg : ∀ k, k ≠ g → w3.heap[k]? = w2.drew.heap[k]?) : Only (fun k => k = g) w w3 :=
  (Only.later hb).trans ⟨hB.os, hB.tape, hB.output, hB.size, fun k _ hn => hg k hn⟩
theorem drop_end {w : World} {g : Nat} {fr : Fr} {X : List (Option KD)} {F : List KD} {key : Int} {k : Nat} (hf : FoundX key X k) (h4 : X.length = 4) (h : ShAt w g fr (splice (splice X k (X.drop (k + 1))) 3 [none]) F) : ShAt w g fr (dropX key X) F := by
  rw [dropX_found hf h4, ← splice_drop hf.1 h4]
  exact h
set_option maxRecDepth 100000 in
set_option maxHeartbeats 2000000 in
theorem dropX_any (g : Nat) (fr : Fr) (X : List (Option KD)) (F : List KD) (key : Int) (w : World) (h : ShAt w g fr X F) :
    Calls Try.prog 43 #[.pointer (some ⟨g, fr.pre.length, none⟩), .int .i64 key] w fun e w' => e = .returned (.tuple #[]) ∧ ShAt w' g fr (dropX key X) F ∧ Only (fun k => k = g) w w' := by
  have HS := hid h
  clear h
  obtain ⟨i0, hi0, hz0⟩ := Try.infoX_spot2
  have HI := hid hi0
  have HZ := hid hz0
  clear hi0 hz0
  go_enter Try.func43, Try.ntmps43
  go_wp2_with fail
  refine (findX_any g fr X F key _ HS.out).mono ?_
  rintro e w2 ⟨he, b2⟩
  rcases he with ⟨k, rfl, hf⟩ | ⟨rfl, hn⟩
  · have HF := hid hf
    have HB := hid b2
    have HS2 := hid (HS.out.later b2)
    clear b2 hf
    obtain rfl | rfl | rfl | rfl : k = 0 ∨ k = 1 ∨ k = 2 ∨ k = 3 := by have := HF.out.1; omega
    · have hw1 : IntKind.i64.wrap 1 = 1 := by decide
      go_wp2_with fail
      go_region_law (refine step_copyS rfl _ _ 95 95 rfl 65 i0 Try.underlying95 HI.out g (fr.pre.length) 4 4 ⟨g, fr.pre.length + 21, none⟩ 3 3 (by simp [Act.eval, Act.put]) (by simp [Act.eval, Act.put]) _ fr.t HS2.out.row (spotsC (X.drop 1)) (by rw [HZ.out, spotsC_length, List.length_drop, HS2.out.x4]; decide) (spots_src HS2.out.drew 1 (by omega) _ ⟨[], by simp⟩ _ rfl) (by rw [cellsS_length, spotsC_length, List.length_drop, HS2.out.x4]; omega) (spotsC_one _) g w2 ((Below.refl _ _).drew) (Nat.le_refl _) ?_; intro w3 HG3 hB3 hg3)
      obtain ⟨w4, hst, h4, ho4⟩ := stQ_at (drop_copied HS2.out 0 (by omega) (fr.pre.length) rfl HG3.out) 3 (by omega) none
      have HO := hid ((drop_only HB.out hB3 hg3).trans ho4)
      have H4 := hid h4
      clear ho4 h4
      go_wp2_with fail
      go_end0
      exact ⟨rfl, drop_end HF.out HS.out.x4 H4.out, HO.out⟩
    · have hw1 : IntKind.i64.wrap 2 = 2 := by decide
      go_wp2_with fail
      go_region_law (refine step_copyS rfl _ _ 95 95 rfl 65 i0 Try.underlying95 HI.out g (fr.pre.length + 21) 3 3 ⟨g, fr.pre.length + 42, none⟩ 2 2 (by simp [Act.eval, Act.put]) (by simp [Act.eval, Act.put]) _ fr.t HS2.out.row (spotsC (X.drop 2)) (by rw [HZ.out, spotsC_length, List.length_drop, HS2.out.x4]; decide) (spots_src HS2.out.drew 2 (by omega) _ ⟨[], by simp⟩ _ rfl) (by rw [cellsS_length, spotsC_length, List.length_drop, HS2.out.x4]; omega) (spotsC_one _) g w2 ((Below.refl _ _).drew) (Nat.le_refl _) ?_; intro w3 HG3 hB3 hg3)
      obtain ⟨w4, hst, h4, ho4⟩ := stQ_at (drop_copied HS2.out 1 (by omega) (fr.pre.length + 21) rfl HG3.out) 3 (by omega) none
      have HO := hid ((drop_only HB.out hB3 hg3).trans ho4)
      have H4 := hid h4
      clear ho4 h4
      go_wp2_with fail
      go_end0
      exact ⟨rfl, drop_end HF.out HS.out.x4 H4.out, HO.out⟩
    · have hw1 : IntKind.i64.wrap 3 = 3 := by decide
      go_wp2_with fail
      go_region_law (refine step_copyS rfl _ _ 95 95 rfl 65 i0 Try.underlying95 HI.out g (fr.pre.length + 42) 2 2 ⟨g, fr.pre.length + 63, none⟩ 1 1 (by simp [Act.eval, Act.put]) (by simp [Act.eval, Act.put]) _ fr.t HS2.out.row (spotsC (X.drop 3)) (by rw [HZ.out, spotsC_length, List.length_drop, HS2.out.x4]; decide) (spots_src HS2.out.drew 3 (by omega) _ ⟨[], by simp⟩ _ rfl) (by rw [cellsS_length, spotsC_length, List.length_drop, HS2.out.x4]; omega) (spotsC_one _) g w2 ((Below.refl _ _).drew) (Nat.le_refl _) ?_; intro w3 HG3 hB3 hg3)
      obtain ⟨w4, hst, h4, ho4⟩ := stQ_at (drop_copied HS2.out 2 (by omega) (fr.pre.length + 42) rfl HG3.out) 3 (by omega) none
      have HO := hid ((drop_only HB.out hB3 hg3).trans ho4)
      have H4 := hid h4
      clear ho4 h4
      go_wp2_with fail
      go_end0
      exact ⟨rfl, drop_end HF.out HS.out.x4 H4.out, HO.out⟩
    · have hw1 : IntKind.i64.wrap 4 = 4 := by decide
      go_wp2_with fail
      go_region_law (refine step_copyS rfl _ _ 95 95 rfl 65 i0 Try.underlying95 HI.out g (fr.pre.length + 63) 1 1 ⟨g, fr.pre.length, none⟩ 0 0 (by simp [Act.eval, Act.put]) (by simp [Act.eval, Act.put]) _ fr.t HS2.out.row (spotsC (X.drop 4)) (by rw [HZ.out, spotsC_length, List.length_drop, HS2.out.x4]; decide) (by rw [List.drop_of_length_le (by rw [HS2.out.x4]; omega)]; intro j v hv; cases hv) (by rw [cellsS_length, spotsC_length, List.length_drop, HS2.out.x4]; omega) (spotsC_one _) g w2 ((Below.refl _ _).drew) (Nat.le_refl _) ?_; intro w3 HG3 hB3 hg3)
      obtain ⟨w4, hst, h4, ho4⟩ := stQ_at (drop_copied HS2.out 3 (by omega) (fr.pre.length + 63) rfl HG3.out) 3 (by omega) none
      have HO := hid ((drop_only HB.out hB3 hg3).trans ho4)
      have H4 := hid h4
      clear ho4 h4
      go_wp2_with fail
      go_end0
      exact ⟨rfl, drop_end HF.out HS.out.x4 H4.out, HO.out⟩
  · have HN := hid hn
    clear hn
    go_wp2_with fail
    go_end0
    exact ⟨rfl, by rw [dropX_none HN.out HS.out.x4]; exact HS.out.later b2, Only.later b2⟩
end Go.Proofs.Ytnenlnadmdlcfaa
namespace Go.Proofs.Ytnenlnadmdlcfaa
open Go.RowKit
attribute [local go_sem ↓] Go.wp_at_zero Go.wp_at_succ

theorem run_copy_noneS {P : Program} (w : World) (dT sT ty elem : TypeId) (i : TypeInfo) (d a : Option Addr) (dLen dCap sLen sCap : Nat) (hu : P.underlying dT = some (.slice elem)) (hi : P.info? elem = some i) (hn : Nat.min sLen dLen = 0) :
    (Builtin.copy_ #[dT, sT] ty #[.slice d dLen dCap, .slice a sLen sCap]).run P w = .ok (goInt 0) w := by
  have hl : ∀ (x : Addr), (loadCells x 0).run P w = .ok #[] w := fun x => by simpa using run_loadCells_list (P := P) w x [] (by simp)
  cases d <;> cases a <;> simp [Builtin.copy_, run_underlying hu, Builtin.lenOf, Builtin.firstCells, sizeOf, typeInfo, hi, hn, storeCells, hl]
/-- copy of elements of more than one cell, the source nil or not, as one step of a region that draws. -/
theorem step_copyX {P : Program} {ops : Array Oper} {o : Oper} {a : Act} {w : World} {K : Act → World → Prop} {Q : Exit → Act → World → Prop} {E : Prop} (hgd : o.guard = none) (d s : Operand) (dT sT : TypeId)
    (ho : o.op = .call { callee := .builtin .copy, args := #[d, s], argTypes := #[dT, sT] }) (elem : TypeId) (i : TypeInfo) (hu : P.underlying dT = some (.slice elem)) (hi : P.info? elem = some i)
    (g off dLen dCap : Nat) (sp : Option Addr) (sLen sCap : Nat) (hd : a.eval d = .slice (some ⟨g, off, none⟩) dLen dCap) (hs : a.eval s = .slice sp sLen sCap)
    (cur : List Value) (t : TypeId) (hg : w.heap[g]? = some (.cells cur.toArray t (0, 0))) (cs : List Value) (hn : cs.length = Nat.min sLen dLen * i.size)
    (hsrc : 0 < Nat.min sLen dLen → ∃ ad, sp = some ad ∧ ∀ j v, cs[j]? = some v → w.cell? (ad.add j) = some v) (hfit : off + cs.length ≤ cur.length) (h1 : ∀ v ∈ cs, v.oneCell' = true) (B : Nat) (w0 : World) (hb : Below B w0 w) (hBg : B ≤ g)
    (h : ∀ w', Hid (w'.heap[g]? = some (.cells (splice cur off cs).toArray t (0, 0))) → Below B w0 w' → (∀ k, k ≠ g → w'.heap[k]? = w.heap[k]?) → K (a.put o.dst (goInt (Nat.min sLen dLen))) w') :
    if Region.wanted o (yielded ops a.tmps) = true then Oper.wp P o a w K Q else E := by
  by_cases h0 : Nat.min sLen dLen = 0
  · have hw : Region.wanted o (yielded ops a.tmps) = true := by simp [Region.wanted, hgd]
    rw [if_pos hw]
    have hrun := run_copy_noneS (P := P) w dT sT o.type elem i (some ⟨g, off, none⟩) sp dLen dCap sLen sCap hu hi h0
    obtain rfl : cs = [] := List.eq_nil_of_length_eq_zero (by rw [hn, h0]; simp)
    have hk := h w (show _ = _ by simpa [splice] using hg) hb (fun _ _ => rfl)
    rw [h0] at hk
    unfold Oper.wp
    simp [execOp, ho, resolve, invoke, builtin, hd, hs, hrun, Result.andThen]
    exact hk
  · obtain ⟨ad, rfl, hsr⟩ := hsrc (by omega)
    exact step_copyS hgd d s dT sT ho elem i hu hi g off dLen dCap ad sLen sCap hd hs cur t hg cs hn hsr hfit h1 B w0 hb hBg h
theorem ecells_src {w : World} {b o : Nat} {l : List (Int × Int)} (h : ∀ i, i < l.length → w.cell? ⟨b, o + i * 2, none⟩ = some (.int .i64 (l.getD i (0, 0)).1) ∧ w.cell? ⟨b, o + i * 2 + 1, none⟩ = some (.int .i64 (l.getD i (0, 0)).2)) (m : Nat) :
    ∀ j u, (ecells (l.take m))[j]? = some u → w.cell? ((⟨b, o, none⟩ : Addr).add j) = some u := by
  intro j u hj
  have hl : j < (ecells (l.take m)).length := (List.getElem?_eq_some_iff.1 hj).1
  rw [ecells_length, List.length_take] at hl
  have hi : j / 2 < (l.take m).length := by rw [List.length_take]; omega
  have hil : j / 2 < l.length := by rw [List.length_take] at hi; omega
  have hg := ecells_get (l.take m) (j / 2) hi
  have hc := h (j / 2) hil
  have e : (l.take m).getD (j / 2) (0, 0) = l.getD (j / 2) (0, 0) := by
    rw [List.length_take] at hi
    simp only [List.getD_eq_getElem?_getD, List.getElem?_take]
    rw [if_pos (by omega)]
  rw [e] at hg
  rw [Addr.add_mid]
  rcases Nat.mod_two_eq_zero_or_one j with hm | hm
  · have hjj : j / 2 * 2 = j := by omega
    rw [hjj] at hg hc
    rw [hg.1] at hj
    cases hj
    exact hc.1
  · have hjj : j / 2 * 2 + 1 = j := by omega
    rw [hjj] at hg
    rw [show o + j / 2 * 2 + 1 = o + j from by omega] at hc
    rw [hg.2] at hj
    cases hj
    exact hc.2
/-- A spot ahead of its kin. -/
def spotM (p0 p1 p2 : Int) (m : Nat) : List Value := [.bool true, .int .i64 p0, .int .i64 p1, .int .i64 p2, .int .i64 0, .int .i64 0, .int .i64 0, .int .i64 0, .int .i64 0, .int .i64 0, .int .i64 0, .int .i64 0, .int .i64 0, .int .i64 0, .int .i64 0, .int .i64 0, .int .i64 0, .int .i64 0, .int .i64 0, .int .i64 0, .int .i64 m]
theorem spotM_kin (p0 p1 p2 : Int) (l : List (Int × Int)) : splice (spotM p0 p1 p2 l.length) 4 (ecells (l.take 8)) = spotC true p0 p1 p2 l := by
  match l with
  | [] => rfl
  | [_] => rfl
  | [_, _] => rfl
  | [_, _, _] => rfl
  | [_, _, _, _] => rfl
  | [_, _, _, _, _] => rfl
  | [_, _, _, _, _, _] => rfl
  | [_, _, _, _, _, _, _] => rfl
  | _ :: _ :: _ :: _ :: _ :: _ :: _ :: _ :: _ => rfl
theorem spotC_length (f : Bool) (p0 p1 p2 : Int) (l : List (Int × Int)) : (spotC f p0 p1 p2 l).length = 21 := rfl
theorem spotC_one (p0 p1 p2 : Int) (l : List (Int × Int)) : ∀ v ∈ spotC true p0 p1 p2 l, v.oneCell' = true := cellsP_one (some ([p0, p1, p2], l))
theorem rangeAt_whole {w : World} {g : Nat} {C : List Value} {t : TypeId} (h : w.heap[g]? = some (.cells C.toArray t (0, 0))) : w.rangeAt g 0 C := fun j v hv => by
  rw [Nat.zero_add, cell_of_row w g j _ _ _ h]
  simpa using hv
theorem spotM_one (p0 p1 p2 : Int) (m : Nat) : ∀ v ∈ spotM p0 p1 p2 m, v.oneCell' = true := by
  intro v hv
  simp only [spotM, List.mem_cons, List.not_mem_nil, or_false] at hv
  rcases hv with rfl | rfl | rfl | rfl | rfl | rfl | rfl | rfl | rfl | rfl | rfl | rfl | rfl | rfl | rfl | rfl | rfl | rfl | rfl | rfl | rfl <;> rfl
theorem spot_src {w w4 : World} {ao : Option Addr} {l : List (Int × Int)} (h : 0 < l.length → ∃ b off, ao = some ⟨b, off, none⟩ ∧ b < w.heap.size ∧
      ∀ i, i < l.length → w.cell? ⟨b, off + i * 2, none⟩ = some (.int .i64 (l.getD i (0, 0)).1) ∧ w.cell? ⟨b, off + i * 2 + 1, none⟩ = some (.int .i64 (l.getD i (0, 0)).2)) (hb : Below w.heap.size w w4) (h0 : 0 < Nat.min l.length 8) :
    ∃ ad, ao = some ad ∧ ∀ j v, (ecells (l.take 8))[j]? = some v → w4.drew.cell? (ad.add j) = some v := by
  have hl : 0 < l.length := Nat.pos_of_ne_zero (fun e => by rw [e] at h0; exact absurd h0 (by decide))
  obtain ⟨b, off, rfl, hlt, hc⟩ := h hl
  exact ⟨_, rfl, ecells_src (w := w4.drew) (fun i hi => by
    obtain ⟨c0, c1⟩ := hc i hi
    exact ⟨by simpa using (hb.cell (p := ⟨b, off + i * 2, none⟩) hlt).trans c0, by simpa using (hb.cell (p := ⟨b, off + i * 2 + 1, none⟩) hlt).trans c1⟩) 8⟩
theorem stQ_new (W : World) (Z M : List Value) (hZ : Z.length = 21) (hM : M.length = 21) (h1 : ∀ v ∈ M, v.oneCell' = true) (g : Nat) (hg : W.heap[g]? = some (.cells Z.toArray 65 (0, 0))) :
    ∃ W', (stQ (.pointer (some ⟨g, 0, none⟩)) (.agg M.toArray)).run Try.prog W = .ok () W' ∧ W'.heap[g]? = some (.cells M.toArray 65 (0, 0)) ∧ Only (fun k => k = g) W W' ∧ W'.heap.size = W.heap.size := by
  have e : splice Z 0 M = M := by simp [splice, hZ, hM]
  refine ⟨W.setRow g (splice Z 0 M).toArray, run_store_splice W g 0 _ 65 Z M hg (by omega) h1 (by rw [Try.infoX_spot, hM]), ?_, only_setRow _ _ _, by simp [World.setRow]⟩
  rw [setRow_heap W g _ _ 65 _ hg, e]
theorem zeroXe (w : World) : (zeroValue 65).run Try.prog w = .ok (.agg #[.bool false, .int .i64 0, .int .i64 0, .int .i64 0, .int .i64 0, .int .i64 0, .int .i64 0, .int .i64 0, .int .i64 0, .int .i64 0, .int .i64 0, .int .i64 0, .int .i64 0, .int .i64 0, .int .i64 0, .int .i64 0, .int .i64 0, .int .i64 0, .int .i64 0, .int .i64 0, .int .i64 0]) w := zeroX w
attribute [local go_sem ↓] ldQ_open stQ_open zeroXe
theorem Try.infoX_edge : ∃ i, Try.prog.info? 62 = some i ∧ i.size = 2 := by
  obtain ⟨i0, hi, _, hz1, _⟩ := info_parts Try.info62
  exact ⟨i0, hi, hz1⟩
set_option maxRecDepth 100000 in
set_option maxHeartbeats 2000000 in
theorem spotOf_any (p0 p1 p2 : Int) (v : Value) (l : List (Int × Int)) (w : World) (h : Rd w v l) :
    Calls Try.prog 56 #[.agg #[.int .i64 p0, .int .i64 p1, .int .i64 p2, v]] w fun e w' => e = .returned (.agg (spotC true p0 p1 p2 l).toArray) ∧ Below w.heap.size w w' := by
  have HR := hid h
  obtain ⟨ao, cap, rfl, hml, hcc⟩ := h
  obtain ⟨i0, hi0, hz0⟩ := Try.infoX_edge
  have HI := hid hi0
  have HZ := hid hz0
  have HC := hid hcc
  clear hi0 hz0 hcc
  have b3 : Below w.heap.size w (((w.alloc (.cells #[.int .i64 p0, .int .i64 p1, .int .i64 p2, .slice ao l.length cap] 31)).alloc (.cells #[.bool false, .int .i64 0, .int .i64 0, .int .i64 0, .int .i64 0, .int .i64 0, .int .i64 0, .int .i64 0, .int .i64 0, .int .i64 0, .int .i64 0, .int .i64 0, .int .i64 0, .int .i64 0, .int .i64 0, .int .i64 0, .int .i64 0, .int .i64 0, .int .i64 0, .int .i64 0, .int .i64 0] 65)).alloc (.cells #[.bool false, .int .i64 0, .int .i64 0, .int .i64 0, .int .i64 0, .int .i64 0, .int .i64 0, .int .i64 0, .int .i64 0, .int .i64 0, .int .i64 0, .int .i64 0, .int .i64 0, .int .i64 0, .int .i64 0, .int .i64 0, .int .i64 0, .int .i64 0, .int .i64 0, .int .i64 0, .int .i64 0] 65)) := by go_grown
  have g2 : (((w.alloc (.cells #[.int .i64 p0, .int .i64 p1, .int .i64 p2, .slice ao l.length cap] 31)).alloc (.cells #[.bool false, .int .i64 0, .int .i64 0, .int .i64 0, .int .i64 0, .int .i64 0, .int .i64 0, .int .i64 0, .int .i64 0, .int .i64 0, .int .i64 0, .int .i64 0, .int .i64 0, .int .i64 0, .int .i64 0, .int .i64 0, .int .i64 0, .int .i64 0, .int .i64 0, .int .i64 0, .int .i64 0] 65)).alloc (.cells #[.bool false, .int .i64 0, .int .i64 0, .int .i64 0, .int .i64 0, .int .i64 0, .int .i64 0, .int .i64 0, .int .i64 0, .int .i64 0, .int .i64 0, .int .i64 0, .int .i64 0, .int .i64 0, .int .i64 0, .int .i64 0, .int .i64 0, .int .i64 0, .int .i64 0, .int .i64 0, .int .i64 0] 65)).heap[w.heap.size + 1 + 1]? = some (.cells (cellsP none).toArray 65 (0, 0)) := by
    have := heap_alloc_new ((w.alloc (.cells #[.int .i64 p0, .int .i64 p1, .int .i64 p2, .slice ao l.length cap] 31)).alloc (.cells #[.bool false, .int .i64 0, .int .i64 0, .int .i64 0, .int .i64 0, .int .i64 0, .int .i64 0, .int .i64 0, .int .i64 0, .int .i64 0, .int .i64 0, .int .i64 0, .int .i64 0, .int .i64 0, .int .i64 0, .int .i64 0, .int .i64 0, .int .i64 0, .int .i64 0, .int .i64 0, .int .i64 0] 65)) (.cells #[.bool false, .int .i64 0, .int .i64 0, .int .i64 0, .int .i64 0, .int .i64 0, .int .i64 0, .int .i64 0, .int .i64 0, .int .i64 0, .int .i64 0, .int .i64 0, .int .i64 0, .int .i64 0, .int .i64 0, .int .i64 0, .int .i64 0, .int .i64 0, .int .i64 0, .int .i64 0, .int .i64 0] 65)
    have e : ((w.alloc (.cells #[.int .i64 p0, .int .i64 p1, .int .i64 p2, .slice ao l.length cap] 31)).alloc (.cells #[.bool false, .int .i64 0, .int .i64 0, .int .i64 0, .int .i64 0, .int .i64 0, .int .i64 0, .int .i64 0, .int .i64 0, .int .i64 0, .int .i64 0, .int .i64 0, .int .i64 0, .int .i64 0, .int .i64 0, .int .i64 0, .int .i64 0, .int .i64 0, .int .i64 0, .int .i64 0, .int .i64 0] 65)).heap.size = w.heap.size + 1 + 1 := by simp
    rw [e] at this
    exact this
  have g1 : (((w.alloc (.cells #[.int .i64 p0, .int .i64 p1, .int .i64 p2, .slice ao l.length cap] 31)).alloc (.cells #[.bool false, .int .i64 0, .int .i64 0, .int .i64 0, .int .i64 0, .int .i64 0, .int .i64 0, .int .i64 0, .int .i64 0, .int .i64 0, .int .i64 0, .int .i64 0, .int .i64 0, .int .i64 0, .int .i64 0, .int .i64 0, .int .i64 0, .int .i64 0, .int .i64 0, .int .i64 0, .int .i64 0] 65)).alloc (.cells #[.bool false, .int .i64 0, .int .i64 0, .int .i64 0, .int .i64 0, .int .i64 0, .int .i64 0, .int .i64 0, .int .i64 0, .int .i64 0, .int .i64 0, .int .i64 0, .int .i64 0, .int .i64 0, .int .i64 0, .int .i64 0, .int .i64 0, .int .i64 0, .int .i64 0, .int .i64 0, .int .i64 0] 65)).heap[w.heap.size + 1]? = some (.cells (cellsP none).toArray 65 (0, 0)) := by
    have := heap_alloc_new (w.alloc (.cells #[.int .i64 p0, .int .i64 p1, .int .i64 p2, .slice ao l.length cap] 31)) (.cells #[.bool false, .int .i64 0, .int .i64 0, .int .i64 0, .int .i64 0, .int .i64 0, .int .i64 0, .int .i64 0, .int .i64 0, .int .i64 0, .int .i64 0, .int .i64 0, .int .i64 0, .int .i64 0, .int .i64 0, .int .i64 0, .int .i64 0, .int .i64 0, .int .i64 0, .int .i64 0, .int .i64 0] 65)
    have e : (w.alloc (.cells #[.int .i64 p0, .int .i64 p1, .int .i64 p2, .slice ao l.length cap] 31)).heap.size = w.heap.size + 1 := by simp
    rw [e] at this
    rw [Below.heap_alloc _ _ _ (by simp)]
    exact this
  have c3 : (((w.alloc (.cells #[.int .i64 p0, .int .i64 p1, .int .i64 p2, .slice ao l.length cap] 31)).alloc (.cells #[.bool false, .int .i64 0, .int .i64 0, .int .i64 0, .int .i64 0, .int .i64 0, .int .i64 0, .int .i64 0, .int .i64 0, .int .i64 0, .int .i64 0, .int .i64 0, .int .i64 0, .int .i64 0, .int .i64 0, .int .i64 0, .int .i64 0, .int .i64 0, .int .i64 0, .int .i64 0, .int .i64 0] 65)).alloc (.cells #[.bool false, .int .i64 0, .int .i64 0, .int .i64 0, .int .i64 0, .int .i64 0, .int .i64 0, .int .i64 0, .int .i64 0, .int .i64 0, .int .i64 0, .int .i64 0, .int .i64 0, .int .i64 0, .int .i64 0, .int .i64 0, .int .i64 0, .int .i64 0, .int .i64 0, .int .i64 0, .int .i64 0] 65)).cell? ⟨w.heap.size, 3, none⟩ = some (.slice ao l.length cap) := by go_cell
  have s3 : (((w.alloc (.cells #[.int .i64 p0, .int .i64 p1, .int .i64 p2, .slice ao l.length cap] 31)).alloc (.cells #[.bool false, .int .i64 0, .int .i64 0, .int .i64 0, .int .i64 0, .int .i64 0, .int .i64 0, .int .i64 0, .int .i64 0, .int .i64 0, .int .i64 0, .int .i64 0, .int .i64 0, .int .i64 0, .int .i64 0, .int .i64 0, .int .i64 0, .int .i64 0, .int .i64 0, .int .i64 0, .int .i64 0] 65)).alloc (.cells #[.bool false, .int .i64 0, .int .i64 0, .int .i64 0, .int .i64 0, .int .i64 0, .int .i64 0, .int .i64 0, .int .i64 0, .int .i64 0, .int .i64 0, .int .i64 0, .int .i64 0, .int .i64 0, .int .i64 0, .int .i64 0, .int .i64 0, .int .i64 0, .int .i64 0, .int .i64 0, .int .i64 0] 65)).heap.size = w.heap.size + 3 := by simp
  obtain ⟨w4, hst, r2, o4, s4⟩ := stQ_new _ (cellsP none) (spotM p0 p1 p2 l.length) (cellsP_length _) rfl (fun v hv => spotM_one p0 p1 p2 l.length v hv) _ g2
  have hst' : (stQ (.pointer (some ⟨w.heap.size + 1 + 1, 0, none⟩)) (.agg #[.bool true, .int .i64 p0, .int .i64 p1, .int .i64 p2, .int .i64 0, .int .i64 0, .int .i64 0, .int .i64 0, .int .i64 0, .int .i64 0, .int .i64 0, .int .i64 0, .int .i64 0, .int .i64 0, .int .i64 0, .int .i64 0, .int .i64 0, .int .i64 0, .int .i64 0, .int .i64 0, .int .i64 l.length])).run Try.prog (((w.alloc (.cells #[.int .i64 p0, .int .i64 p1, .int .i64 p2, .slice ao l.length cap] 31)).alloc (.cells #[.bool false, .int .i64 0, .int .i64 0, .int .i64 0, .int .i64 0, .int .i64 0, .int .i64 0, .int .i64 0, .int .i64 0, .int .i64 0, .int .i64 0, .int .i64 0, .int .i64 0, .int .i64 0, .int .i64 0, .int .i64 0, .int .i64 0, .int .i64 0, .int .i64 0, .int .i64 0, .int .i64 0] 65)).alloc (.cells #[.bool false, .int .i64 0, .int .i64 0, .int .i64 0, .int .i64 0, .int .i64 0, .int .i64 0, .int .i64 0, .int .i64 0, .int .i64 0, .int .i64 0, .int .i64 0, .int .i64 0, .int .i64 0, .int .i64 0, .int .i64 0, .int .i64 0, .int .i64 0, .int .i64 0, .int .i64 0, .int .i64 0] 65)) = .ok () w4 := hst
  clear hst
  have b4 : Below w.heap.size w w4 := b3.trans (o4.below (fun k hk => by omega) (by rw [s3]; omega))
  have R1 : Hid (w4.heap[w.heap.size + 1]? = some (.cells (cellsP none).toArray 65 (0, 0))) := hid ((o4.block _ (by rw [s3]; omega) (by omega)).trans g1)
  have c4 : w4.cell? ⟨w.heap.size, 3, none⟩ = some (.slice ao l.length cap) := (World.cell?_of_block (a := ⟨w.heap.size, 3, none⟩) (o4.block _ (by rw [s3]; show w.heap.size < _; omega) (by show ¬ w.heap.size = _; omega))).trans c3
  have R2 := hid r2
  have S4 : Hid (w4.heap.size = w.heap.size + 3) := hid (s4.trans s3)
  have B4 := hid b4
  clear b3 g2 g1 c3 s3 r2 o4 s4 b4
  go_enter Try.func56, Try.ntmps56
  go_wp2_with fail
  clear hst'
  have c4d : w4.drew.cell? ⟨w.heap.size, 3, none⟩ = some (.slice ao l.length cap) := by simpa using c4
  go_region_law (refine step_copyX rfl _ _ 27 27 rfl 62 i0 Try.underlying27 HI.out (w.heap.size + 1 + 1) 4 8 8 ao l.length cap (by simp [Act.eval]) (by simp [Act.eval]) _ 65 R2.out (ecells (l.take 8)) (by rw [HZ.out, ecells_length, List.length_take, Nat.min_comm]) (fun h0 => spot_src HC.out B4.out h0) (by rw [ecells_length, List.length_take]; show 4 + min 8 l.length * 2 ≤ 21; omega) (ecells_one _) (w.heap.size) w (B4.out.drew) (by omega) ?_; intro w5 HG5 hB5 hg5)
  have G5 : Hid (w5.heap[w.heap.size + 1 + 1]? = some (.cells (spotC true p0 p1 p2 l).toArray 65 (0, 0))) := hid (by rw [← spotM_kin]; exact HG5.out)
  have R15 := (hg5 (w.heap.size + 1) (by omega)).trans R1.out
  have hld : (ldQ (.pointer (some ⟨w.heap.size + 1 + 1, 0, none⟩))).run Try.prog w5 = .ok (.agg (spotC true p0 p1 p2 l).toArray) w5 := ldQ_row (rangeAt_whole G5.out) rfl
  obtain ⟨w6, hst, r6, o6, s6⟩ := stQ_new w5 (cellsP none) (spotC true p0 p1 p2 l) (cellsP_length _) rfl (spotC_one p0 p1 p2 l) _ R15
  have R6 := hid r6
  have B6 : Hid (Below w.heap.size w w6) := hid (hB5.trans (o6.below (fun k hk => by omega) hB5.size))
  clear HG5 hg5 hB5 R15 r6 o6 s6 c4d c4 R1 R2 S4 B4 HC
  go_wp2_with fail
  exact bodyPost_ret (results_cell_row Try.results56 _ _ (w.heap.size + 1) 65 (spotC true p0 p1 p2 l).toArray (0, 0) _ rfl R6.out Try.underlying65 rfl (by rw [Try.infoX_spot]; rfl)) rfl ⟨rfl, B6.out⟩
end Go.Proofs.Ytnenlnadmdlcfaa
