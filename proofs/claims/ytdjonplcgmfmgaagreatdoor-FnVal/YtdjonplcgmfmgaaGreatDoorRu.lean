/- impl.readEdges: contract. -/
import Derived.Test.YtdjonplcgmfmgaaGreatDoorRt
import Derived.Test.YtdjonplcgmfmgaaGreatDoorGa
namespace Go.Proofs.YtdjonplcgmfmgaaGreatDoor
open Go.RowKit Go.Shelf
attribute [local go_sem] Oper.semAt_some

/-- What readEdges answers: whatever it is, of the text of an ok list that list. -/
def ReadE (s : ByteArray) (B : Nat) (w' : World) (e : Ending) : Prop :=
  ∃ v l b, e = .returned (.tuple #[v, .bool b]) ∧ Own w' B v l ∧ l.length ≤ 201 ∧ ∀ m, okL m = true → textL m = s.data.toList → b = true ∧ l = m

theorem text_pre {m : List (Int × Int)} {s : List UInt8} (h : textL m = s) : Lib.hasPrefix s [40] = true ∧ Lib.trimPrefix s [40] = innerL m ++ [41] := by
  subst h
  simp [textL, Lib.hasPrefix, Lib.trimPrefix]
theorem text_suf (m : List (Int × Int)) : Lib.hasSuffix (innerL m ++ [41]) [41] = true ∧ Lib.trimSuffix (innerL m ++ [41]) [41] = innerL m := by
  simp [Lib.hasSuffix, Lib.trimSuffix]

theorem pcs_at {l : List UInt8} {pre : List ByteArray} {x : ByteArray} (h : (pre ++ [x]) <+: pcs l) : ∃ hk : pre.length < (cutL 32 l).length, x.data.toList = (cutL 32 l)[pre.length] := by
  obtain ⟨r, hr⟩ := h
  have hlen : (pcs l).length = (cutL 32 l).length := by rw [pcs, List.length_map]
  have hk : pre.length < (pcs l).length := by rw [← hr]; simp
  have hx : (pcs l)[pre.length]'hk = x := by simp [← hr]
  refine ⟨by rw [← hlen]; exact hk, ?_⟩
  rw [← hx]
  simp [pcs]
theorem cell_putObj {w : World} {D : Nat} {p : Addr} (o : Obj) (h : p.block ≠ D) : (w.putObj D o).cell? p = w.cell? p := World.cell?_of_block (w := w) (World.putObj_heap_other h)
theorem below_putObj {B D : Nat} (w : World) (o : Obj) (h : B ≤ D) : Below B w (w.putObj D o) := ⟨rfl, rfl, rfl, by simp, fun k hk => World.putObj_heap_other (by omega)⟩
theorem Own.set_apart {w : World} {B : Nat} {v : Value} {l : List (Int × Int)} {p : Addr} (h : Own w B v l) (hp : p.block < B) (u : Value) : Own (w.setCell p u) B v l := by
  refine ⟨h.1, ?_⟩
  rcases h.2 with hn | ⟨g, cap, cur, rfl, hbg, hgg, rest⟩
  · exact .inl hn
  · exact .inr ⟨g, cap, cur, rfl, hbg, (Below.heap_setCell w p u g (by omega)).trans hgg, rest⟩
/-- Edges read of the pieces so far, kept in a box; the results' boxes as they were. -/
def ReadI (w : World) (P : List (List UInt8)) (pre : List ByteArray) (W : World) : Prop :=
  (∃ q : List (Int × Int), Took P q pre.length ∧ ∃ v, Boxed W (w.heap.size + 2) 23 v ∧ W.ownsRow (w.heap.size + 6) 53 2 v q.length (ecells q)) ∧
    Boxed W w.heap.size 23 (.slice none 0 0) ∧ Boxed W (w.heap.size + 1) 4 (.bool false) ∧ Below w.heap.size w W
/-- Left on the way: no ok list has that text. -/
def ReadX (w : World) (s : ByteArray) (c : Code) (W : World) : Prop :=
  c = .ret ∧ Boxed W w.heap.size 23 (.slice none 0 0) ∧ Boxed W (w.heap.size + 1) 4 (.bool false) ∧ Below w.heap.size w W ∧ ∀ m, okL m = true → textL m = s.data.toList → False
theorem boxed_ownFrom (B0 B : Nat) (t : TypeId) (v : Value) : OwnFrom B0 (fun (_ : Unit) W => Boxed W B t v) := (boxed_own (β := Unit) B t (fun _ => v)).from B0
theorem readI_own (w : World) (P : List (List UInt8)) (B0 : Nat) (hB : w.heap.size + 6 ≤ B0) : OwnFrom B0 (ReadI w P) := by
  rintro pre A A' row ⟨⟨q, hq, hvr⟩, h0, h1, hb⟩ hg hr
  have hn : ∀ (B : Nat) (t : TypeId) (v : Value), Boxed A B t v → Boxed A' B t v := fun B t v h => boxed_ownFrom B0 B t v () A A' row h hg hr
  refine ⟨⟨q, hq, ?_⟩, hn _ _ _ h0, hn _ _ _ h1, hb.grown hg hb.size (fun k e => by have := (hr k e).1; omega)⟩
  obtain ⟨v, h2, h3⟩ := hvr
  obtain ⟨v', h4, h5, _⟩ := holdsRow_own (w.heap.size + 6) (w.heap.size + 2) 23 53 2 (fun (x : List (Int × Int)) => x.length) ecells (fun _ _ => True) q A A' row ⟨v, h2, h3, trivial⟩ hg (fun r e => (hr r e).2)
  exact ⟨v', h4, h5⟩
theorem readX_own (w : World) (s : ByteArray) (c : Code) (B0 : Nat) (hB : w.heap.size + 6 ≤ B0) : OwnFrom B0 (fun (_ : Unit) W => ReadX w s c W) := by
  rintro _ A A' row ⟨hc, h0, h1, hb, hm⟩ hg hr
  have hn : ∀ (B : Nat) (t : TypeId) (v : Value), Boxed A B t v → Boxed A' B t v := fun B t v h => boxed_ownFrom B0 B t v () A A' row h hg hr
  exact ⟨hc, hn _ _ _ h0, hn _ _ _ h1, hb.grown hg hb.size (fun k e => by have := (hr k e).1; omega), hm⟩
theorem readI_lets (w : World) (P : List (List UInt8)) : Lets (w.heap.size + 3) (ReadI w P) := by
  rintro pre A A' ⟨⟨q, hq, v, h2, h3⟩, h0, h1, hb⟩ hg
  have hn : ∀ (B : Nat) (t : TypeId) (v : Value), B < w.heap.size + 3 → Boxed A B t v → Boxed A' B t v := fun B t v hl h => h.kept hg (fun e => by have := Option.some.inj e; omega)
  refine ⟨⟨q, hq, v, hn _ _ _ (by omega) h2, h3.kept hg ?_⟩, hn _ _ _ (by omega) h0, hn _ _ _ (by omega) h1, hb.grown hg hb.size (fun k e => by have := Option.some.inj e; omega)⟩
  cases e : v.ownBlock with
  | none => exact .inl rfl
  | some k => exact .inr (fun e2 => by have := World.ownsRow.lt h3 k e; have := Option.some.inj e2; omega)

set_option maxRecDepth 100000 in
set_option maxHeartbeats 2000000 in
theorem readEdges_any (s : ByteArray) (w : World) (hs : s.size ≤ 200) (hv : ErrVars w) (hM : MaxVar w) :
    Calls Tryz.prog 35 #[.string s] w fun e w' => ReadE s w.heap.size w' e ∧ Below w.heap.size w w' := by
  have HV := hid hv
  have HM := hid hM
  clear hv hM
  obtain ⟨i0, hi, hz0, hz1, hz2⟩ := info_parts Tryz.info53
  refine (callsIn_wide (n := 3)).1 ?_
  refine callsIn_of_wp_marks Tryz.func35 rfl trivial ?_ rfl
  simp only [Tryz.ntmps35, List.size_toArray, List.length_cons, List.length_nil, Nat.reduceAdd, Nat.reduceSub, Array.replicate_succ, Array.replicate_zero, List.push_toArray, List.append_toArray, List.nil_append, List.cons_append]
  gi_wp2_with fail
  refine ⟨trivial, (callsIn_wide.2 (Tryz.strings_CutPrefix s ⟨#[40]⟩ _)).mono ?_⟩
  rintro e w1 ⟨rfl, rfl⟩
  obtain ⟨op, hop⟩ : ∃ b, Lib.hasPrefix s.data.toList (⟨#[40]⟩ : ByteArray).data.toList = b := ⟨_, rfl⟩
  obtain ⟨t1, ht1⟩ : ∃ b : ByteArray, ⟨(Lib.trimPrefix s.data.toList (⟨#[40]⟩ : ByteArray).data.toList).toArray⟩ = b := ⟨_, rfl⟩
  have hs1 : t1.size ≤ 200 := by
    rw [← ht1]
    show (Lib.trimPrefix s.data.toList [40]).length ≤ 200
    have : s.data.toList.length = s.size := rfl
    simp only [Lib.trimPrefix]
    split <;> simp <;> omega
  rw [hop, ht1]
  gi_wp2_with fail
  refine ⟨trivial, (callsIn_wide.2 (Tryz.strings_CutSuffix t1 ⟨#[41]⟩ _ (by omega))).mono ?_⟩
  rintro e w1 ⟨rfl, rfl⟩
  obtain ⟨cl, hcl⟩ : ∃ b, Lib.hasSuffix t1.data.toList (⟨#[41]⟩ : ByteArray).data.toList = b := ⟨_, rfl⟩
  obtain ⟨t, ht⟩ : ∃ b : ByteArray, ⟨(Lib.trimSuffix t1.data.toList (⟨#[41]⟩ : ByteArray).data.toList).toArray⟩ = b := ⟨_, rfl⟩
  have hs2 : t.size ≤ 200 := by
    rw [← ht]
    show (Lib.trimSuffix t1.data.toList [41]).length ≤ 200
    have : t1.data.toList.length = t1.size := rfl
    simp only [Lib.trimSuffix]
    split <;> simp <;> omega
  rw [hcl, ht]
  have HA : Hid (∀ m, okL m = true → textL m = s.data.toList → op = true ∧ cl = true ∧ innerL m = t.data.toList) := hidT (fun m _ hm => by
    obtain ⟨p1, p2⟩ := text_pre hm
    have e1 : t1.data.toList = innerL m ++ [41] := by rw [← ht1, ← p2]
    obtain ⟨q1, q2⟩ := text_suf m
    refine ⟨by rw [← hop]; exact p1, by rw [← hcl, e1]; exact q1, ?_⟩
    rw [← ht, e1]; exact q2.symm)
  clear hop ht1 hcl ht
  cases op with
  | false =>
    gi_wp2
    refine ⟨_, by simp [results, Tryz.results35, go_sem], ⟨_, [], false, rfl, World.ownsRow_nil _ _ _ _, by simp, fun m h1 h2 => by cases (HA.out m h1 h2).1⟩, by go_grown⟩
  | true =>
    cases cl with
    | false =>
      gi_wp2
      refine ⟨_, by simp [results, Tryz.results35, go_sem], ⟨_, [], false, rfl, World.ownsRow_nil _ _ _ _, by simp, fun m h1 h2 => by cases (HA.out m h1 h2).2.1⟩, by go_grown⟩
    | true =>
      cases hte : t.toList.isEmpty with
      | true =>
        have HT : Hid (t.data.toList = []) := hidT (by
          rw [ByteArray.toList_eq, List.isEmpty_iff] at hte
          exact hte)
        gi_wp2
        refine ⟨_, by simp [results, Tryz.results35, go_sem], ⟨_, [], true, rfl, World.ownsRow_nil _ _ _ _, by simp, fun m h1 h2 => ⟨rfl, (inner_nil (by rw [(HA.out m h1 h2).2.2, HT.out]; rfl)).symm⟩⟩, by go_grown⟩
      | false =>
        have HT : Hid (t.data.toList ≠ []) := hidT (by
          rw [ByteArray.toList_eq] at hte
          intro h
          rw [h] at hte
          cases hte)
        gi_wp2_with fail
        have hb0 : Below w.heap.size w (((w.alloc (.cells #[.slice none 0 0] 23)).alloc (.cells #[.bool false] 4)).alloc (.cells #[.slice none 0 0] 23)) := by go_grown
        have hx0 : Boxed (((w.alloc (.cells #[.slice none 0 0] 23)).alloc (.cells #[.bool false] 4)).alloc (.cells #[.slice none 0 0] 23)) w.heap.size 23 (.slice none 0 0) := ((Boxed.new w _ _).alloc _).alloc _
        have hx1 : Boxed (((w.alloc (.cells #[.slice none 0 0] 23)).alloc (.cells #[.bool false] 4)).alloc (.cells #[.slice none 0 0] 23)) (w.heap.size + 1) 4 (.bool false) := by
          have := (Boxed.new (w.alloc (.cells #[.slice none 0 0] 23)) 4 (.bool false)).alloc (.cells #[.slice none 0 0] 23)
          rwa [World.size_alloc] at this
        have hx2 : Boxed (((w.alloc (.cells #[.slice none 0 0] 23)).alloc (.cells #[.bool false] 4)).alloc (.cells #[.slice none 0 0] 23)) (w.heap.size + 2) 23 (.slice none 0 0) := by
          have := Boxed.new ((w.alloc (.cells #[.slice none 0 0] 23)).alloc (.cells #[.bool false] 4)) 23 (.slice none 0 0)
          rwa [World.size_alloc, World.size_alloc] at this
        have hz : (((w.alloc (.cells #[.slice none 0 0] 23)).alloc (.cells #[.bool false] 4)).alloc (.cells #[.slice none 0 0] 23)).heap.size = w.heap.size + 3 := by simp
        generalize ((w.alloc (.cells #[.slice none 0 0] 23)).alloc (.cells #[.bool false] 4)).alloc (.cells #[.slice none 0 0] 23) = W0 at hb0 hx0 hx1 hx2 hz ⊢
        refine ⟨trivial, (callsIn_wide.2 (splitSeq_any t W0 (HM.out.below hb0))).mono ?_⟩
        rintro e W1 ⟨rfl, hR, hb1, hz1'⟩
        rw [hz] at hR hz1' ⊢
        have hx0' := hx0.kept (grown_of_below hb1) (by simp)
        have hx1' := hx1.kept (grown_of_below hb1) (by simp)
        have hx2' := hx2.kept (grown_of_below hb1) (by simp)
        have hbw := hb0.trans (hb1.mono hb0.size)
        clear hx0 hx1 hx2 hb1 hb0
        gi_wp2_with fail
        obtain ⟨P, hP⟩ : ∃ P, cutL 32 t.data.toList = P := ⟨_, rfl⟩
        have HB : Hid (Below w.heap.size w W1) := hid hbw
        have HR := hid hR
        have HZ := hid hz1'
        have HX0 := hid hx0'
        have HX1 := hid hx1'
        have HX2 := hid hx2'
        clear hbw hR hz1' hx0' hx1' hx2' hz
        have hG : 1 < w.heap.size := by
          obtain ⟨m, hm⟩ := HM.out
          exact World.block_lt_of_cell? _ _ hm
        have HP : Hid (∀ m, okL m = true → textL m = s.data.toList → P = m.map edgeT) := hidT (fun m h1 h2 => by
          have e := (HA.out m h1 h2).2.2
          rw [← hP, ← e]
          refine cut_inner ?_ (okP h1)
          intro hm
          apply HT.out
          rw [← e, hm]
          simp [innerL, Lib.join_nil])
        have hsz1 : W1.heap.size = w.heap.size + 3 + 3 := HZ.out
        refine range_turns (b := w.heap.size + 3) (Kp := KeepB w.heap.size (w.heap.size + 3)) (ls := pcs t.data.toList) (Z := fun W => Rest (w.heap.size + 3) W t) rfl (by omega) (gf := 91) (lb := #[.pointer (some ⟨w.heap.size + 3 + 1, 0, none⟩), .pointer (some ⟨w.heap.size + 3, 0, none⟩), .pointer (some ⟨w.heap.size + 3 + 2, 0, none⟩)]) rfl trivial
          (enters_of Tryz.func91 (by kernel_rfl) rfl) (encs := encS)
          (fun l J Jx W hZ hJ hY h0 => splitW_in 2 (by omega) l w.heap.size (w.heap.size + 3) hG (by omega) t (by omega) J Jx W hZ hJ hY h0)
          (by omega) KeepB.trans (fun l W W' hl hT k hk => ?kb) (fun W hb => HR.out.later hb) (fun _ => rfl)
          (ReadI w P) (ReadX w s) (readI_own w P _ (by omega)) (readI_lets w P) (fun c => readX_own w s c _ (by omega))
          ⟨⟨[], took_zero P, _, HX2.out, World.ownsRow_nil _ _ _ _⟩, HX0.out, HX1.out, HB.out⟩ ?round ?done ?stop
        case kb =>
          obtain ⟨_, r', rfl⟩ := hT
          exact World.putObj_heap_other (by omega)
        case done =>
          rintro D W hD ⟨⟨q, hq, v, h2, h3⟩, h0, h1, hb⟩ hK
          have hO : Own W (w.heap.size + 6) v q := h3
          have HO := hid hO
          obtain ⟨vo, vc, hvv, _⟩ := hO.rd
          subst hvv
          clear hO h3
          have y2 := h2.cell
          have y0 := h0.cell
          have y1 := h1.cell
          have f0 := h0.frozen
          have f1 := h1.frozen
          have HQ := hid hq
          have HB2 := hid hb
          have HPl : Hid (P.length ≤ 201) := hidT (by rw [← hP]; have := cut_many 32 t.data.toList; have e : t.data.toList.length = t.size := rfl; omega)
          clear hq hb h2 h0 h1 HX0 HX1 HX2 HR HB
          gi_wp2
          have hK2 : ((W.setCell ⟨w.heap.size, 0, none⟩ (.slice vo q.length vc)).setCell ⟨w.heap.size + 1, 0, none⟩ (.bool true)).heap[D]? = some (.deferred (some [])) := by
            rw [Below.heap_setCell _ _ _ _ (by show D ≠ w.heap.size + 1; omega), Below.heap_setCell _ _ _ _ (by show D ≠ w.heap.size; omega)]; exact hK
          have e0 : (((W.setCell ⟨w.heap.size, 0, none⟩ (.slice vo q.length vc)).setCell ⟨w.heap.size + 1, 0, none⟩ (.bool true)).putObj D (.deferred none)).cell? ⟨w.heap.size, 0, none⟩ = some (.slice vo q.length vc) := by
            rw [cell_putObj _ (by show w.heap.size ≠ D; omega)]; go_cell
          have e1 : (((W.setCell ⟨w.heap.size, 0, none⟩ (.slice vo q.length vc)).setCell ⟨w.heap.size + 1, 0, none⟩ (.bool true)).putObj D (.deferred none)).cell? ⟨w.heap.size + 1, 0, none⟩ = some (.bool true) := by
            rw [cell_putObj _ (by show w.heap.size + 1 ≠ D; omega)]; go_cell
          refine ⟨by simp, .inl ⟨_, _, rfl, run_takeDeferred hK2, ?_⟩⟩
          have hql : q.length = P.length := by rw [HQ.out.1, pcs, List.length_map, hP]
          have hO2 := (HO.out.set_apart (p := ⟨w.heap.size, 0, none⟩) (by show w.heap.size < _; omega) (.slice vo q.length vc)).set_apart (p := ⟨w.heap.size + 1, 0, none⟩) (by show w.heap.size + 1 < _; omega) (.bool true)
          have hO3 : Own (((W.setCell ⟨w.heap.size, 0, none⟩ (.slice vo q.length vc)).setCell ⟨w.heap.size + 1, 0, none⟩ (.bool true)).putObj D (.deferred none)) (w.heap.size + 6) (.slice vo q.length vc) q := ownsRow_putObj hO2 _ hK2 rfl
          refine ⟨_, by simp [results, Tryz.results35, go_sem, e0, e1], ⟨_, q, true, rfl, hO3.mono (by omega), by rw [hql]; exact HPl.out, fun m h1 h2 => ⟨rfl, ?_⟩⟩, ?_⟩
          · have hm := HP.out m h1 h2
            rw [HQ.out.2 m h1 hm]
            exact List.take_of_length_le (by rw [pcs, List.length_map, hP, hm, List.length_map]; exact Nat.le_refl _)
          · exact ((HB2.out.setCell (p := ⟨w.heap.size, 0, none⟩) (Nat.le_refl _) _).setCell (p := ⟨w.heap.size + 1, 0, none⟩) (by show _ ≤ w.heap.size + 1; omega) _).trans (below_putObj _ _ (by omega))
        case stop =>
          rintro D c W hD ⟨rfl, h0, h1, hb, hm⟩ hK
          have y0 := h0.cell
          have y1 := h1.cell
          gi_wp2
          have e0 : (W.putObj D (.deferred none)).cell? ⟨w.heap.size, 0, none⟩ = some (.slice none 0 0) := by
            rw [cell_putObj _ (by show w.heap.size ≠ D; omega)]; exact y0
          have e1 : (W.putObj D (.deferred none)).cell? ⟨w.heap.size + 1, 0, none⟩ = some (.bool false) := by
            rw [cell_putObj _ (by show w.heap.size + 1 ≠ D; omega)]; exact y1
          refine ⟨by simp, .inl ⟨_, _, rfl, run_takeDeferred hK, ?_⟩⟩
          exact ⟨_, by simp [results, Tryz.results35, go_sem, e0, e1], ⟨_, [], false, rfl, World.ownsRow_nil _ _ _ _, by simp, fun m h1 h2 => (hm m h1 h2).elim⟩, hb.trans (below_putObj _ _ (by omega))⟩
        case round =>
          rintro l pre x W hl ⟨⟨q, hq, v, h2, h3⟩, h0, h1, hb⟩ hpre
          obtain ⟨hk, hx⟩ := pcs_at hpre
          have hxs : x.size ≤ 200 := by
            have := cut_len 32 t.data.toList _ (List.getElem_mem hk)
            rw [← hx] at this
            have e1 : x.data.toList.length = x.size := rfl
            have e2 : t.data.toList.length = t.size := rfl
            omega
          gi_wp2
          refine ⟨KeepsFrom.refl _ _, fun _ _ => rfl, ⟨⟨q, hq, v, h2, h3⟩, h0, h1, hb⟩, ?_⟩
          clear hq h2 h3 h0 h1 hb hpre
          rintro W2 hT ⟨⟨q, hq, v, h2, h3⟩, h0, h1, hb⟩
          have hlW2 : l < W2.heap.size := by
            obtain ⟨⟨r, hr⟩, r', rfl⟩ := hT
            simpa using (Array.getElem?_eq_some_iff.1 hr).1
          gi_wp2_with fail
          refine ⟨trivial, (callsIn_wide.2 (readEdge_any x W2 (by omega) (HV.out.below hb) (HM.out.below hb))).mono ?_⟩
          rintro e w3 ⟨⟨a, b, ok, rfl, hab, hbb, hX⟩, b3⟩
          have hPk : P[pre.length]'(by rw [← hP]; exact hk) = x.data.toList := by subst hP; exact hx.symm
          have HX : Hid (∀ m, okL m = true → P = m.map edgeT → m[pre.length]? = some (a, b) ∧ ok = true) := hidT (fun m hm hPm => by
            obtain ⟨y, y1, y2, y3, y4⟩ := piece_at (by rw [← hP]; exact hk) hPm hm
            obtain ⟨e1, e2, e3⟩ := hX y y3 y2 (by rw [← hPk, y4])
            exact ⟨by rw [y1, e1, e2], e3⟩)
          clear hX
          have g3 := grown_of_below b3
          have H0 := h0.kept g3 (by simp)
          have H1 := h1.kept g3 (by simp)
          have H2 := h2.kept g3 (by simp)
          have H3 := row_later h3 b3
          have HBW := hb.trans (b3.mono hb.size)
          have l0 := H0.lt
          have l1 := H1.lt
          have l2 := H2.lt
          cases ok with
          | false =>
            have y0 := H0.cell
            have y1 := H1.cell
            have f0 := H0.frozen
            have f1 := H1.frozen
            gi_wp2
            refine ⟨((((KeepsFrom.of_grownBy (B := W1.heap.size) g3 (by simp)).trans ((KeepsOthers.setCell _ _ _).from _)).trans ((KeepsOthers.setCell _ _ _).from _)).trans ((KeepsOthers.alloc _ _).from _)),
              rfl, ((H0.set _).other (by omega) _).alloc _, ((H1.other (by omega) _).set _).alloc _, ?_, fun m h1 h2 => by cases (HX.out m h1 (HP.out m h1 h2)).2⟩
            exact ((HBW.setCell (p := ⟨w.heap.size, 0, none⟩) (Nat.le_refl _) _).setCell (p := ⟨w.heap.size + 1, 0, none⟩) (by show _ ≤ w.heap.size + 1; omega) _).alloc (by simp; omega) _
          | true =>
            have y2 := H2.cell
            have hq1 : q.length ≤ 201 := by
              rw [hq.1]
              have : P.length ≤ 201 := by rw [← hP]; have := cut_many 32 t.data.toList; have e : t.data.toList.length = t.size := rfl; omega
              have : pre.length < P.length := by rw [← hP]; exact hk
              omega
            have HQ := hid hq
            have hk1 : q.length + 1 ≤ maxLen := by unfold maxLen; omega
            have hk2 : (q.length + 1) * 16 ≤ 140737488355328 := by omega
            have l3 : w.heap.size + 6 ≤ W2.heap.size := by have := HZ.out; omega
            have l4 : w.heap.size + 6 ≤ w3.heap.size := Nat.le_trans l3 b3.size
            have hnb : ∀ B, B < w.heap.size + 6 → some B ≠ v.ownBlock := fun B hB e => by have := World.ownsRow.lt H3 B e.symm; omega
            have HNB := hid hnb
            have hnews : ∀ j u, [Value.int .i64 a, .int .i64 b][j]? = some u → ((w3.alloc (.cells #[.int .i64 a, .int .i64 b] 53)).alloc (.cells #[.int .i64 a, .int .i64 b] 53)).cell? ((⟨w3.heap.size + 1, 0, none⟩ : Addr).add j) = some u := by
              have := cells_two_new (w3.alloc (.cells #[.int .i64 a, .int .i64 b] 53)) (.int .i64 a) (.int .i64 b) 53
              rwa [World.size_alloc] at this
            have HN := hid hnews
            have HW2 := hid (show Below W2.heap.size W2 w3 from b3)
            have HG3 := hid g3
            have hO3 : Own (w3.alloc (.cells #[.int .i64 a, .int .i64 b] 53)) (w.heap.size + 6) v q := H3.alloc _
            have hbs : w.heap.size + 6 ≤ ((w3.alloc (.cells #[.int .i64 a, .int .i64 b] 53)).alloc (.cells #[.int .i64 a, .int .i64 b] 53)).heap.size := by simp; omega
            clear hnb hnews hq b3 g3 hPk hx hlW2 hT
            gi_wp2_with (gi_at_builtin; refine wpListIn_append_own _ rfl _ _ 23 rfl (w.heap.size + 6) 53 i0 (.agg #[.int .i64 0, .int .i64 0]) 2 16 Tryz.underlying23 hi hz0 hz1 hz2 rfl (by decide) _ _ _ rfl (hO3.alloc _) ⟨w3.heap.size + 1, 0, none⟩ 1 1 [.int .i64 a, .int .i64 b] rfl rfl HN.out (by simp [Value.oneCell']) hk1 hk2 hbs ?_; intro v' w4 hown' hgrow _; obtain ⟨g', cap', rfl⟩ := ownsRow_succ hown'; have hOn : Own w4 (w.heap.size + 6) (.slice (some ⟨g', 0, none⟩) (q.length + 1) cap') (q ++ [(a, b)]) := (by show World.ownsRow _ _ _ _ _ _ _; rw [ecells_append, List.length_append]; exact hown'); obtain ⟨hv1, hv2, hr2, hk2', hb2⟩ := Boxed.appended (H2.alloc _) (by decide) (Own.mono hO3 (B' := w.heap.size) (by omega)) (by simp; omega) (by omega) (Own.mono hOn (B' := w.heap.size) (by omega)) hgrow; have hc1 := hv1.cell; have hf1 := hv1.frozen; have HGR := hid hgrow; have HV2 := hid hv2; have HON := hid hOn; have HK2 := hid hk2'; have HB2 := hid hb2; clear hown' hgrow hOn hv1 hv2 hr2 hk2' hb2)
            have hK0 : KeepB w.heap.size (w.heap.size + 3) W2 (w4.setCell ⟨w.heap.size + 1 + 1, 0, none⟩ (.slice (some ⟨g', 0, none⟩) (q.length + 1) cap')) := fun k hk0 => by
              have hk6 : k < W2.heap.size := by omega
              rw [Below.heap_setCell _ _ _ _ (by show k ≠ w.heap.size + 1 + 1; omega)]
              rw [HGR.out.block k (by simp; have := HW2.out.size; omega) (HNB.out k (by omega))]
              rw [Below.heap_alloc _ _ _ (by simp; have := HW2.out.size; omega), Below.heap_alloc _ _ _ (by have := HW2.out.size; omega)]
              exact HW2.out.block k hk6
            have hkept : ∀ (B : Nat) (t : TypeId) (z : Value), B < w.heap.size + 2 → Boxed w3 B t z → Boxed (w4.setCell ⟨w.heap.size + 1 + 1, 0, none⟩ (.slice (some ⟨g', 0, none⟩) (q.length + 1) cap')) B t z := fun B t z hB hz => by
              have h1 := ((hz.alloc (.cells #[.int .i64 a, .int .i64 b] 53)).alloc (.cells #[.int .i64 a, .int .i64 b] 53)).kept HGR.out (HNB.out B (by omega))
              exact h1.other (by omega) _
            refine ⟨((KeepsFrom.of_grownBy (B := W1.heap.size) HG3.out (by simp)).trans ((KeepsOthers.alloc _ _).from _)).trans (HK2.out.from _), hK0, ⟨q ++ [(a, b)], ?_, _, HV2.out, HON.out.set_apart (by show w.heap.size + 1 + 1 < _; omega) _⟩, hkept _ _ _ (by omega) H0, hkept _ _ _ (by omega) H1, ?_⟩
            · have := took_step HQ.out (fun m h1 h2 => (HX.out m h1 h2).1)
              rwa [List.length_append]
            · exact (HBW.alloc HBW.size _).trans HB2.out
end Go.Proofs.YtdjonplcgmfmgaaGreatDoor
