/- impl.edgesFrom with its iterator, impl.EdgeRange, spec.EdgeRange: contracts. -/
import Derived.Test.YtefhpbcdjgllnaaGreatGrE
namespace Go.Proofs.YtefhpbcdjgllnaaGreat
open Go.RowKit Go.Shelf
attribute [local go_sem] Oper.semAt_some

/-- The edges from a place on; at most n of them. -/
def fromL (l : List (Int × Int)) (s : Int) : List (Int × Int) := if s < 0 then [] else l.drop s.toNat
def rangeL (l : List (Int × Int)) (s n : Int) : List (Int × Int) := (fromL l s).take n.toNat
theorem fromL_length (l : List (Int × Int)) (s : Int) : (fromL l s).length ≤ l.length := by
  unfold fromL
  split
  · simp
  · rw [List.length_drop]; omega
theorem rangeL_length (l : List (Int × Int)) (s n : Int) : (rangeL l s n).length ≤ l.length := by
  unfold rangeL
  rw [List.length_take]
  have := fromL_length l s
  omega
theorem drop_take_more (l : List (Int × Int)) (m q : Nat) (hm : m ≤ q) (hq : q < l.length) : (l.drop m).take (q + 1 - m) = (l.drop m).take (q - m) ++ [l.getD q (0, 0)] := by
  rw [show q + 1 - m = (q - m) + 1 from by omega, List.take_succ_eq_append_getElem (by rw [List.length_drop]; omega)]
  simp [hq, show m + (q - m) = q from by omega]

set_option maxRecDepth 100000 in
set_option maxHeartbeats 2000000 in
theorem from1_in (n : Nat) (hn : 1 ≤ n) (l0 Bl Bs : Nat) (v : Value) (l : List (Int × Int)) (s : Int) (X : Nat) (Wz : World) (hv : Rd Wz v l) (hX : 0 < l.length → ∀ k, v.ownBlock = some k → k ≠ X) (hXl : Bl ≠ X)
    (z1 : Wz.cell? ⟨Bl, 0, none⟩ = some v) (z2 : Wz.cell? ⟨Bs, 0, none⟩ = some (.int .i64 s))
    (J Jx : List (Int × Int) → World → Prop) (W : World) (hW : Below Wz.heap.size Wz W)
    (hY : ∀ pre x W1, J pre W1 → pre.length < l.length → YieldAt Fence.wide (n - 1) Tryz.prog l0 #[.agg #[.int .i64 x.1, .int .i64 x.2]] W1 fun e W' =>
      (e = .returned (.bool true) ∧ J (pre ++ [x]) W' ∧ BelowX Wz.heap.size X W1 W') ∨ (e = .returned (.bool false) ∧ Jx (pre ++ [x]) W')) (h0 : J [] W) :
    CallsIn Fence.wide n Tryz.prog 120 #[.func (.yield l0) #[] #[], .pointer (some ⟨Bs, 0, none⟩), .pointer (some ⟨Bl, 0, none⟩)] W fun e W' => (∃ v, e = .returned v) ∧
      ((∃ ys, ys = fromL l s ∧ J ys W') ∨ (∃ pre, pre <+: fromL l s ∧ Jx pre W')) := by
  obtain ⟨ao, cap, rfl, hl, hc⟩ := hv
  unfold maxLen at hl
  have hlz := World.block_lt_of_cell? _ _ z1
  have y1 : W.cell? ⟨Bl, 0, none⟩ = some (.slice ao l.length cap) := cell_later hW z1
  have y2 : W.cell? ⟨Bs, 0, none⟩ = some (.int .i64 s) := cell_later hW z2
  have HY := hid hY
  clear hY
  by_cases hneg : s < 0
  · have hF : fromL l s = [] := by simp [fromL, hneg]
    rw [hF]
    clear hF
    refine callsIn_of_wp Tryz.func120 rfl trivial ?_ rfl
    simp only [Tryz.ntmps120, List.size_toArray, List.length_cons, List.length_nil, Nat.reduceAdd, Nat.reduceSub, Array.replicate_succ, Array.replicate_zero, List.push_toArray, List.append_toArray, List.nil_append, List.cons_append]
    gi_wp2
    refine bodyPost_ret (results_none rfl _ _ _) rfl ?_
    first | exact ⟨⟨_, rfl⟩, .inl h0⟩ | exact ⟨⟨_, rfl⟩, .inl ⟨[], rfl, h0⟩⟩
  · obtain ⟨m, hm⟩ := Int.eq_ofNat_of_zero_le (Int.not_lt.1 hneg)
    subst hm
    have hF : fromL l (m : Int) = l.drop m := by unfold fromL; rw [if_neg (by omega)]; simp
    rw [hF]
    clear hF hneg
    refine callsIn_of_wp Tryz.func120 rfl trivial ?_ rfl
    simp only [Tryz.ntmps120, List.size_toArray, List.length_cons, List.length_nil, Nat.reduceAdd, Nat.reduceSub, Array.replicate_succ, Array.replicate_zero, List.push_toArray, List.append_toArray, List.nil_append, List.cons_append]
    gi_wp2
    gi_loopw [4] (fun i wr => ∃ q : Nat, m ≤ q ∧ (q = m ∨ q ≤ l.length) ∧ i = .int .i64 q ∧ J ((l.drop m).take (q - m)) wr ∧ BelowX Wz.heap.size X Wz wr) (fun i _ => l.length - (intOf i).toNat)
    case atStart => exact ⟨m, Nat.le_refl _, .inl rfl, rfl, by simpa using h0, .of hW⟩
    case round =>
      obtain ⟨q, hmq, hql, rfl, hJs, hbel⟩ := hrel
      by_cases hlt : q < l.length
      · obtain ⟨b, o, rfl, hb, hcc⟩ := hc (by omega)
        obtain ⟨c0, c1⟩ := hcc q hlt
        have hbX := hX (by omega) b rfl
        have c0 := hbel.cell (p := ⟨b, o + q * 2, none⟩) hb hbX c0
        have c1 := hbel.cell (p := ⟨b, o + q * 2 + 1, none⟩) hb hbX c1
        have x1 := hbel.cell hlz hXl z1
        have HM := hid (drop_take_more l m q hmq hlt)
        clear hcc hc y1 y2
        obtain ⟨fn, tmps, assign, body, hy, hR⟩ := HY.out _ (l.getD q (0, 0)) wr hJs (by rw [List.length_take, List.length_drop]; omega)
        generalize l.getD q (0, 0) = x at *
        gi_wp2
        refine hR.mono ?_
        rintro e W3 (⟨rfl, hJ3, hk3⟩ | ⟨rfl, hJx3⟩)
        · have hb3 : BelowX Wz.heap.size X Wz W3 := hbel.trans hk3
          gi_wp2
          go_roundw
          case rel => exact ⟨q + 1, by omega, by omega, by simp, by rw [HM.out]; exact hJ3, hb3⟩
          case measure => simp [intOf]; omega
        · gi_wp2
          refine bodyPost_ret (results_none rfl _ _ _) rfl ?_
          exact ⟨⟨_, rfl⟩, .inr ⟨_, by rw [← HM.out]; exact List.take_prefix _ _, hJx3⟩⟩
      · have x1 := hbel.cell hlz hXl z1
        have hJe : J (l.drop m) wr := by
          have e : (l.drop m).take (q - m) = l.drop m := List.take_of_length_le (by rw [List.length_drop]; omega)
          rw [← e]; exact hJs
        clear hJs
        gi_wp2
        go_end0
        exact ⟨⟨_, rfl⟩, .inl ⟨_, rfl, hJe⟩⟩

theorem from1_stops (n : Nat) (hn : 1 ≤ n) (Bl Bs : Nat) (v : Value) (l : List (Int × Int)) (s : Int) (X : Nat) (Wz : World) (hv : Rd Wz v l) (hX : 0 < l.length → ∀ k, v.ownBlock = some k → k ≠ X) (hXl : Bl ≠ X)
    (z1 : Wz.cell? ⟨Bl, 0, none⟩ = some v) (z2 : Wz.cell? ⟨Bs, 0, none⟩ = some (.int .i64 s)) :
    SeqStopsK Fence.wide n Tryz.prog 120 #[.pointer (some ⟨Bs, 0, none⟩), .pointer (some ⟨Bl, 0, none⟩)] encE (BelowX Wz.heap.size X) (fun ys => ys = fromL l s) (fun pre => pre <+: fromL l s) l.length Wz :=
  fun l0 J Jx W hW _ _ hY h0 => from1_in n hn l0 Bl Bs v l s X Wz hv hX hXl z1 z2 J Jx W hW hY h0

set_option maxHeartbeats 400000 in
theorem from_any (ao : Option Addr) (n cap : Nat) (s : Int) (w : World) :
    Calls Tryz.prog 119 #[.slice ao n cap, .int .i64 s] w fun e w' => e = .returned (.func (.func 120) #[] #[.pointer (some ⟨w.heap.size + 1, 0, none⟩), .pointer (some ⟨w.heap.size, 0, none⟩)]) ∧
      w' = (w.alloc (.cells #[.slice ao n cap] 45)).alloc (.cells #[.int .i64 s] 3) := by
  go_enter Tryz.func119, Tryz.ntmps119
  go_wp2
  go_ret
  exact ⟨by simp, rfl⟩

theorem prefix_take {α : Type} {pre dl : List α} {x : α} {n : Int} (hp : pre ++ [x] <+: dl) (h1 : pre = [] ∨ (pre.length : Int) ≤ n) (h2 : n ≤ (pre.length : Int)) : dl.take n.toNat = pre := by
  obtain ⟨t, rfl⟩ := hp
  have e : n.toNat = pre.length := by
    rcases h1 with rfl | h1
    · simp at h2 ⊢; omega
    · omega
  rw [e, List.append_assoc, List.take_left']
  rfl

set_option maxRecDepth 100000 in
set_option maxHeartbeats 2000000 in
theorem implRange_any (v : Value) (l : List (Int × Int)) (s n : Int) (w : World) (h : Rd w v l) (hl : l.length ≤ 1099511627776) :
    Calls Tryz.prog 118 #[v, .int .i64 s, .int .i64 n] w fun e W' => ∃ v', e = .returned v' ∧ Own W' w.heap.size v' (rangeL l s n) ∧ Below w.heap.size w W' := by
  have H := hid h
  obtain ⟨ao, cap, hv, _, _⟩ := h
  subst hv
  obtain ⟨i0, hi, hz0, hz1, hz2⟩ := info_parts Tryz.info124
  refine (callsIn_wide (n := 3)).1 ?_
  refine callsIn_of_wp_marks Tryz.func118 rfl trivial ?_ rfl
  simp only [Tryz.ntmps118, List.size_toArray, List.length_cons, List.length_nil, Nat.reduceAdd, Nat.reduceSub, Array.replicate_succ, Array.replicate_zero, List.push_toArray, List.append_toArray, List.nil_append, List.cons_append]
  gi_wp2_with fail
  refine ⟨trivial, (callsIn_wide.2 (from_any ao l.length cap s _)).mono ?_⟩
  rintro e w3 ⟨rfl, hw3⟩
  have hB : Below w.heap.size w w3 := by rw [hw3]; go_grown
  have s3 : w3.heap.size = w.heap.size + 4 := by rw [hw3]; simp
  have bN : Boxed w3 w.heap.size 3 (.int .i64 n) := by rw [hw3]; exact (((Boxed.new w _ _).alloc _).alloc _).alloc _
  have bO : Boxed w3 (w.heap.size + 1) 45 (.slice none 0 0) := by
    rw [hw3]
    have := ((Boxed.new (w.alloc (.cells #[.int .i64 n] 3)) 45 (.slice none 0 0)).alloc (.cells #[.slice ao l.length cap] 45)).alloc (.cells #[.int .i64 s] 3)
    simpa using this
  have z1 : w3.cell? ⟨w.heap.size + 1 + 1, 0, none⟩ = some (.slice ao l.length cap) := by rw [hw3]; simp [go_sem]
  have z2 : w3.cell? ⟨w.heap.size + 1 + 1 + 1, 0, none⟩ = some (.int .i64 s) := by rw [hw3]; simp [go_sem]
  clear hw3
  have H3 : Hid (Rd w3 (.slice ao l.length cap) l) := Rd.later H.out hB
  have HX : Hid (0 < l.length → ∀ k, (Value.slice ao l.length cap).ownBlock = some k → k ≠ w.heap.size + 1) := fun h0 k hk => by
    obtain ⟨ao', cap', hv', _, hc'⟩ := H.out
    obtain ⟨b, off, ha, hb, _⟩ := hc' h0
    cases hv'
    rw [ha] at hk
    simp only [Value.ownBlock, Option.some.injEq] at hk
    omega
  gi_wp2
  refine wpIn_rangeFunc_ownH rfl (by omega) (gf := 120) (lb := #[.pointer (some ⟨w.heap.size + 1 + 1 + 1, 0, none⟩), .pointer (some ⟨w.heap.size + 1 + 1, 0, none⟩)]) rfl trivial (enters_of Tryz.func120 (by kernel_rfl) rfl)
    (from1_stops 2 (by omega) _ _ _ l s (w.heap.size + 1) w3 H3.out HX.out (by omega) z1 z2) BelowX.trans (belowX_b (Nat.le_refl _)) (Below.refl _ _) (fun _ => rfl)
    (fun pre W => ((∃ v, Boxed W (w.heap.size + 1) 45 v ∧ W.ownsRow w3.heap.size 124 2 v pre.length (ecells pre)) ∧ Boxed W w.heap.size 3 (.int .i64 n)) ∧ (pre = [] ∨ (pre.length : Int) ≤ n) ∧ BelowX w3.heap.size (w.heap.size + 1) w3 W ∧ Below w.heap.size w W)
    (fun c pre W => c = .exit 0 ∧ ∃ y x, pre = y ++ [x] ∧ (y = [] ∨ (y.length : Int) ≤ n) ∧ n ≤ (y.length : Int) ∧ (∃ v, Boxed W (w.heap.size + 1) 45 v ∧ W.ownsRow w3.heap.size 124 2 v y.length (ecells y)) ∧ Below w.heap.size w W)
    (fun pre A B row hs hg hr => ⟨⟨rowbox_ownFrom _ _ _ pre () A B row hs.1.1 hg hr, boxed_own _ _ (fun (_ : Unit) => Value.int .i64 n) () A B row hs.1.2 hg (fun r e => (hr r e).2)⟩, hs.2.1,
      ⟨Nat.le_trans hs.2.2.1.1 hg.size, fun k hk hne => (hg.block k (Nat.lt_of_lt_of_le hk hs.2.2.1.1) (fun e => by have := (hr k e.symm).1; omega)).trans (hs.2.2.1.2 k hk hne)⟩,
      ownFrom_below (β := Unit) (Nat.le_refl _) (by omega) () A B row hs.2.2.2 hg hr⟩)
    (fun c pre A B row hs hg hr => by
      obtain ⟨h1, y, x, h2, h3, h4, h5, h6⟩ := hs
      exact ⟨h1, y, x, h2, h3, h4, rowbox_ownFrom _ _ _ y () A B row h5 hg hr, ownFrom_below (β := Unit) (Nat.le_refl _) (by omega) () A B row h6 hg hr⟩)
    ⟨⟨⟨_, bO, World.ownsRow_nil _ _ _ _⟩, bN⟩, .inl rfl, BelowX.refl _ _ _, hB⟩
    (fun x a' W => ∃ Bx, w.heap.size + 1 < Bx ∧ PairAt W Bx x ∧ a' = { tmps := #[.slice ao l.length cap, .int .i64 s, .int .i64 n, undef, undef, .pointer (some ⟨w.heap.size, 0, none⟩), .slice none 0 0, .pointer (some ⟨w.heap.size + 1, 0, none⟩), .pointer (some ⟨Bx, 0, none⟩), .slice ao l.length cap, .int .i64 s, .func (.func 120) #[] #[.pointer (some ⟨w.heap.size + 1 + 1 + 1, 0, none⟩), .pointer (some ⟨w.heap.size + 1 + 1, 0, none⟩)], .agg #[.int .i64 x.1, .int .i64 x.2], undef, undef, undef, undef, undef, undef, undef, undef, undef], defers := [] })
    (fun x a' _ X Y row hs hg hr => by obtain ⟨Bx, h1, h2, h3⟩ := hs; exact ⟨Bx, h1, PairAt.ownFrom _ Bx x () X Y row h2 hg hr, h3⟩)
    ?assign ?body ?done ?stop
  case assign =>
    rintro l2 pre x W K ⟨⟨⟨v, hv, hrow⟩, hN⟩, hpl, hX, hBW⟩ hK
    gi_wp2
    exact hK _ _ ((KeepsOthers.alloc _ _).from _) (.of ((Below.refl _ W).alloc hX.1 _)) ⟨⟨⟨v, hv.alloc _, hrow.alloc _⟩, hN.alloc _⟩, hpl, hX.trans (.of ((Below.refl _ W).alloc hX.1 _)), hBW.alloc hBW.size _⟩ ⟨W.heap.size, hv.lt, PairAt.new W x, rfl⟩
  case body =>
    rintro l2 pre x a' W hl2 ⟨r, hr⟩ ⟨⟨⟨v, hv, hrow⟩, hN⟩, hpl, hX, hBW⟩ ⟨Bx, hBx, hP, rfl⟩ hlt
    obtain ⟨av, cv, rfl⟩ := row_form hrow
    have hc := hv.cell
    have hcn := hN.cell
    have p0 := hP.c0
    have p1 := hP.c1
    have hk1 : pre.length + 1 ≤ maxLen := by unfold maxLen; omega
    have hk2 : (pre.length + 1) * 16 ≤ 140737488355328 := by omega
    have hbs : w3.heap.size ≤ (W.alloc (.cells #[.int .i64 x.1, .int .i64 x.2] 124)).heap.size := by have := hX.1; simp; omega
    have HPL := hid hpl
    clear hpl
    by_cases hfull : n ≤ (pre.length : Int)
    · gi_wp2
      exact ⟨KeepsFrom.refl _ _, rfl, pre, x, rfl, HPL.out, hfull, ⟨_, hv, hrow⟩, hBW⟩
    · have hroom : (pre.length : Int) < n := by omega
      clear hfull
      gi_wp2_with (gi_at_builtin; refine wpListIn_append_own _ rfl _ _ 45 rfl w3.heap.size 124 i0 (.agg #[.int .i64 0, .int .i64 0]) 2 16 Tryz.underlying45 hi hz0 hz1 hz2 rfl (by decide) _ _ _ rfl (hrow.alloc _) ⟨W.heap.size, 0, none⟩ 1 1 [.int .i64 x.1, .int .i64 x.2] rfl rfl (cells_two_new _ _ _ _) (by simp [Value.oneCell']) hk1 hk2 hbs ?_; intro v' w1 hown' hgrow _; obtain ⟨g', cap', rfl⟩ := ownsRow_succ hown'; obtain ⟨hv1, hv2, hr2, hk2, hb2⟩ := appendedX hv (by decide) hrow hX.1 hown' hgrow; have hc1 := hv1.cell; have hf1 := hv1.frozen)
      have hbW : Below w.heap.size W _ := (((Below.refl w.heap.size W).alloc hBW.size (.cells #[.int .i64 x.1, .int .i64 x.2] 124)).grown hgrow (by have := hBW.size; simp; omega) (fun j ej => by have := (hrow.lt j ej).1; omega)).setCell (p := ⟨w.heap.size + 1, 0, none⟩) (by simp) (.slice (some ⟨g', 0, none⟩) (pre.length + 1) cap')
      exact ⟨hk2.from _, hb2, ⟨⟨_, hv2, by rw [ecells_append]; simpa [ecells] using hr2⟩, ((hN.alloc (.cells #[.int .i64 x.1, .int .i64 x.2] 124)).kept hgrow ((hN.alloc (.cells #[.int .i64 x.1, .int .i64 x.2] 124)).not_row (by decide) (hrow.alloc _))).other (by omega) _⟩, .inr (by simp; omega), hX.trans hb2, hBW.trans hbW⟩
  case done =>
    rintro D ys W hD rfl ⟨⟨⟨v, hv, hrow⟩, hN⟩, hpl, hX, hBW⟩ hK
    have hc := hv.cell
    have hfin : rangeL l s n = fromL l s := by
      unfold rangeL
      rcases hpl with e | e
      · rw [e]; simp
      · exact List.take_of_length_le (by omega)
    have HF := hid hfin
    clear hfin hpl
    gi_wp2
    refine ⟨by simp, .inl ⟨_, _, rfl, run_takeDeferred hK, ?_⟩⟩
    exact ⟨_, results_tmp rfl _ _ _, v, rfl, (by rw [HF.out]; exact row_mono (ownsRow_putObj hrow _ hK rfl) (by omega)), hBW.trans (belowK_b (w := w) (Nat.le_refl _) W D _ _ (by omega) hK rfl rfl)⟩
  case stop =>
    rintro D c pre W hD hsp ⟨rfl, y, x, rfl, hy, hny, ⟨v, hv, hrow⟩, hBW⟩ hK
    have hc := hv.cell
    have hfin : rangeL l s n = y := prefix_take hsp hy hny
    have HF := hid hfin
    clear hfin hy hny hsp
    gi_wp2
    refine ⟨by simp, .inl ⟨_, _, rfl, run_takeDeferred hK, ?_⟩⟩
    exact ⟨_, results_tmp rfl _ _ _, v, rfl, (by rw [HF.out]; exact row_mono (ownsRow_putObj hrow _ hK rfl) (by omega)), hBW.trans (belowK_b (w := w) (Nat.le_refl _) W D _ _ (by omega) hK rfl rfl)⟩

theorem rangeL_more (l : List (Int × Int)) (s n : Int) (k : Nat) (hk : k < l.length) :
    rangeL (l.take (k + 1)) s n = if 0 ≤ s ∧ s ≤ (k : Int) ∧ ((rangeL (l.take k) s n).length : Int) < n then rangeL (l.take k) s n ++ [l.getD k (0, 0)] else rangeL (l.take k) s n := by
  unfold rangeL fromL
  by_cases hs : s < 0
  · rw [if_pos hs, if_pos hs, if_neg (by omega)]
  · obtain ⟨m, rfl⟩ := Int.eq_ofNat_of_zero_le (Int.not_lt.1 hs)
    rw [if_neg hs, if_neg hs]
    simp only [Int.toNat_natCast]
    by_cases hm : m ≤ k
    · have hx : l.getD k (0, 0) = l[k] := by simp [hk]
      have e : (l.take (k + 1)).drop m = (l.take k).drop m ++ [l.getD k (0, 0)] := by
        rw [List.take_succ_eq_append_getElem hk, List.drop_append_of_le_length (by rw [List.length_take]; omega), hx]
      rw [e]
      generalize (l.take k).drop m = A
      by_cases hn : ((A.take n.toNat).length : Int) < n
      · rw [if_pos ⟨by omega, by omega, hn⟩]
        rw [List.length_take] at hn
        rw [List.take_of_length_le (by simp; omega), List.take_of_length_le (by omega)]
      · rw [if_neg (fun h => hn h.2.2)]
        rw [List.length_take] at hn
        rw [List.take_append_of_le_length (by omega)]
    · rw [if_neg (fun h => hm (by omega)), List.drop_of_length_le (by rw [List.length_take]; omega), List.drop_of_length_le (by rw [List.length_take]; omega)]

end Go.Proofs.YtefhpbcdjgllnaaGreat
