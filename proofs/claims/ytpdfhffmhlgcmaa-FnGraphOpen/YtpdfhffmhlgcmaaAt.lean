/- What a graph's rows are if each bond is known as its other end knows it: impl.turned: contract. -/
import Derived.Test.YtpdfhffmhlgcmaaAr
import Derived.Test.YtpdfhffmhlgcmaaOa
import Derived.Test.YtpdfhffmhlgcmaaKm
import Derived.Test.YtpdfhffmhlgcmaaKw
import Derived.Deep.Cut
namespace Go.Proofs.Ytpdfhffmhlgcmaa
open Go.RowKit
attribute [local go_sem ↓] Go.wp_at_zero Go.wp_at_succ
attribute [local go_sem ↓] ldS_open stS_open ixS_open

theorem otherEnd_any (k who : Int) (w : World) : Calls Try.prog 25 #[.int .i64 k, .int .i64 who] w fun e w' => e = .returned (.int .i64 (if kindOf k = 2 then keyOf 1 who else keyOf 2 who)) ∧ Below w.heap.size w w' := by
  go_enter Try.func25, Try.ntmps25
  go_wp2_with fail
  refine (implKind_any k _).mono ?_
  rintro e w1 ⟨rfl, rfl⟩
  by_cases h : kindOf k = 2
  · go_wp2_with fail
    refine (implMake_any 1 who _).mono ?_
    rintro e w1 ⟨rfl, rfl⟩
    go_wp2
    go_ret
    exact ⟨by simp, by go_grown⟩
  · go_wp2_with fail
    refine (implMake_any 2 who _).mono ?_
    rintro e w1 ⟨rfl, rfl⟩
    go_wp2
    go_ret
    exact ⟨by simp, by go_grown⟩
/-- The key of the other end, as a number of a row. -/
theorem otherEnd_at (k : Nat) (hk : 8 ≤ k) (hk2 : k < 24) (who : Int) (h0 : 0 ≤ who) (h1 : who < 8) (w : World) : Calls Try.prog 25 #[.int .i64 (k : Int), .int .i64 who] w fun e w' => e = .returned (.int .i64 (((endK k who).toNat : Nat) : Int)) ∧ Below w.heap.size w w' := by
  refine (otherEnd_any (k : Int) who w).mono ?_
  rintro e w1 ⟨rfl, b1⟩
  refine ⟨?_, b1⟩
  rw [kindOf_in (by omega) (by omega), endK, keyOf_in (by omega) (by omega) h0 h1, keyOf_in (by omega) (by omega) h0 h1]
  congr 2
  by_cases h : 16 ≤ k
  · rw [if_pos h, if_pos (by omega)]; omega
  · rw [if_neg h, if_neg (by omega)]; omega

/-- Rows that are being written, in block g; their kin lie in blocks that came later. -/
structure Back (w : World) (g : Nat) (M : List ValD) (ds : Array Value) : Prop where
  row : w.heap[g]? = some (.cells ds 43 (0, 0))
  size : ds.size = 48
  len : M.length = 24
  num : ∀ k, k < 24 → ds[k * 2]? = some (.int .i64 (M.getD k valD0).1)
  kin : ∀ k, k < 24 → ∃ u, ds[k * 2 + 1]? = some u ∧ Own w (g + 1) u (M.getD k valD0).2
theorem Back.lt {w : World} {g : Nat} {M : List ValD} {ds : Array Value} (h : Back w g M ds) : g < w.heap.size := (Array.getElem?_eq_some_iff.1 h.row).1
theorem Back.later {w w' : World} {g : Nat} {M : List ValD} {ds : Array Value} (h : Back w g M ds) (hb : Below w.heap.size w w') : Back w' g M ds :=
  ⟨(hb.block g h.lt).trans h.row, h.size, h.len, h.num, fun k hk => by obtain ⟨u, h1, h2⟩ := h.kin k hk; exact ⟨u, h1, h2.later hb⟩⟩
theorem Back.agg {w : World} {g : Nat} {M : List ValD} {ds : Array Value} (h : Back w g M ds) : AgG w ds M :=
  ⟨h.size, h.len, h.num, fun k hk => by obtain ⟨u, h1, h2⟩ := h.kin k hk; exact ⟨u, h1, h2.rd⟩⟩
theorem Back.c0 {w : World} {g : Nat} {M : List ValD} {ds : Array Value} (h : Back w g M ds) {k : Nat} (hk : k < 24) : w.cell? ⟨g, k * 2, none⟩ = some (.int .i64 (M.getD k valD0).1) :=
  (cell_of_row w g (k * 2) ds _ _ h.row).trans (h.num k hk)
theorem Back.c1 {w : World} {g : Nat} {M : List ValD} {ds : Array Value} (h : Back w g M ds) {k : Nat} (hk : k < 24) : ∃ u, w.cell? ⟨g, k * 2 + 1, none⟩ = some u ∧ Own w (g + 1) u (M.getD k valD0).2 := by
  obtain ⟨u, h1, h2⟩ := h.kin k hk
  exact ⟨u, (cell_of_row w g (k * 2 + 1) ds _ _ h.row).trans h1, h2⟩
theorem Back.frz {w : World} {g : Nat} {M : List ValD} {ds : Array Value} (h : Back w g M ds) (o : Nat) : w.frozen? ⟨g, o, none⟩ = false := frozen_of_row w g o ds _ h.row
theorem Back.set0 {w : World} {g : Nat} {M : List ValD} {ds : Array Value} (h : Back w g M ds) {k : Nat} (hk : k < 24) (n : Int) :
    Back (w.setCell ⟨g, k * 2, none⟩ (.int .i64 n)) g (M.set k (n, (M.getD k valD0).2)) (ds.setIfInBounds (k * 2) (.int .i64 n)) := by
  refine ⟨heap_setCell_same w g (k * 2) ds _ _ h.row, by simp [h.size], by simp [h.len], fun j hj => ?_, fun j hj => ?_⟩
  · rw [getD_set (by rw [h.len]; exact hk), Array.getElem?_setIfInBounds]
    by_cases e : j = k
    · subst e; rw [if_pos rfl, if_pos rfl, if_pos (by rw [h.size]; omega)]
    · rw [if_neg (by omega), if_neg e]; exact h.num j hj
  · obtain ⟨u, h1, h2⟩ := h.kin j hj
    refine ⟨u, ?_, ?_⟩
    · rw [Array.getElem?_setIfInBounds, if_neg (by omega)]; exact h1
    · have := h2.setApart (p := ⟨g, k * 2, none⟩) (Nat.lt_succ_self g) (.int .i64 n)
      rw [getD_set (by rw [h.len]; exact hk)]
      by_cases e : j = k
      · subst e; rw [if_pos rfl]; exact this
      · rw [if_neg e]; exact this
theorem Back.set1 {w : World} {g : Nat} {M : List ValD} {ds : Array Value} (h : Back w g M ds) {k : Nat} (hk : k < 24) {u : Value} {l : List (Int × Int)} (hu : Own w (g + 1) u l) :
    Back (w.setCell ⟨g, k * 2 + 1, none⟩ u) g (M.set k ((M.getD k valD0).1, l)) (ds.setIfInBounds (k * 2 + 1) u) := by
  refine ⟨heap_setCell_same w g (k * 2 + 1) ds _ _ h.row, by simp [h.size], by simp [h.len], fun j hj => ?_, fun j hj => ?_⟩
  · rw [getD_set (by rw [h.len]; exact hk), Array.getElem?_setIfInBounds, if_neg (by omega)]
    rw [h.num j hj]
    by_cases e : j = k
    · subst e; rw [if_pos rfl]
    · rw [if_neg e]
  · rw [getD_set (by rw [h.len]; exact hk), Array.getElem?_setIfInBounds]
    by_cases e : j = k
    · subst e
      rw [if_pos rfl, if_pos rfl, if_pos (by rw [h.size]; omega)]
      exact ⟨u, rfl, hu.setApart (p := ⟨g, j * 2 + 1, none⟩) (Nat.lt_succ_self g) u⟩
    · rw [if_neg (by omega), if_neg e]
      obtain ⟨u', h1, h2⟩ := h.kin j hj
      exact ⟨u', h1, h2.setApart (p := ⟨g, k * 2 + 1, none⟩) (Nat.lt_succ_self g) u⟩
theorem Back.set {w : World} {g : Nat} {M : List ValD} {ds : Array Value} (h : Back w g M ds) {k : Nat} (hk : k < 24) (n : Int) {u : Value} {l : List (Int × Int)} (hu : Own w (g + 1) u l) :
    ∃ ds', Back ((w.setCell ⟨g, k * 2, none⟩ (.int .i64 n)).setCell ⟨g, k * 2 + 1, none⟩ u) g (M.set k (n, l)) ds' := by
  have h1 := h.set0 hk n
  have h2 := h1.set1 hk (u := u) (l := l) (hu.setApart (p := ⟨g, k * 2, none⟩) (Nat.lt_succ_self g) (.int .i64 n))
  rw [getD_set (by rw [h.len]; exact hk), if_pos rfl, List.set_set] at h2
  exact ⟨_, h2⟩
def zeroV : Array Value := (List.range 48).toArray.map fun j => if j % 2 = 0 then .int .i64 0 else .slice none 0 0
theorem Back.zero {w : World} {g : Nat} (h : w.heap[g]? = some (.cells zeroV 43 (0, 0))) : Back w g zeroG zeroV := by
  refine ⟨h, by simp [zeroV], by simp [zeroG], fun k hk => ?_, fun k hk => ?_⟩
  · rw [zeroG_get]
    simp [zeroV, show k * 2 < 48 from by omega]; rfl
  · rw [zeroG_get]
    exact ⟨.slice none 0 0, by simp [zeroV, show k * 2 + 1 < 48 from by omega], World.ownsRow_nil _ _ _ _⟩
theorem zeroV_is : zeroV = #[.int .i64 0, .slice none 0 0, .int .i64 0, .slice none 0 0, .int .i64 0, .slice none 0 0, .int .i64 0, .slice none 0 0, .int .i64 0, .slice none 0 0, .int .i64 0, .slice none 0 0, .int .i64 0, .slice none 0 0, .int .i64 0, .slice none 0 0, .int .i64 0, .slice none 0 0, .int .i64 0, .slice none 0 0, .int .i64 0, .slice none 0 0, .int .i64 0, .slice none 0 0, .int .i64 0, .slice none 0 0, .int .i64 0, .slice none 0 0, .int .i64 0, .slice none 0 0, .int .i64 0, .slice none 0 0, .int .i64 0, .slice none 0 0, .int .i64 0, .slice none 0 0, .int .i64 0, .slice none 0 0, .int .i64 0, .slice none 0 0, .int .i64 0, .slice none 0 0, .int .i64 0, .slice none 0 0, .int .i64 0, .slice none 0 0, .int .i64 0, .slice none 0 0] := by kernel_rfl
theorem Own.setRow {w : World} {B g : Nat} {v : Value} {l : List (Int × Int)} (h : Own w B v l) (hp : g < B) (cs : Array Value) : Own (w.setRow g cs) B v l := by
  refine ⟨h.1, ?_⟩
  rcases h.2 with hn | ⟨g', cap, cur, rfl, hbg, hgg, rest⟩
  · exact .inl hn
  · exact .inr ⟨g', cap, cur, rfl, hbg, (setRow_other w g g' cs (by omega)).trans hgg, rest⟩
theorem below_setRow {B : Nat} {w w' : World} (h : Below B w w') {g : Nat} (hg : B ≤ g) (cs : Array Value) : Below B w (w'.setRow g cs) := by
  refine h.trans ⟨rfl, rfl, rfl, by simp, fun k hk => setRow_other w' g k cs (by omega)⟩

set_option maxRecDepth 100000 in
set_option maxHeartbeats 2000000 in
theorem turned_any (cs : Array Value) (L : List ValD) (w : World) (h : AgG w cs L) (hR : RightTo L 24) :
    Calls Try.prog 16 #[.agg cs] w fun e w' => ∃ ds M, e = .returned (.agg ds) ∧ AgG w' ds M ∧ Turn (toldL L 24 0) M ∧ NumsG L M 24 ∧ Below w.heap.size w w' := by
  have hl := ldS_row (w := ((w.alloc (.cells cs 43)).alloc (.cells zeroV 43)).alloc (.cells zeroV 43)) (g := w.heap.size) (cs := cs) (fr := (0, 0)) (t := 43) (by
    rw [heap_alloc_old _ _ (by simp; omega)]
    exact heap_alloc2_old w _ _) h.size
  have hb0 : Below w.heap.size w (((w.alloc (.cells cs 43)).alloc (.cells zeroV 43)).alloc (.cells zeroV 43)) := by go_grown
  have hB := hid (Back.zero (w := ((w.alloc (.cells cs 43)).alloc (.cells zeroV 43)).alloc (.cells zeroV 43)) (g := w.heap.size + 1 + 1) (by
    have := heap_alloc_new ((w.alloc (.cells cs 43)).alloc (.cells zeroV 43)) (.cells zeroV 43)
    simpa using this))
  have hG : Hid ((((w.alloc (.cells cs 43)).alloc (.cells zeroV 43)).alloc (.cells zeroV 43)).heap[w.heap.size + 1]? = some (.cells zeroV 43 (0, 0))) := by
    rw [heap_alloc_old _ _ (by simp)]
    exact heap_alloc2_new w _ _
  rw [zeroV_is] at hl hb0 hB hG
  go_enter Try.func16, Try.ntmps16
  go_wp2_with fail
  rw [← zeroV_is] at hb0 hB hG ⊢
  clear hl
  generalize (((w.alloc (.cells cs 43)).alloc (.cells zeroV 43)).alloc (.cells zeroV 43)) = w1 at *
  go_loopw [10] (fun i wr => ∃ (k : Nat) (M : List ValD) (ds : Array Value), k ≤ 24 ∧ i = .int .i64 k ∧ Hid (Turn (toldL L k 0) M) ∧ Hid (NumsG L M k) ∧ Hid (Back wr (w.heap.size + 1 + 1) M ds) ∧ Hid (wr.heap[w.heap.size + 1]? = some (.cells zeroV 43 (0, 0))) ∧ Below w.heap.size w wr) (fun i _ => 24 - (intOf i).toNat)
  case atStart => exact ⟨0, zeroG, zeroV, Nat.zero_le _, rfl, (toldL_zero L).symm ▸ Turn.zero, NumsG.zero L, hB, hG, hb0⟩
  case round =>
    clear hB hG hb0
    obtain ⟨k, M, ds, hk, rfl, hT, hN, hBk, hGk, hbel⟩ := hrel
    by_cases hlt : k < 24
    · obtain ⟨u, hu, hr⟩ := h.kin k hlt
      have hn := h.num k hlt
      have hix := fun W => ixS_row W hlt h.size hn hu
      obtain ⟨x, hx⟩ : ∃ x, L.getD k valD0 = x := ⟨_, rfl⟩
      rw [hx] at hr hix
      have HX := hid hx
      have HR0 := hid hr
      obtain ⟨uo, uc, rfl, hxl, _⟩ := id hr
      unfold maxLen at hxl
      have b0 := hBk.out.c0 hlt
      have f0 := hBk.out.frz (k * 2)
      have hgz := hBk.out.lt
      have hsz := hbel.size
      have hltI : (k : Int) < 24 := by omega
      clear hu hn hr hx
      go_wp2_with fail
      have hB2 := hid ((hBk.out.set0 hlt x.1).later (w' := (wr.setCell ⟨w.heap.size + 1 + 1, k * 2, none⟩ (.int .i64 x.1)).alloc (.cells #[.int .i64 x.1, .slice uo x.2.length uc] 37)) ((Below.refl _ _).alloc (Nat.le_refl _) _))
      have hG2 : Hid (((wr.setCell ⟨w.heap.size + 1 + 1, k * 2, none⟩ (.int .i64 x.1)).alloc (.cells #[.int .i64 x.1, .slice uo x.2.length uc] 37)).heap[w.heap.size + 1]? = some (.cells zeroV 43 (0, 0))) := by
        rw [heap_alloc_old _ _ (by simp [World.setCell]; omega), heap_setCell_other _ _ _ _ (by show w.heap.size + 1 ≠ w.heap.size + 1 + 1; omega)]
        exact hGk
      have hb2 : Below w.heap.size w ((wr.setCell ⟨w.heap.size + 1 + 1, k * 2, none⟩ (.int .i64 x.1)).alloc (.cells #[.int .i64 x.1, .slice uo x.2.length uc] 37)) := (hbel.setCell (by show w.heap.size ≤ w.heap.size + 1 + 1; omega) _).alloc (by simp [World.setCell]; omega) _
      have hT2 := hid (hT.out.num hlt x.1)
      have hN2 : Hid (NumsG L (M.set k (x.1, (M.getD k valD0).2)) (k + 1)) := hid (by
        have := hN.out.num hT.out.len hlt
        rwa [HX.out] at this)
      clear b0 f0 hgz hT hN hBk hGk hix
      generalize (wr.setCell ⟨w.heap.size + 1 + 1, k * 2, none⟩ (.int .i64 x.1)).alloc (.cells #[.int .i64 x.1, .slice uo x.2.length uc] 37) = w2 at *
      generalize (ds.setIfInBounds (k * 2) (.int .i64 x.1)) = ds2 at *
      generalize M.set k (x.1, (M.getD k valD0).2) = M2 at *
      clear hbel hsz
      go_loopw [22] (fun i wq => ∃ (j : Nat) (M : List ValD) (ds : Array Value), j ≤ x.2.length ∧ i = .int .i64 j ∧ Hid (Turn (toldL L k j) M) ∧ Hid (NumsG L M (k + 1)) ∧ Hid (Back wq (w.heap.size + 1 + 1) M ds) ∧ Hid (wq.heap[w.heap.size + 1]? = some (.cells zeroV 43 (0, 0))) ∧ Below w.heap.size w wq) (fun i _ => x.2.length - (intOf i).toNat)
      case atStart => exact ⟨0, M2, ds2, Nat.zero_le _, rfl, hT2, hN2, hB2, hG2, hb2⟩
      case round =>
        clear hT2 hN2 hB2 hG2 hb2
        obtain ⟨j, M, ds, hj, rfl, hT, hN, hBk, hGk, hbel⟩ := hrel
        by_cases hjl : j < x.2.length
        · have h8 : 8 ≤ k := by
            rcases Nat.lt_or_ge k 8 with h' | h'
            · rw [← HX.out, hR.thing h'] at hjl; cases hjl
            · exact h'
          have hok : okL x.2 = true := by rw [← HX.out]; exact hR.ok hlt
          have hrb := rightB_iff.1 (okL_mem hok (getD_mem hjl))
          have HRq := hid (HR0.out.below (B := w.heap.size) (fun b hb => by
            obtain ⟨ao, cap, hv, _, hc⟩ := HR0.out
            obtain ⟨b', off, ha, hl', _⟩ := hc (by omega)
            rw [hv, ha] at hb
            cases hb
            exact hl') hbel)
          obtain ⟨ao', cap', hv', _, hc⟩ := HRq.out
          obtain ⟨b, off, ha, hbl, hcc⟩ := hc (by omega)
          obtain ⟨c0, c1⟩ := hcc j hjl
          have ha2 : uo = some ⟨b, off, none⟩ := by cases hv'; exact ha
          subst ha2
          have hstep := toldL_step L k j (by rw [HX.out]; exact hjl)
          have hone : ∀ d ∈ toldL L k j, d.1 = endK k (x.2.getD j (0, 0)).1 → d.2.1 ≠ ((k % 8 : Nat) : Int) := fun d hd he => told_one hR hlt (by rw [HX.out]; exact hjl) hd (by rw [HX.out]; exact he)
          rw [HX.out] at hstep
          have hstep := hid hstep
          have hone := hid hone
          obtain ⟨y, hy⟩ : ∃ y, x.2.getD j (0, 0) = y := ⟨_, rfl⟩
          rw [hy] at c0 c1 hrb hstep hone
          obtain ⟨J, hJ⟩ : ∃ J, (endK k y.1).toNat = J := ⟨_, rfl⟩
          have hJ0 : 0 ≤ endK k y.1 := by unfold endK; split <;> omega
          have hJe := hid (show endK k y.1 = (J : Int) from by omega)
          have hJ8 : 8 ≤ J ∧ J < 24 := by unfold endK at hJ hJ0; split at hJ <;> omega
          have hend := fun W => otherEnd_at k h8 hlt y.1 hrb.1 hrb.2.1 W
          rw [hJ] at hend
          have hgz := hBk.out.lt
          have hsz := hbel.size
          clear hv' hc ha hcc hy hJ hJ0
          go_wp2_with fail
          refine (hend _).mono ?_
          rintro e w3 ⟨rfl, b3⟩
          have g3 : Below wr.heap.size wr w3 := (Below.trans (by go_grown) (b3.mono (by first | omega | (simp; done) | (simp; omega))))
          have e1 : w3.cell? ⟨wr.heap.size, 1, none⟩ = some (.int .i64 y.2) := by rw [b3.cell (by simp)]; go_cell
          have hB3 := hid (hBk.out.later g3)
          have hG3 := hid ((g3.block _ (by omega)).trans hGk)
          have c3 := hid (hbel.trans (g3.mono hsz))
          obtain ⟨v, p1, hov⟩ := hB3.out.c1 hJ8.2
          have p0 := hB3.out.c0 hJ8.2
          have hml : (M.getD J valD0).2.length ≤ 1099511627776 := by
            have := okL_le (hT.out.row J hJ8.2).1
            omega
          obtain ⟨vo, vc, hvv, _⟩ := hov.rd
          subst hvv
          have HV := hid hov
          obtain ⟨m, hm⟩ : ∃ m, M.getD J valD0 = m := ⟨_, rfl⟩
          rw [hm] at p0 p1 HV hml
          have hM := hid hm
          clear hm
          have q0 := hB3.out.frz (J * 2)
          have q1 := hB3.out.frz (J * 2 + 1)
          have hgz3 := hB3.out.lt
          have hk24 : (0 : Int) ≤ (k : Int) ∧ (k : Int) < 24 := ⟨by omega, by omega⟩
          obtain ⟨W8, hwho⟩ : ∃ W8, whoOf (k : Int) = W8 := ⟨_, rfl⟩
          have hW8 := hid (show W8 = ((k % 8 : Nat) : Int) from by rw [← hwho, whoOf_in hk24.1 hk24.2]; omega)
          have hsz3 := g3.size
          clear hov b3 g3 hBk hGk hbel hgz hsz c0 c1 hend
          have hJ8' := hid hJ8
          clear hk24
          go_upto_region 10 with fail
          go_region_with (first
            | (go_at_call 27; refine (implWho_any (k : Int) _).mono ?_; rintro e w4 ⟨rfl, rfl⟩)
            | (go_at_call 26; go_loud (refine (withKin_any m.1 _ m.2 W8 y.2 _ (HV.out.rd.later (by go_grown)) hml).mono ?_; rintro e w5 ⟨⟨v', rfl, ho⟩, b5⟩; have d5 : Below w3.heap.size w3 w5 := (Below.trans (by go_grown) (b5.mono (by first | omega | (simp; done) | (simp; omega)))); have hB5 := hid (hB3.out.later d5); have hG5 := hid ((d5.block _ (by omega)).trans hG3); have c5 := hid (c3.out.trans (d5.mono (by omega))); obtain ⟨vo', vc', hvv', _⟩ := ho.rd; subst hvv'; have HO := hid (Own.mono ho (B' := w.heap.size + 1 + 1 + 1) (by show w.heap.size + 1 + 1 + 1 ≤ w3.heap.size; omega)); have q0_5 := hB5.out.frz (J * 2); have q1_5 := hB5.out.frz (J * 2 + 1); have hgz5 := hB5.out.lt; have p0_5 := hB5.out.c0 hJ8'.out.2; obtain ⟨v5, p1_5, _⟩ := hB5.out.c1 hJ8'.out.2; clear ho b5 d5)))
          all_goals
            obtain ⟨ds', hB6⟩ := hB5.out.set hJ8'.out.2 0 HO.out
            have hB6 := hid hB6
            have hG6 : Hid ((((w5.setCell ⟨w.heap.size + 1 + 1, J * 2, none⟩ (.int .i64 0)).setCell ⟨w.heap.size + 1 + 1, J * 2 + 1, none⟩ (.slice vo' (addL m.2 W8 y.2).length vc')).heap[w.heap.size + 1]? = some (.cells zeroV 43 (0, 0)))) := by
              rw [heap_setCell_other _ _ _ _ (by show w.heap.size + 1 ≠ w.heap.size + 1 + 1; omega), heap_setCell_other _ _ _ _ (by show w.heap.size + 1 ≠ w.heap.size + 1 + 1; omega)]
              exact hG5
            have c6 := hid ((c5.out.setCell (p := ⟨w.heap.size + 1 + 1, J * 2, none⟩) (by show w.heap.size ≤ w.heap.size + 1 + 1; omega) (.int .i64 0)).setCell (p := ⟨w.heap.size + 1 + 1, J * 2 + 1, none⟩) (by show w.heap.size ≤ w.heap.size + 1 + 1; omega) (.slice vo' (addL m.2 W8 y.2).length vc'))
            have hT6 : Hid (Turn (toldL L k (j + 1)) (M.set J (0, addL m.2 W8 y.2))) := by
              have := hT.out.add (j := J) (w := W8) (t := y.2) hJ8'.out.2 (rightB_iff.2 ⟨by have := hW8.out; omega, by have := hW8.out; omega, hrb.2.2.1, hrb.2.2.2⟩) (fun d hd he => by rw [hW8.out]; exact hone.out d hd (he.trans hJe.out.symm))
              rw [hstep.out, hJe.out]
              rw [hW8.out] at this ⊢
              rw [hM.out] at this
              exact this
            have hN6 := hid (hN.out.add hR hT.out.len hJ8'.out.2 hJ8'.out.1 (addL m.2 W8 y.2))
            go_wp2
            go_roundw
            case rel => exact ⟨j + 1, _, ds', by omega, by go_num, hT6, hN6, hB6, hG6, c6.out⟩
            case measure => simp [intOf]; omega
        · have hj' : j = x.2.length := by omega
          subst hj'
          have hT7 : Hid (Turn (toldL L (k + 1) 0) M) := by rw [← toldL_row, HX.out]; exact hT
          go_wp2
          go_roundw
          case rel => exact ⟨k + 1, M, ds, by omega, by go_num, hT7, hN, hBk, hGk, hbel⟩
          case measure => simp [intOf]; omega
    · have hk24 : k = 24 := by omega
      subst hk24
      have hl3 := ldS_row hBk.out.row hBk.out.size
      have hs3 := stS_row (cs := ds) hGk.out (by simp [zeroV]) hBk.out.size hBk.out.agg.one
      have hg3 := hid (setRow_heap wr (w.heap.size + 1) zeroV ds _ _ hGk.out)
      have hA3 := hid (show AgG (wr.setRow (w.heap.size + 1) ds) ds M from ⟨hBk.out.size, hBk.out.len, hBk.out.num, fun k hk => by
        obtain ⟨u, h1, h2⟩ := hBk.out.kin k hk
        exact ⟨u, h1, (h2.setRow (by omega) ds).rd⟩⟩)
      have c3 := hid (below_setRow hbel (g := w.heap.size + 1) (by omega) ds)
      go_wp2_with fail
      refine bodyPost_ret (v := .agg ds) (results_cell_row Try.results16 _ _ (w.heap.size + 1) _ ds _ _ (by simp) hg3.out Try.underlying43 rfl (by rw [Try.infoR, hBk.out.size])) rfl ⟨ds, M, rfl, hA3.out, hT.out, hN.out, c3.out⟩
end Go.Proofs.Ytpdfhffmhlgcmaa
