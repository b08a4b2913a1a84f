/- slices.IsSortedFunc at edges and compareEdges; impl.EdgeOk: contracts. -/
import Derived.Test.YtnenlnadmdlcfaaOk1
import Derived.BigQuiet
import Derived.Lib.QuietBelow
namespace Go.Proofs.Ytnenlnadmdlcfaa
open Go.RowKit
attribute [local go_sem ↓] Go.wp_at_zero Go.wp_at_succ

def NoInv (l : List (Int × Int)) : Prop := ∀ i, 0 < i → i < l.length → ¬ aheadB (l.getD i (0, 0)) (l.getD (i - 1) (0, 0)) = true

set_option maxHeartbeats 2000000 in
theorem isSorted_any (v : Value) (l : List (Int × Int)) (p : Bool) (hp : p = true ↔ NoInv l) (w : World) (h : Rd w v l) :
    Calls Try.prog 92 #[v, .func (.func 93) #[] #[]] w fun e w' => e = .returned (.bool p) ∧ Below w.heap.size w w' := by
  obtain ⟨ao, cap, rfl, hl, hc⟩ := h
  unfold maxLen at hl
  have HP : Hid (p = true ↔ NoInv l) := hp
  clear hp
  by_cases h0 : l.length = 0
  · have hpt : p = true := HP.out.2 (fun i _ hi => by omega)
    subst hpt
    go_enter Try.func92, Try.ntmps92
    go_wp2
    go_loop [5] (fun i => i = .int .i64 (-1)) (fun _ => 0)
    case atStart => simp
    case round =>
      subst hrel
      go_wp2
      go_ret
      exact ⟨by simp, Below.refl _ _⟩
  · have hpos : (0 : Int) < (l.length : Int) := by omega
    clear h0
    go_enter Try.func92, Try.ntmps92
    go_wp2
    go_loopw [5] (fun i wr => ∃ k : Nat, k < l.length ∧ i = .int .i64 k ∧ Hid (∀ j, k < j → j < l.length → ¬ aheadB (l.getD j (0, 0)) (l.getD (j - 1) (0, 0)) = true) ∧ Below w.heap.size w wr) (fun i _ => (intOf i).toNat)
    case atStart => exact ⟨l.length - 1, by omega, by go_num, fun j hj hj' => by omega, Below.refl _ _⟩
    case round =>
      obtain ⟨k, hk, rfl, hno, hbel⟩ := hrel
      have hsz := hbel.size
      obtain ⟨b, o, rfl, hb, hcc⟩ := hc (by omega)
      cases k with
      | zero =>
        have hpt : p = true := HP.out.2 (fun i hi hi' => hno.out i hi hi')
        subst hpt
        clear hcc hc
        go_wp2
        go_ret
        exact ⟨by simp, hbel⟩
      | succ q =>
        obtain ⟨c0, c1⟩ := hcc (q + 1) hk
        obtain ⟨d0, d1⟩ := hcc q (by omega)
        rw [← hbel.cell (p := ⟨b, o + (q + 1) * 2, none⟩) hb] at c0
        rw [← hbel.cell (p := ⟨b, o + (q + 1) * 2 + 1, none⟩) hb] at c1
        rw [← hbel.cell (p := ⟨b, o + q * 2, none⟩) hb] at d0
        rw [← hbel.cell (p := ⟨b, o + q * 2 + 1, none⟩) hb] at d1
        have r0 := cell_regrown c0
        have r1 := cell_regrown c1
        have r2 := cell_regrown d0
        have r3 := cell_regrown d1
        clear c0 c1 d0 d1 hcc hc
        by_cases hah : aheadB (l.getD (q + 1) (0, 0)) (l.getD q (0, 0)) = true
        · have hpf : p = false := by
            cases hpp : p with
            | false => rfl
            | true => exact absurd hah (HP.out.1 hpp (q + 1) (by omega) hk)
          subst hpf
          have hneg : cmpE (l.getD (q + 1) (0, 0)) (l.getD q (0, 0)) < 0 := cmpE_neg.2 hah
          clear hah
          generalize l.getD (q + 1) (0, 0) = x at *
          generalize l.getD q (0, 0) = y at *
          go_wp2
          refine wp_region_quiet_below (by kernel_rfl) (by kernel_rfl) ?_
          repeat (first | go_big_quiet_skip | (go_big_quiet_want; go_big_quiet_op; first | go_big_quiet_on | go_big_quiet_call (first | (go_at_call 93; exact Calls.regrown_of (compareEdges_any _ _ _ _ _)))))
          refine wpQuiet_nil ?_
          rintro wq ⟨pq, hwq⟩
          have hq : Below wr.heap.size wr wq := by rw [hwq]; exact below_regrown _ _ _
          clear hwq pq
          clear r0 r1 r2 r3
          go_wp2
          go_ret
          exact ⟨by simp, hbel.trans (hq.mono hsz)⟩
        · have hneg : decide (cmpE (l.getD (q + 1) (0, 0)) (l.getD q (0, 0)) < 0) = false := decide_eq_false (fun h => hah (cmpE_neg.1 h))
          have hnext : Hid (∀ j, q < j → j < l.length → ¬ aheadB (l.getD j (0, 0)) (l.getD (j - 1) (0, 0)) = true) := fun j hj hj' => by
            by_cases e : j = q + 1
            · rw [e]; exact hah
            · exact hno.out j (by omega) hj'
          clear hah
          generalize l.getD (q + 1) (0, 0) = x at *
          generalize l.getD q (0, 0) = y at *
          go_wp2
          refine wp_region_quiet_below (by kernel_rfl) (by kernel_rfl) ?_
          repeat (first | go_big_quiet_skip | (go_big_quiet_want; go_big_quiet_op; first | go_big_quiet_on | go_big_quiet_call (first | (go_at_call 93; exact Calls.regrown_of (compareEdges_any _ _ _ _ _)))))
          refine wpQuiet_nil ?_
          rintro wq ⟨pq, hwq⟩
          have hq : Below wr.heap.size wr wq := by rw [hwq]; exact below_regrown _ _ _
          clear hwq pq
          clear r0 r1 r2 r3
          go_wp2
          go_roundw
          case rel => exact ⟨q, by omega, by go_num, hnext, hbel.trans (hq.mono hsz)⟩
          case measure => simp [intOf]

/-- The cells of the array 'met' say who is among the first k. -/
def MetCells (W : World) (B : Nat) (l : List (Int × Int)) (k : Nat) : Prop := ∀ t, t < 8 → W.cell? ⟨B, t, none⟩ = some (.bool (metB l k t)) ∧ W.frozen? ⟨B, t, none⟩ = false
theorem MetCells.later {W W' : World} {B : Nat} {l : List (Int × Int)} {k : Nat} (h : MetCells W B l k) (hB : B < W.heap.size) (hb : Below W.heap.size W W') : MetCells W' B l k :=
  fun t ht => ⟨(hb.cell (p := ⟨B, t, none⟩) hB).trans (h t ht).1, (hb.frozen (p := ⟨B, t, none⟩) hB).trans (h t ht).2⟩
theorem metB_succ (l : List (Int × Int)) (k t : Nat) (hk : k < l.length) : metB l (k + 1) t = (metB l k t || decide ((l.getD k (0, 0)).1 = t)) := by
  unfold metB
  rw [List.take_succ_eq_append_getElem hk, List.any_append]
  simp [hk]
theorem MetCells.set {W : World} {B n : Nat} {l : List (Int × Int)} {k : Nat} (h : MetCells W B l k) (hk : k < l.length) (hn : (l.getD k (0, 0)).1 = n) (hn8 : n < 8) : MetCells (W.setCell ⟨B, n, none⟩ (.bool true)) B l (k + 1) := by
  intro t ht
  rw [metB_succ l k t hk, hn, World.frozen?_setCell]
  refine ⟨?_, (h t ht).2⟩
  by_cases e : t = n
  · subst e
    rw [World.cell?_setCell_same' _ _ _ (by rw [(h t ht).1]; rfl)]
    simp
  · rw [World.cell?_setCell_other _ _ _ _ (by intro he; injection he with _ h2 _; exact e h2.symm), (h t ht).1]
    have : ¬ ((n : Int) = (t : Int)) := by omega
    simp [this]

set_option maxHeartbeats 4000000 in
theorem implOk_any (v : Value) (l : List (Int × Int)) (w : World) (h : Rd w v l) :
    Calls Try.prog 89 #[v] w fun e w' => e = .returned (.bool (okL l)) ∧ Below w.heap.size w w' := by
  have hRd := h
  obtain ⟨ao, cap, rfl, hl, hc⟩ := h
  unfold maxLen at hl
  have HRd : Hid (Rd w (.slice ao l.length cap) l) := hRd
  clear hRd
  go_enter Try.func89, Try.ntmps89
  go_wp2
  go_loopw [8] (fun i wr => ∃ k : Nat, k ≤ l.length ∧ i = .int .i64 k ∧ MetTo l k ∧ MetCells wr w.heap.size l k ∧ Below w.heap.size w wr ∧ w.heap.size < wr.heap.size) (fun i _ => l.length - (intOf i).toNat)
  case atStart =>
    refine ⟨0, Nat.zero_le _, rfl, fun i hi => absurd hi (Nat.not_lt_zero _), fun t ht => ?_, by go_grown, by simp⟩
    rcases (by omega : t = 0 ∨ t = 1 ∨ t = 2 ∨ t = 3 ∨ t = 4 ∨ t = 5 ∨ t = 6 ∨ t = 7) with rfl | rfl | rfl | rfl | rfl | rfl | rfl | rfl <;> simp [go_sem, metB]
  case round =>
    obtain ⟨k, hk, rfl, hmet, hmc, hbel, hB⟩ := hrel
    have HM : Hid (MetTo l k) := hmet
    have HC : Hid (MetCells wr w.heap.size l k) := hmc
    have hsz := hbel.size
    clear hmet hmc
    by_cases hlt : k < l.length
    · obtain ⟨b, o, rfl, hb, hcc⟩ := hc (by omega)
      obtain ⟨c0, c1⟩ := hcc k hlt
      rw [← hbel.cell (p := ⟨b, o + k * 2, none⟩) hb] at c0
      rw [← hbel.cell (p := ⟨b, o + k * 2 + 1, none⟩) hb] at c1
      clear hcc hc
      obtain ⟨x, hx⟩ : ∃ x, l.getD k (0, 0) = x := ⟨_, rfl⟩
      have HX : Hid (l.getD k (0, 0) = x) := hx
      rw [hx] at c0 c1
      clear hx
      by_cases hr : rightB x = true
      · obtain ⟨n, hn⟩ := Int.eq_ofNat_of_zero_le (rightB_iff.1 hr).1
        have hn8 : n < 8 := by have := (rightB_iff.1 hr).2.1; omega
        obtain ⟨xw, xa⟩ := x
        simp only at hn
        subst hn
        have hb1 : ∀ W, Below wr.heap.size wr W → MetCells W w.heap.size l k := fun W hW => HC.out.later hB hW
        have HB : Hid (∀ W, Below wr.heap.size wr W → MetCells W w.heap.size l k) := hb1
        clear hb1
        by_cases hm : metB l k n = true
        · have hfalse : okL l = false := okL_no (fun hg => by
            obtain ⟨i, hi, hw⟩ := (metB_iff (by omega)).1 hm
            have := ((hg k hlt).2 i hi).2
            rw [HX.out] at this
            exact this hw)
          go_wp2_with (first | (go_at_call 91; refine (edgeRight_any _ _ _).mono ?_; rintro e w2 ⟨rfl, hb2⟩; have g0 := (HB.out _ (((Below.refl _ wr).alloc (Nat.le_refl _) _).trans (hb2.mono (by simp)))  n hn8).1; rw [hm] at g0; have g1 := cell_later hb2 (show (wr.alloc (.cells #[.int .i64 (n : Int), .int .i64 xa] 62)).cell? ⟨wr.heap.size, 0, none⟩ = some (.int .i64 (n : Int)) by simp [go_sem])))
          go_ret
          exact ⟨by simp [hfalse], hbel.trans ((((Below.refl _ wr).alloc (Nat.le_refl _) _).trans (hb2.mono (by simp))).mono hsz)⟩
        · have hm : metB l k n = false := by simpa using hm
          have hstep : Hid (MetTo l (k + 1)) := fun i hi => by
            by_cases e : i = k
            · subst e
              refine ⟨by rw [HX.out]; exact hr, fun j hj he => ?_⟩
              rw [HX.out] at he
              have := (metB_iff (k := i) (by omega)).2 ⟨j, hj, he⟩
              rw [hm] at this
              exact absurd this (by decide)
            · exact HM.out i (by omega)
          go_wp2_with (first | (go_at_call 91; refine (edgeRight_any _ _ _).mono ?_; rintro e w2 ⟨rfl, hb2⟩; have g0 := (HB.out _ (((Below.refl _ wr).alloc (Nat.le_refl _) _).trans (hb2.mono (by simp)))  n hn8).1; rw [hm] at g0; have f0 := (HB.out _ (((Below.refl _ wr).alloc (Nat.le_refl _) _).trans (hb2.mono (by simp)))  n hn8).2; have g1 := cell_later hb2 (show (wr.alloc (.cells #[.int .i64 (n : Int), .int .i64 xa] 62)).cell? ⟨wr.heap.size, 0, none⟩ = some (.int .i64 (n : Int)) by simp [go_sem])))
          go_roundw
          case rel => exact ⟨k + 1, by omega, by go_num, hstep, (HB.out _ (((Below.refl _ wr).alloc (Nat.le_refl _) _).trans (hb2.mono (by simp)))).set hlt (by rw [HX.out]) hn8, (hbel.trans ((((Below.refl _ wr).alloc (Nat.le_refl _) _).trans (hb2.mono (by simp))).mono hsz)).setCell (Nat.le_refl _) _, by have := hb2.size; simp at this ⊢; omega⟩
          case measure => simp [intOf]; omega
      · have hfalse : okL l = false := okL_no (fun hg => hr (by have := (hg k hlt).1; rwa [HX.out] at this))
        have hr' : rightB x = false := by simpa using hr
        clear hr
        go_wp2_with (first | (go_at_call 91; refine (edgeRight_any _ _ _).mono ?_; rintro e w2 ⟨rfl, hb2⟩))
        go_ret
        exact ⟨by simp [hfalse], hbel.trans ((((Below.refl _ wr).alloc (Nat.le_refl _) _).trans (hb2.mono (by simp))).mono hsz)⟩
    · have hkl : k = l.length := by omega
      subst hkl
      have hiff : okL l = true ↔ NoInv l := ⟨fun hg i h0 hi => ((okL_iff l).1 hg).sorted h0 hi, fun hs => okL_yes (GoodTo.of_met HM.out hs)⟩
      have HI : Hid (okL l = true ↔ NoInv l) := hiff
      clear hiff
      go_wp2_with fail
      refine (isSorted_any _ l (okL l) HI.out _ (HRd.out.later hbel)).mono ?_
      rintro e w2 ⟨rfl, hb2⟩
      go_wp2
      go_ret
      exact ⟨by simp, hbel.trans (hb2.mono hsz)⟩
end Go.Proofs.Ytnenlnadmdlcfaa
