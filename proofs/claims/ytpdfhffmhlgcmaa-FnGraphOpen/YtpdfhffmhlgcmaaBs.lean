/- slices.BinarySearchFunc over edges in order: contract. -/
import Derived.Test.YtpdfhffmhlgcmaaAdP
import Derived.Test.YtpdfhffmhlgcmaaOk1
import Derived.Test.YtpdfhffmhlgcmaaGa
import Derived.BigQuiet
import Derived.Lib.QuietBelow
namespace Go.Proofs.Ytpdfhffmhlgcmaa
open Go.RowKit Go.Shelf
attribute [local go_sem ↓] Go.wp_at_zero Go.wp_at_succ

set_option maxHeartbeats 4000000 in
theorem search_any (v : Value) (l : List (Int × Int)) (e : Int × Int) (w : World) (h : Rd w v l) (hll : l.length ≤ 1099511627776) (hgood : GoodTo l l.length) :
    Calls Try.prog 52 #[v, .agg #[.int .i64 e.1, .int .i64 e.2], .func (.func 44) #[] #[]] w fun x w' => ∃ fb, x = .returned (.tuple #[.int .i64 (placeN l e), .bool fb]) ∧ Below w.heap.size w w' := by
  obtain ⟨ao, cap, rfl, hl, hc⟩ := h
  have HG := hid hgood
  clear hgood
  obtain ⟨x1, x2⟩ := e
  go_enter Try.func52, Try.ntmps52
  go_wp2
  have hP : PairAt (w.alloc (.cells #[.int .i64 x1, .int .i64 x2] 65)) w.heap.size (x1, x2) := PairAt.new w (x1, x2)
  have hB0 : Below w.heap.size w (w.alloc (.cells #[.int .i64 x1, .int .i64 x2] 65)) := (Below.refl _ w).alloc (Nat.le_refl _) _
  have hsz0 : w.heap.size < (w.alloc (.cells #[.int .i64 x1, .int .i64 x2] 65)).heap.size := by simp
  obtain ⟨W0, hW0⟩ : ∃ W0, w.alloc (.cells #[.int .i64 x1, .int .i64 x2] 65) = W0 := ⟨_, rfl⟩
  rw [hW0] at hP hB0 hsz0 ⊢
  clear hW0
  go_loopw [9, 10] (fun i j wr => ∃ p q : Nat, p ≤ q ∧ q ≤ l.length ∧ i = .int .i64 p ∧ j = .int .i64 q ∧ Hid (∀ t, t < p → aheadB (l.getD t (0, 0)) (x1, x2) = true) ∧ Hid (∀ t, q ≤ t → t < l.length → aheadB (l.getD t (0, 0)) (x1, x2) = false) ∧
      PairAt wr w.heap.size (x1, x2) ∧ w.heap.size < wr.heap.size ∧ Below w.heap.size w wr) (fun i j _ => (intOf j).toNat - (intOf i).toNat)
  case atStart => exact ⟨0, l.length, Nat.zero_le _, Nat.le_refl _, rfl, rfl, fun t ht => absurd ht (Nat.not_lt_zero _), fun t ht ht' => by omega, hP, hsz0, hB0⟩
  case round =>
    obtain ⟨p, q, hpq, hql, rfl, rfl, hlo, hhi, hpair, hszr, hbel⟩ := hrel
    by_cases hlt : p < q
    · obtain ⟨b, o, rfl, hb, hcc⟩ := hc (by omega)
      have t0 := hpair.c0
      have t1 := hpair.c1
      have hw1 : IntKind.i64.wrap ((p : Int) + (q : Int)) = (p : Int) + (q : Int) := by rw [IntKind.wrap_i64]; omega
      obtain ⟨m, hm⟩ : ∃ m : Nat, ((p : Int) + (q : Int)) / 2 = (m : Int) := ⟨(p + q) / 2, by omega⟩
      have hpm : p ≤ m := by omega
      have hmq : m < q := by omega
      have hsz := hbel.size
      obtain ⟨c0, c1⟩ := hcc m (by omega)
      rw [← hbel.cell (p := ⟨b, o + m * 2, none⟩) hb] at c0
      rw [← hbel.cell (p := ⟨b, o + m * 2 + 1, none⟩) hb] at c1
      have HM := hid hm
      have HP := hid hpair
      clear hcc hc hpair
      cases hah : aheadB (l.getD m (0, 0)) (x1, x2) with
      | true =>
        have hlo' : Hid (∀ t, t < m + 1 → aheadB (l.getD t (0, 0)) (x1, x2) = true) := fun t ht => ahead_head HG.out (by omega) (by omega) hah
        have hneg : cmpE (l.getD m (0, 0)) (x1, x2) < 0 := cmpE_neg.2 hah
        clear hah
        generalize l.getD m (0, 0) = y at *
        go_wp2
        have r0 := cell_regrown c0
        have r1 := cell_regrown c1
        have r2 := cell_regrown t0
        have r3 := cell_regrown t1
        refine wp_region_quiet_below (by kernel_rfl) (by kernel_rfl) ?_
        repeat (first | go_big_quiet_skip | (go_big_quiet_want; go_big_quiet_op; first | go_big_quiet_on | go_big_quiet_call (first | (go_at_call 44; exact Calls.regrown_of (compareEdges_any _ _ _ _ _)))))
        refine wpQuiet_nil ?_
        rintro wq ⟨pq, hwq⟩
        have hq : Below wr.heap.size wr wq := by rw [hwq]; exact below_regrown _ _ _
        clear hwq pq
        clear r0 r1 r2 r3
        go_wp2
        go_roundw
        case rel => exact ⟨m + 1, q, by omega, hql, by go_num, rfl, hlo', hhi, (hq.block _ hszr).trans HP.out, Nat.lt_of_lt_of_le hszr hq.size, hbel.trans (hq.mono hsz)⟩
        case measure => simp [intOf]; omega
      | false =>
        have hhi' : Hid (∀ t, m ≤ t → t < l.length → aheadB (l.getD t (0, 0)) (x1, x2) = false) := fun t ht ht' => behind_tail HG.out ht ht' hah
        have hneg : decide (cmpE (l.getD m (0, 0)) (x1, x2) < 0) = false := decide_eq_false (fun h => by rw [cmpE_neg.1 h] at hah; exact absurd hah (by decide))
        clear hah
        generalize l.getD m (0, 0) = y at *
        go_wp2
        have r0 := cell_regrown c0
        have r1 := cell_regrown c1
        have r2 := cell_regrown t0
        have r3 := cell_regrown t1
        refine wp_region_quiet_below (by kernel_rfl) (by kernel_rfl) ?_
        repeat (first | go_big_quiet_skip | (go_big_quiet_want; go_big_quiet_op; first | go_big_quiet_on | go_big_quiet_call (first | (go_at_call 44; exact Calls.regrown_of (compareEdges_any _ _ _ _ _)))))
        refine wpQuiet_nil ?_
        rintro wq ⟨pq, hwq⟩
        have hq : Below wr.heap.size wr wq := by rw [hwq]; exact below_regrown _ _ _
        clear hwq pq
        clear r0 r1 r2 r3
        go_wp2
        go_roundw
        case rel => exact ⟨p, m, by omega, by omega, rfl, by go_num, hlo, hhi', (hq.block _ hszr).trans HP.out, Nat.lt_of_lt_of_le hszr hq.size, hbel.trans (hq.mono hsz)⟩
        case measure => simp [intOf]; omega
    · obtain rfl : p = q := by omega
      have hsz := hbel.size
      have hpl : placeN l (x1, x2) = p := placeN_eq l (x1, x2) p hql (fun t ht => hlo.out t ht) (fun hp => hhi.out p (Nat.le_refl _) hp)
      have HPL := hid hpl
      clear hpl
      by_cases hpn : p < l.length
      · obtain ⟨b, o, rfl, hb, hcc⟩ := hc (by omega)
        obtain ⟨c0, c1⟩ := hcc p hpn
        rw [← hbel.cell (p := ⟨b, o + p * 2, none⟩) hb] at c0
        rw [← hbel.cell (p := ⟨b, o + p * 2 + 1, none⟩) hb] at c1
        have t0 := hpair.c0
        have t1 := hpair.c1
        clear hcc hc hpair hlo hhi
        generalize l.getD p (0, 0) = y at *
        go_wp2
        have r0 := cell_regrown c0
        have r1 := cell_regrown c1
        have r2 := cell_regrown t0
        have r3 := cell_regrown t1
        refine wp_region_quiet_below (by kernel_rfl) (by kernel_rfl) ?_
        repeat (first | go_big_quiet_skip | (go_big_quiet_want; go_big_quiet_op; first | go_big_quiet_on | go_big_quiet_call (first | (go_at_call 44; exact Calls.regrown_of (compareEdges_any _ _ _ _ _)))))
        refine wpQuiet_nil ?_
        rintro wq ⟨pq, hwq⟩
        have hq : Below wr.heap.size wr wq := by rw [hwq]; exact below_regrown _ _ _
        clear hwq pq
        clear r0 r1 r2 r3
        go_wp2
        go_ret2
        exact ⟨_, by rw [HPL.out]; rfl, hbel.trans (hq.mono hsz)⟩
      · clear hc hlo hhi hpair
        obtain rfl : p = l.length := by omega
        go_wp2
        refine wp_region_quiet_below (by kernel_rfl) (by kernel_rfl) ?_
        repeat (first | go_big_quiet_skip | (go_big_quiet_want; go_big_quiet_op; first | go_big_quiet_on | go_big_quiet_call (first | (fail))))
        refine wpQuiet_nil ?_
        rintro wq ⟨pq, hwq⟩
        have hq : Below wr.heap.size wr wq := by rw [hwq]; exact below_regrown _ _ _
        clear hwq pq
        go_wp2
        go_ret2
        exact ⟨_, by rw [HPL.out]; rfl, hbel.trans (hq.mono hsz)⟩
end Go.Proofs.Ytpdfhffmhlgcmaa
