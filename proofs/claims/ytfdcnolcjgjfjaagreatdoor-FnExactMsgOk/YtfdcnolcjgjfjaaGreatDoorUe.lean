/- spec.l6Body at some kinds: contracts. Written by a program (gmk.py). -/
import Derived.Test.YtfdcnolcjgjfjaaGreatDoorUf
import Derived.Test.YtfdcnolcjgjfjaaGreatDoorOq
import Derived.Test.YtfdcnolcjgjfjaaGreatDoorPb
import Derived.Test.YtfdcnolcjgjfjaaGreatDoorLawOOther
import Derived.BigQuiet
import Derived.Deep.Cut
namespace Go.Proofs.YtfdcnolcjgjfjaaGreatDoor
open Go.RowKit
attribute [local go_sem ↓] Go.wp_at_zero Go.wp_at_succ

set_option maxRecDepth 100000 in
set_option maxHeartbeats 16000000 in
theorem l6Body_9 (i1 i2 i3 i4 i5 i6 i7 i8 i9 i10 i11 i12 : Int) (va0 va1 : Value) (L0 : List (Int × Int)) (L1 : List KD) (w : World) (ha : RSMsg w va0 va1 L0 L1) :
    Calls Tryz.prog 36 #[.agg #[.int .i64 9, .int .i64 i1, .int .i64 i2, .int .i64 i3, .int .i64 i4, .int .i64 i5, .int .i64 i6, .int .i64 i7, .int .i64 i8, .int .i64 i9, .int .i64 i10, .int .i64 i11, va0, va1, .int .i64 i12]] w fun e w' => e = .returned (.bool (bodyM 9 i1 i2 i3 i4 i5 i6 i7 i8 i9 i10 i11 i12 L0 L1)) ∧ Below w.heap.size w w' := by
  have HA := hid ha
  obtain ⟨ao0, ao1, ac0, ac1, rfl, rfl⟩ := ha.open
  clear ha
  obtain ⟨itv, hit⟩ : ∃ b : Bool, (itR i9 i10 i11 L0 && decide (partOf i9 = i2)) = b := ⟨_, rfl⟩
  have HIT := hid hit
  clear hit
  go_enter Tryz.func36, Tryz.ntmps36
  go_wp2_with fail
  have a0_1 : (w.alloc (.cells #[.int .i64 9, .int .i64 i1, .int .i64 i2, .int .i64 i3, .int .i64 i4, .int .i64 i5, .int .i64 i6, .int .i64 i7, .int .i64 i8, .int .i64 i9, .int .i64 i10, .int .i64 i11, .slice ao0 L0.length ac0, .slice ao1 L1.length ac1, .int .i64 i12] 32)).cell? ⟨w.heap.size, 0, none⟩ = some (.int .i64 9) := by go_cell
  have a1_1 : (w.alloc (.cells #[.int .i64 9, .int .i64 i1, .int .i64 i2, .int .i64 i3, .int .i64 i4, .int .i64 i5, .int .i64 i6, .int .i64 i7, .int .i64 i8, .int .i64 i9, .int .i64 i10, .int .i64 i11, .slice ao0 L0.length ac0, .slice ao1 L1.length ac1, .int .i64 i12] 32)).cell? ⟨w.heap.size, 1, none⟩ = some (.int .i64 i1) := by go_cell
  have a2_1 : (w.alloc (.cells #[.int .i64 9, .int .i64 i1, .int .i64 i2, .int .i64 i3, .int .i64 i4, .int .i64 i5, .int .i64 i6, .int .i64 i7, .int .i64 i8, .int .i64 i9, .int .i64 i10, .int .i64 i11, .slice ao0 L0.length ac0, .slice ao1 L1.length ac1, .int .i64 i12] 32)).cell? ⟨w.heap.size, 2, none⟩ = some (.int .i64 i2) := by go_cell
  have a3_1 : (w.alloc (.cells #[.int .i64 9, .int .i64 i1, .int .i64 i2, .int .i64 i3, .int .i64 i4, .int .i64 i5, .int .i64 i6, .int .i64 i7, .int .i64 i8, .int .i64 i9, .int .i64 i10, .int .i64 i11, .slice ao0 L0.length ac0, .slice ao1 L1.length ac1, .int .i64 i12] 32)).cell? ⟨w.heap.size, 3, none⟩ = some (.int .i64 i3) := by go_cell
  have a4_1 : (w.alloc (.cells #[.int .i64 9, .int .i64 i1, .int .i64 i2, .int .i64 i3, .int .i64 i4, .int .i64 i5, .int .i64 i6, .int .i64 i7, .int .i64 i8, .int .i64 i9, .int .i64 i10, .int .i64 i11, .slice ao0 L0.length ac0, .slice ao1 L1.length ac1, .int .i64 i12] 32)).cell? ⟨w.heap.size, 4, none⟩ = some (.int .i64 i4) := by go_cell
  have a5_1 : (w.alloc (.cells #[.int .i64 9, .int .i64 i1, .int .i64 i2, .int .i64 i3, .int .i64 i4, .int .i64 i5, .int .i64 i6, .int .i64 i7, .int .i64 i8, .int .i64 i9, .int .i64 i10, .int .i64 i11, .slice ao0 L0.length ac0, .slice ao1 L1.length ac1, .int .i64 i12] 32)).cell? ⟨w.heap.size, 5, none⟩ = some (.int .i64 i5) := by go_cell
  have a6_1 : (w.alloc (.cells #[.int .i64 9, .int .i64 i1, .int .i64 i2, .int .i64 i3, .int .i64 i4, .int .i64 i5, .int .i64 i6, .int .i64 i7, .int .i64 i8, .int .i64 i9, .int .i64 i10, .int .i64 i11, .slice ao0 L0.length ac0, .slice ao1 L1.length ac1, .int .i64 i12] 32)).cell? ⟨w.heap.size, 6, none⟩ = some (.int .i64 i6) := by go_cell
  have a7_1 : (w.alloc (.cells #[.int .i64 9, .int .i64 i1, .int .i64 i2, .int .i64 i3, .int .i64 i4, .int .i64 i5, .int .i64 i6, .int .i64 i7, .int .i64 i8, .int .i64 i9, .int .i64 i10, .int .i64 i11, .slice ao0 L0.length ac0, .slice ao1 L1.length ac1, .int .i64 i12] 32)).cell? ⟨w.heap.size, 7, none⟩ = some (.int .i64 i7) := by go_cell
  have a8_1 : (w.alloc (.cells #[.int .i64 9, .int .i64 i1, .int .i64 i2, .int .i64 i3, .int .i64 i4, .int .i64 i5, .int .i64 i6, .int .i64 i7, .int .i64 i8, .int .i64 i9, .int .i64 i10, .int .i64 i11, .slice ao0 L0.length ac0, .slice ao1 L1.length ac1, .int .i64 i12] 32)).cell? ⟨w.heap.size, 8, none⟩ = some (.int .i64 i8) := by go_cell
  have a9_1 : (w.alloc (.cells #[.int .i64 9, .int .i64 i1, .int .i64 i2, .int .i64 i3, .int .i64 i4, .int .i64 i5, .int .i64 i6, .int .i64 i7, .int .i64 i8, .int .i64 i9, .int .i64 i10, .int .i64 i11, .slice ao0 L0.length ac0, .slice ao1 L1.length ac1, .int .i64 i12] 32)).cell? ⟨w.heap.size, 9, none⟩ = some (.int .i64 i9) := by go_cell
  have a10_1 : (w.alloc (.cells #[.int .i64 9, .int .i64 i1, .int .i64 i2, .int .i64 i3, .int .i64 i4, .int .i64 i5, .int .i64 i6, .int .i64 i7, .int .i64 i8, .int .i64 i9, .int .i64 i10, .int .i64 i11, .slice ao0 L0.length ac0, .slice ao1 L1.length ac1, .int .i64 i12] 32)).cell? ⟨w.heap.size, 10, none⟩ = some (.int .i64 i10) := by go_cell
  have a11_1 : (w.alloc (.cells #[.int .i64 9, .int .i64 i1, .int .i64 i2, .int .i64 i3, .int .i64 i4, .int .i64 i5, .int .i64 i6, .int .i64 i7, .int .i64 i8, .int .i64 i9, .int .i64 i10, .int .i64 i11, .slice ao0 L0.length ac0, .slice ao1 L1.length ac1, .int .i64 i12] 32)).cell? ⟨w.heap.size, 11, none⟩ = some (.int .i64 i11) := by go_cell
  have a12_1 : (w.alloc (.cells #[.int .i64 9, .int .i64 i1, .int .i64 i2, .int .i64 i3, .int .i64 i4, .int .i64 i5, .int .i64 i6, .int .i64 i7, .int .i64 i8, .int .i64 i9, .int .i64 i10, .int .i64 i11, .slice ao0 L0.length ac0, .slice ao1 L1.length ac1, .int .i64 i12] 32)).cell? ⟨w.heap.size, 12, none⟩ = some (.slice ao0 L0.length ac0) := by go_cell
  have a13_1 : (w.alloc (.cells #[.int .i64 9, .int .i64 i1, .int .i64 i2, .int .i64 i3, .int .i64 i4, .int .i64 i5, .int .i64 i6, .int .i64 i7, .int .i64 i8, .int .i64 i9, .int .i64 i10, .int .i64 i11, .slice ao0 L0.length ac0, .slice ao1 L1.length ac1, .int .i64 i12] 32)).cell? ⟨w.heap.size, 13, none⟩ = some (.slice ao1 L1.length ac1) := by go_cell
  have a14_1 : (w.alloc (.cells #[.int .i64 9, .int .i64 i1, .int .i64 i2, .int .i64 i3, .int .i64 i4, .int .i64 i5, .int .i64 i6, .int .i64 i7, .int .i64 i8, .int .i64 i9, .int .i64 i10, .int .i64 i11, .slice ao0 L0.length ac0, .slice ao1 L1.length ac1, .int .i64 i12] 32)).cell? ⟨w.heap.size, 14, none⟩ = some (.int .i64 i12) := by go_cell
  have al_1 : w.heap.size < (w.alloc (.cells #[.int .i64 9, .int .i64 i1, .int .i64 i2, .int .i64 i3, .int .i64 i4, .int .i64 i5, .int .i64 i6, .int .i64 i7, .int .i64 i8, .int .i64 i9, .int .i64 i10, .int .i64 i11, .slice ao0 L0.length ac0, .slice ao1 L1.length ac1, .int .i64 i12] 32)).heap.size := by first | (simp; done) | (simp; omega)
  have c1 : Below w.heap.size w (w.alloc (.cells #[.int .i64 9, .int .i64 i1, .int .i64 i2, .int .i64 i3, .int .i64 i4, .int .i64 i5, .int .i64 i6, .int .i64 i7, .int .i64 i8, .int .i64 i9, .int .i64 i10, .int .i64 i11, .slice ao0 L0.length ac0, .slice ao1 L1.length ac1, .int .i64 i12] 32)) := by go_grown
  have s1 : (w.alloc (.cells #[.int .i64 9, .int .i64 i1, .int .i64 i2, .int .i64 i3, .int .i64 i4, .int .i64 i5, .int .i64 i6, .int .i64 i7, .int .i64 i8, .int .i64 i9, .int .i64 i10, .int .i64 i11, .slice ao0 L0.length ac0, .slice ao1 L1.length ac1, .int .i64 i12] 32)).heap.size = w.heap.size + 1 := by simp
  generalize (w.alloc (.cells #[.int .i64 9, .int .i64 i1, .int .i64 i2, .int .i64 i3, .int .i64 i4, .int .i64 i5, .int .i64 i6, .int .i64 i7, .int .i64 i8, .int .i64 i9, .int .i64 i10, .int .i64 i11, .slice ao0 L0.length ac0, .slice ao1 L1.length ac1, .int .i64 i12] 32)) = w1 at a0_1 a1_1 a2_1 a3_1 a4_1 a5_1 a6_1 a7_1 a8_1 a9_1 a10_1 a11_1 a12_1 a13_1 a14_1 al_1 c1 s1 ⊢
  have qa0_1 := cell_regrown a0_1
  have qa1_1 := cell_regrown a1_1
  have qa2_1 := cell_regrown a2_1
  have qa3_1 := cell_regrown a3_1
  have qa4_1 := cell_regrown a4_1
  have qa5_1 := cell_regrown a5_1
  have qa6_1 := cell_regrown a6_1
  have qa7_1 := cell_regrown a7_1
  have qa8_1 := cell_regrown a8_1
  have qa9_1 := cell_regrown a9_1
  have qa10_1 := cell_regrown a10_1
  have qa11_1 := cell_regrown a11_1
  have qa12_1 := cell_regrown a12_1
  have qa13_1 := cell_regrown a13_1
  have qa14_1 := cell_regrown a14_1
  go_cut [3] from 4 (fun s wx => s = .bool itv ∧ Below w1.heap.size w1 wx)
  case first =>
    cases hI : itR i9 i10 i11 L0 with
    | false =>
      refine wp_region_quiet_below (by kernel_rfl) (by kernel_rfl) ?_
      repeat (first | go_big_quiet_skip | (go_big_quiet_want; go_big_quiet_op; first | go_big_quiet_on | go_big_quiet_call (first | (go_at_call 75; exact Calls.regrown_of (specItem_any i9 i10 i11 _ L0 _ ((HA.out.h0.later c1).later (below_regrown _ _ _)) hI)) | (go_at_call 76; exact Calls.regrown_of (specShard_b i9 _)))))
      refine wpQuiet_nil ?_
      rintro wq ⟨pq, hwq⟩
      have hq : Below w1.heap.size w1 wq := by rw [hwq]; exact below_regrown _ _ _
      clear hwq pq
      go_wp2_with fail
      go_meet
      exact ⟨by rw [← HIT.out]; simp [hI], hq⟩
    | true =>
      by_cases hp : partOf i9 = i2
      · have hb : (partOf i9 == i2) = true := by simpa using hp
        have HP := hid hp
        clear hp
        refine wp_region_quiet_below (by kernel_rfl) (by kernel_rfl) ?_
        repeat (first | go_big_quiet_skip | (go_big_quiet_want; go_big_quiet_op; first | go_big_quiet_on | go_big_quiet_call (first | (go_at_call 75; exact Calls.regrown_of (specItem_any i9 i10 i11 _ L0 _ ((HA.out.h0.later c1).later (below_regrown _ _ _)) hI)) | (go_at_call 76; exact Calls.regrown_of (specShard_b i9 _)))))
        refine wpQuiet_nil ?_
        rintro wq ⟨pq, hwq⟩
        have hq : Below w1.heap.size w1 wq := by rw [hwq]; exact below_regrown _ _ _
        clear hwq pq
        go_wp2_with fail
        go_meet
        exact ⟨by rw [← HIT.out]; simp [hI, HP.out], hq⟩
      · have hb : (partOf i9 == i2) = false := by simpa using hp
        have HP := hid hp
        clear hp
        refine wp_region_quiet_below (by kernel_rfl) (by kernel_rfl) ?_
        repeat (first | go_big_quiet_skip | (go_big_quiet_want; go_big_quiet_op; first | go_big_quiet_on | go_big_quiet_call (first | (go_at_call 75; exact Calls.regrown_of (specItem_any i9 i10 i11 _ L0 _ ((HA.out.h0.later c1).later (below_regrown _ _ _)) hI)) | (go_at_call 76; exact Calls.regrown_of (specShard_b i9 _)))))
        refine wpQuiet_nil ?_
        rintro wq ⟨pq, hwq⟩
        have hq : Below w1.heap.size w1 wq := by rw [hwq]; exact below_regrown _ _ _
        clear hwq pq
        go_wp2_with fail
        go_meet
        exact ⟨by rw [← HIT.out]; simp [hI, HP.out], hq⟩
  case rest =>
    obtain ⟨rfl, b2⟩ := hcut
    obtain ⟨w2, hw2⟩ : ∃ x, x = wc := ⟨_, rfl⟩
    subst hw2
    have d2 : Below w1.heap.size w1 w2 := (Below.trans (by go_grown) (b2.mono (by first | omega | (simp; done) | (simp; omega))))
    have c2 : Below w.heap.size w w2 := c1.trans (d2.mono c1.size)
    have a0_2 : w2.cell? ⟨w.heap.size, 0, none⟩ = some (.int .i64 9) := (by rw [b2.cell (by first | omega | (simp; done) | (simp; omega))]; go_cell)
    have a1_2 : w2.cell? ⟨w.heap.size, 1, none⟩ = some (.int .i64 i1) := (by rw [b2.cell (by first | omega | (simp; done) | (simp; omega))]; go_cell)
    have a2_2 : w2.cell? ⟨w.heap.size, 2, none⟩ = some (.int .i64 i2) := (by rw [b2.cell (by first | omega | (simp; done) | (simp; omega))]; go_cell)
    have a3_2 : w2.cell? ⟨w.heap.size, 3, none⟩ = some (.int .i64 i3) := (by rw [b2.cell (by first | omega | (simp; done) | (simp; omega))]; go_cell)
    have a4_2 : w2.cell? ⟨w.heap.size, 4, none⟩ = some (.int .i64 i4) := (by rw [b2.cell (by first | omega | (simp; done) | (simp; omega))]; go_cell)
    have a5_2 : w2.cell? ⟨w.heap.size, 5, none⟩ = some (.int .i64 i5) := (by rw [b2.cell (by first | omega | (simp; done) | (simp; omega))]; go_cell)
    have a6_2 : w2.cell? ⟨w.heap.size, 6, none⟩ = some (.int .i64 i6) := (by rw [b2.cell (by first | omega | (simp; done) | (simp; omega))]; go_cell)
    have a7_2 : w2.cell? ⟨w.heap.size, 7, none⟩ = some (.int .i64 i7) := (by rw [b2.cell (by first | omega | (simp; done) | (simp; omega))]; go_cell)
    have a8_2 : w2.cell? ⟨w.heap.size, 8, none⟩ = some (.int .i64 i8) := (by rw [b2.cell (by first | omega | (simp; done) | (simp; omega))]; go_cell)
    have a9_2 : w2.cell? ⟨w.heap.size, 9, none⟩ = some (.int .i64 i9) := (by rw [b2.cell (by first | omega | (simp; done) | (simp; omega))]; go_cell)
    have a10_2 : w2.cell? ⟨w.heap.size, 10, none⟩ = some (.int .i64 i10) := (by rw [b2.cell (by first | omega | (simp; done) | (simp; omega))]; go_cell)
    have a11_2 : w2.cell? ⟨w.heap.size, 11, none⟩ = some (.int .i64 i11) := (by rw [b2.cell (by first | omega | (simp; done) | (simp; omega))]; go_cell)
    have a12_2 : w2.cell? ⟨w.heap.size, 12, none⟩ = some (.slice ao0 L0.length ac0) := (by rw [b2.cell (by first | omega | (simp; done) | (simp; omega))]; go_cell)
    have a13_2 : w2.cell? ⟨w.heap.size, 13, none⟩ = some (.slice ao1 L1.length ac1) := (by rw [b2.cell (by first | omega | (simp; done) | (simp; omega))]; go_cell)
    have a14_2 : w2.cell? ⟨w.heap.size, 14, none⟩ = some (.int .i64 i12) := (by rw [b2.cell (by first | omega | (simp; done) | (simp; omega))]; go_cell)
    have al_2 : w.heap.size < w2.heap.size := (by have := b2.size; first | omega | (revert this; simp; done) | (revert this; simp; omega))
    clear a0_1 a1_1 a2_1 a3_1 a4_1 a5_1 a6_1 a7_1 a8_1 a9_1 a10_1 a11_1 a12_1 a13_1 a14_1 al_1
    clear b2 d2
    go_wp2_with fail
    have qa0 := cell_regrown a0_2
    have qa1 := cell_regrown a1_2
    have qa2 := cell_regrown a2_2
    have qa3 := cell_regrown a3_2
    have qa4 := cell_regrown a4_2
    have qa5 := cell_regrown a5_2
    have qa6 := cell_regrown a6_2
    have qa7 := cell_regrown a7_2
    have qa8 := cell_regrown a8_2
    have qa9 := cell_regrown a9_2
    have qa10 := cell_regrown a10_2
    have qa11 := cell_regrown a11_2
    have qa12 := cell_regrown a12_2
    have qa13 := cell_regrown a13_2
    have qa14 := cell_regrown a14_2
    have CO := fun W => specOpOk_any i5 i6 i7 i8 W
    have CI := fun W h => l6Blank_any i9 i10 i11 (.slice ao0 L0.length ac0) L0 W h
    cases h0 : opOk i5 i6 i7 i8 with
    | false =>
      have H0 : Hid (¬ (opOk i5 i6 i7 i8 = true)) := hid (by simp [h0])
      rw [h0] at CO
      have HV : Hid (bodyM 9 i1 i2 i3 i4 i5 i6 i7 i8 i9 i10 i11 i12 L0 L1 = false) := hid (by rw [Bool.eq_false_iff]; exact fun h => H0.out ((body_9 i1 i2 i3 i4 i5 i6 i7 i8 i9 i10 i11 i12 L0 L1).1 h).1)
      as_aux_lemma =>
        refine wp_region_quiet_below (by kernel_rfl) (by kernel_rfl) ?_
        repeat (first | go_big_quiet_skip | (go_big_quiet_want; go_big_quiet_op; first | go_big_quiet_on | go_big_quiet_call (first | (go_at_call 79; exact Calls.regrown_of (CO _)) | (go_at_call 83; exact Calls.regrown_of (specOther_any i5 i6 i7 i8 _)) | (go_at_call 76; exact Calls.regrown_of (specShard_b _ _)) | (go_at_call 81; exact Calls.regrown_of (CI _ ((HA.out.h0.later c2).later (below_regrown _ _ _)))))))
        refine wpQuiet_nil ?_
        rintro wq ⟨pq, hwq⟩
        have hq : Below w2.heap.size w2 wq := by rw [hwq]; exact below_regrown _ _ _
        clear hwq pq
        go_wp2
        go_ret
        exact ⟨by simp [HV.out], c2.trans (hq.mono c2.size)⟩
    | true =>
      have H0 : Hid (opOk i5 i6 i7 i8 = true) := hid (h0)
      rw [h0] at CO
      clear h0
      by_cases h1 : partOf (opOther i5 i6 i7 i8) = i2
      case neg =>
        have g1 : (partOf (opOther i5 i6 i7 i8) == i2) = false := by first | (simpa using h1) | (simp; omega)
        have H1 := hid h1
        clear h1
        have HV : Hid (bodyM 9 i1 i2 i3 i4 i5 i6 i7 i8 i9 i10 i11 i12 L0 L1 = false) := hid (by rw [Bool.eq_false_iff]; exact fun h => H1.out ((body_9 i1 i2 i3 i4 i5 i6 i7 i8 i9 i10 i11 i12 L0 L1).1 h).2.1)
        as_aux_lemma =>
          refine wp_region_quiet_below (by kernel_rfl) (by kernel_rfl) ?_
          repeat (first | go_big_quiet_skip | (go_big_quiet_want; go_big_quiet_op; first | go_big_quiet_on | go_big_quiet_call (first | (go_at_call 79; exact Calls.regrown_of (CO _)) | (go_at_call 83; exact Calls.regrown_of (specOther_any i5 i6 i7 i8 _)) | (go_at_call 76; exact Calls.regrown_of (specShard_b _ _)) | (go_at_call 81; exact Calls.regrown_of (CI _ ((HA.out.h0.later c2).later (below_regrown _ _ _)))))))
          refine wpQuiet_nil ?_
          rintro wq ⟨pq, hwq⟩
          have hq : Below w2.heap.size w2 wq := by rw [hwq]; exact below_regrown _ _ _
          clear hwq pq
          go_wp2
          go_ret
          exact ⟨by simp [HV.out], c2.trans (hq.mono c2.size)⟩
      have g1 : (partOf (opOther i5 i6 i7 i8) == i2) = true := by first | (simpa using h1) | (simp; omega)
      have H1 := hid h1
      clear h1
      cases h2 : zI i9 i10 i11 L0 with
      | false =>
        have H2 : Hid (¬ (i9 = 0 ∧ i10 = 0 ∧ i11 = 0 ∧ L0 = [])) := hid (of_decide_eq_false h2)
        rw [h2] at CI
        have HV : Hid (bodyM 9 i1 i2 i3 i4 i5 i6 i7 i8 i9 i10 i11 i12 L0 L1 = false) := hid (by rw [Bool.eq_false_iff]; exact fun h => H2.out ((body_9 i1 i2 i3 i4 i5 i6 i7 i8 i9 i10 i11 i12 L0 L1).1 h).2.2.1)
        as_aux_lemma =>
          refine wp_region_quiet_below (by kernel_rfl) (by kernel_rfl) ?_
          repeat (first | go_big_quiet_skip | (go_big_quiet_want; go_big_quiet_op; first | go_big_quiet_on | go_big_quiet_call (first | (go_at_call 79; exact Calls.regrown_of (CO _)) | (go_at_call 83; exact Calls.regrown_of (specOther_any i5 i6 i7 i8 _)) | (go_at_call 76; exact Calls.regrown_of (specShard_b _ _)) | (go_at_call 81; exact Calls.regrown_of (CI _ ((HA.out.h0.later c2).later (below_regrown _ _ _)))))))
          refine wpQuiet_nil ?_
          rintro wq ⟨pq, hwq⟩
          have hq : Below w2.heap.size w2 wq := by rw [hwq]; exact below_regrown _ _ _
          clear hwq pq
          go_wp2
          go_ret
          exact ⟨by simp [HV.out], c2.trans (hq.mono c2.size)⟩
      | true =>
        have H2 : Hid (i9 = 0 ∧ i10 = 0 ∧ i11 = 0 ∧ L0 = []) := hid (of_decide_eq_true h2)
        rw [h2] at CI
        clear h2
        by_cases h3 : L1 = []
        case neg =>
          have g3 : ((L1.length : Int) == 0) = false := by first | (simpa using h3) | (simp; omega)
          have H3 := hid h3
          clear h3
          have HV : Hid (bodyM 9 i1 i2 i3 i4 i5 i6 i7 i8 i9 i10 i11 i12 L0 L1 = false) := hid (by rw [Bool.eq_false_iff]; exact fun h => H3.out ((body_9 i1 i2 i3 i4 i5 i6 i7 i8 i9 i10 i11 i12 L0 L1).1 h).2.2.2.1)
          as_aux_lemma =>
            refine wp_region_quiet_below (by kernel_rfl) (by kernel_rfl) ?_
            repeat (first | go_big_quiet_skip | (go_big_quiet_want; go_big_quiet_op; first | go_big_quiet_on | go_big_quiet_call (first | (go_at_call 79; exact Calls.regrown_of (CO _)) | (go_at_call 83; exact Calls.regrown_of (specOther_any i5 i6 i7 i8 _)) | (go_at_call 76; exact Calls.regrown_of (specShard_b _ _)) | (go_at_call 81; exact Calls.regrown_of (CI _ ((HA.out.h0.later c2).later (below_regrown _ _ _)))))))
            refine wpQuiet_nil ?_
            rintro wq ⟨pq, hwq⟩
            have hq : Below w2.heap.size w2 wq := by rw [hwq]; exact below_regrown _ _ _
            clear hwq pq
            go_wp2
            go_ret
            exact ⟨by simp [HV.out], c2.trans (hq.mono c2.size)⟩
        have g3 : ((L1.length : Int) == 0) = true := by first | (simpa using h3) | (simp; omega)
        have H3 := hid h3
        clear h3
        by_cases h4 : i12 = 0
        case neg =>
          have g4 : (i12 == 0) = false := by first | (simpa using h4) | (simp; omega)
          have H4 := hid h4
          clear h4
          have HV : Hid (bodyM 9 i1 i2 i3 i4 i5 i6 i7 i8 i9 i10 i11 i12 L0 L1 = false) := hid (by rw [Bool.eq_false_iff]; exact fun h => H4.out ((body_9 i1 i2 i3 i4 i5 i6 i7 i8 i9 i10 i11 i12 L0 L1).1 h).2.2.2.2.1)
          as_aux_lemma =>
            refine wp_region_quiet_below (by kernel_rfl) (by kernel_rfl) ?_
            repeat (first | go_big_quiet_skip | (go_big_quiet_want; go_big_quiet_op; first | go_big_quiet_on | go_big_quiet_call (first | (go_at_call 79; exact Calls.regrown_of (CO _)) | (go_at_call 83; exact Calls.regrown_of (specOther_any i5 i6 i7 i8 _)) | (go_at_call 76; exact Calls.regrown_of (specShard_b _ _)) | (go_at_call 81; exact Calls.regrown_of (CI _ ((HA.out.h0.later c2).later (below_regrown _ _ _)))))))
            refine wpQuiet_nil ?_
            rintro wq ⟨pq, hwq⟩
            have hq : Below w2.heap.size w2 wq := by rw [hwq]; exact below_regrown _ _ _
            clear hwq pq
            go_wp2
            go_ret
            exact ⟨by simp [HV.out], c2.trans (hq.mono c2.size)⟩
        have g4 : (i12 == 0) = true := by first | (simpa using h4) | (simp; omega)
        have H4 := hid h4
        clear h4
        by_cases h5 : i1 = 0
        case neg =>
          have g5 : (i1 == 0) = false := by first | (simpa using h5) | (simp; omega)
          have H5 := hid h5
          clear h5
          have HV : Hid (bodyM 9 i1 i2 i3 i4 i5 i6 i7 i8 i9 i10 i11 i12 L0 L1 = false) := hid (by rw [Bool.eq_false_iff]; exact fun h => H5.out ((body_9 i1 i2 i3 i4 i5 i6 i7 i8 i9 i10 i11 i12 L0 L1).1 h).2.2.2.2.2.1)
          as_aux_lemma =>
            refine wp_region_quiet_below (by kernel_rfl) (by kernel_rfl) ?_
            repeat (first | go_big_quiet_skip | (go_big_quiet_want; go_big_quiet_op; first | go_big_quiet_on | go_big_quiet_call (first | (go_at_call 79; exact Calls.regrown_of (CO _)) | (go_at_call 83; exact Calls.regrown_of (specOther_any i5 i6 i7 i8 _)) | (go_at_call 76; exact Calls.regrown_of (specShard_b _ _)) | (go_at_call 81; exact Calls.regrown_of (CI _ ((HA.out.h0.later c2).later (below_regrown _ _ _)))))))
            refine wpQuiet_nil ?_
            rintro wq ⟨pq, hwq⟩
            have hq : Below w2.heap.size w2 wq := by rw [hwq]; exact below_regrown _ _ _
            clear hwq pq
            go_wp2
            go_ret
            exact ⟨by simp [HV.out], c2.trans (hq.mono c2.size)⟩
        have g5 : (i1 == 0) = true := by first | (simpa using h5) | (simp; omega)
        have H5 := hid h5
        clear h5
        by_cases h6 : i3 = 0
        case neg =>
          have g6 : (i3 == 0) = false := by first | (simpa using h6) | (simp; omega)
          have H6 := hid h6
          clear h6
          have HV : Hid (bodyM 9 i1 i2 i3 i4 i5 i6 i7 i8 i9 i10 i11 i12 L0 L1 = false) := hid (by rw [Bool.eq_false_iff]; exact fun h => H6.out ((body_9 i1 i2 i3 i4 i5 i6 i7 i8 i9 i10 i11 i12 L0 L1).1 h).2.2.2.2.2.2.1)
          as_aux_lemma =>
            refine wp_region_quiet_below (by kernel_rfl) (by kernel_rfl) ?_
            repeat (first | go_big_quiet_skip | (go_big_quiet_want; go_big_quiet_op; first | go_big_quiet_on | go_big_quiet_call (first | (go_at_call 79; exact Calls.regrown_of (CO _)) | (go_at_call 83; exact Calls.regrown_of (specOther_any i5 i6 i7 i8 _)) | (go_at_call 76; exact Calls.regrown_of (specShard_b _ _)) | (go_at_call 81; exact Calls.regrown_of (CI _ ((HA.out.h0.later c2).later (below_regrown _ _ _)))))))
            refine wpQuiet_nil ?_
            rintro wq ⟨pq, hwq⟩
            have hq : Below w2.heap.size w2 wq := by rw [hwq]; exact below_regrown _ _ _
            clear hwq pq
            go_wp2
            go_ret
            exact ⟨by simp [HV.out], c2.trans (hq.mono c2.size)⟩
        have g6 : (i3 == 0) = true := by first | (simpa using h6) | (simp; omega)
        have H6 := hid h6
        clear h6
        by_cases h7 : 1 ≤ i4
        case neg =>
          have g7 : decide (i4 ≥ 1) = false := by first | (simpa using h7) | (simp; omega)
          have H7 := hid h7
          clear h7
          have HV : Hid (bodyM 9 i1 i2 i3 i4 i5 i6 i7 i8 i9 i10 i11 i12 L0 L1 = false) := hid (by rw [Bool.eq_false_iff]; exact fun h => H7.out ((body_9 i1 i2 i3 i4 i5 i6 i7 i8 i9 i10 i11 i12 L0 L1).1 h).2.2.2.2.2.2.2)
          as_aux_lemma =>
            refine wp_region_quiet_below (by kernel_rfl) (by kernel_rfl) ?_
            repeat (first | go_big_quiet_skip | (go_big_quiet_want; go_big_quiet_op; first | go_big_quiet_on | go_big_quiet_call (first | (go_at_call 79; exact Calls.regrown_of (CO _)) | (go_at_call 83; exact Calls.regrown_of (specOther_any i5 i6 i7 i8 _)) | (go_at_call 76; exact Calls.regrown_of (specShard_b _ _)) | (go_at_call 81; exact Calls.regrown_of (CI _ ((HA.out.h0.later c2).later (below_regrown _ _ _)))))))
            refine wpQuiet_nil ?_
            rintro wq ⟨pq, hwq⟩
            have hq : Below w2.heap.size w2 wq := by rw [hwq]; exact below_regrown _ _ _
            clear hwq pq
            go_wp2
            go_ret
            exact ⟨by simp [HV.out], c2.trans (hq.mono c2.size)⟩
        have g7 : decide (i4 ≥ 1) = true := by first | (simpa using h7) | (simp; omega)
        have H7 := hid h7
        clear h7
        have HV : Hid (bodyM 9 i1 i2 i3 i4 i5 i6 i7 i8 i9 i10 i11 i12 L0 L1 = true) := hid ((body_9 i1 i2 i3 i4 i5 i6 i7 i8 i9 i10 i11 i12 L0 L1).2 ⟨H0.out, H1.out, H2.out, H3.out, H4.out, H5.out, H6.out, H7.out⟩)
        as_aux_lemma =>
          refine wp_region_quiet_below (by kernel_rfl) (by kernel_rfl) ?_
          repeat (first | go_big_quiet_skip | (go_big_quiet_want; go_big_quiet_op; first | go_big_quiet_on | go_big_quiet_call (first | (go_at_call 79; exact Calls.regrown_of (CO _)) | (go_at_call 83; exact Calls.regrown_of (specOther_any i5 i6 i7 i8 _)) | (go_at_call 76; exact Calls.regrown_of (specShard_b _ _)) | (go_at_call 81; exact Calls.regrown_of (CI _ ((HA.out.h0.later c2).later (below_regrown _ _ _)))))))
          refine wpQuiet_nil ?_
          rintro wq ⟨pq, hwq⟩
          have hq : Below w2.heap.size w2 wq := by rw [hwq]; exact below_regrown _ _ _
          clear hwq pq
          go_wp2
          go_ret
          exact ⟨by simp [HV.out], c2.trans (hq.mono c2.size)⟩

end Go.Proofs.YtfdcnolcjgjfjaaGreatDoor
