/- Parts of what the last text proves: contracts and plain facts. -/
import Derived.Test.YtfdcnolcjgjfjaaGreatDoorUf
import Derived.Test.YtfdcnolcjgjfjaaGreatDoorOq
import Derived.Test.YtfdcnolcjgjfjaaGreatDoorPb
import Derived.Test.YtfdcnolcjgjfjaaGreatDoorLawOOther
import Derived.BigQuiet
import Derived.Deep.Cut
import Derived.Test.YtfdcnolcjgjfjaaGreatDoorRowMOkAll0
import Derived.Test.YtfdcnolcjgjfjaaGreatDoorUd
import Derived.Test.YtfdcnolcjgjfjaaGreatDoorUe
import Derived.Test.YtfdcnolcjgjfjaaGreatDoorMd
import Derived.HandedShaped
import Derived.Handed
import Derived.Shelf.Vars
import Derived.MakeChecks
import Derived.Stop.LaidErr
import Derived.LaidMore
import Derived.OpenVars
import Derived.FnData
import Derived.Test.YtfdcnolcjgjfjaaGreatDoorPl
import Derived.ProofKit
import Derived.Lib.SmallJoins
import Derived.Test.YtfdcnolcjgjfjaaGreatDoorFb
import Derived.Test.YtfdcnolcjgjfjaaGreatDoorSMsg
/- Part: spec.l6Body at some kinds: contracts. Written by a program (gmk.py). -/
namespace Go.Proofs.YtfdcnolcjgjfjaaGreatDoor
open Go.RowKit
attribute [local go_sem ↓] Go.wp_at_zero Go.wp_at_succ

set_option maxRecDepth 100000 in
set_option maxHeartbeats 16000000 in
theorem l6Body_5 (i1 i2 i3 i4 i5 i6 i7 i8 i9 i10 i11 i12 : Int) (va0 va1 : Value) (L0 : List (Int × Int)) (L1 : List KD) (w : World) (ha : RSMsg w va0 va1 L0 L1) :
    Calls Tryz.prog 36 #[.agg #[.int .i64 5, .int .i64 i1, .int .i64 i2, .int .i64 i3, .int .i64 i4, .int .i64 i5, .int .i64 i6, .int .i64 i7, .int .i64 i8, .int .i64 i9, .int .i64 i10, .int .i64 i11, va0, va1, .int .i64 i12]] w fun e w' => e = .returned (.bool (bodyM 5 i1 i2 i3 i4 i5 i6 i7 i8 i9 i10 i11 i12 L0 L1)) ∧ Below w.heap.size w w' := by
  have HA := hid ha
  obtain ⟨ao0, ao1, ac0, ac1, rfl, rfl⟩ := ha.open
  clear ha
  obtain ⟨itv, hit⟩ : ∃ b : Bool, (itR i9 i10 i11 L0 && decide (partOf i9 = i2)) = b := ⟨_, rfl⟩
  have HIT := hid hit
  clear hit
  go_enter Tryz.func36, Tryz.ntmps36
  go_wp2_with fail
  have a0_1 : (w.alloc (.cells #[.int .i64 5, .int .i64 i1, .int .i64 i2, .int .i64 i3, .int .i64 i4, .int .i64 i5, .int .i64 i6, .int .i64 i7, .int .i64 i8, .int .i64 i9, .int .i64 i10, .int .i64 i11, .slice ao0 L0.length ac0, .slice ao1 L1.length ac1, .int .i64 i12] 32)).cell? ⟨w.heap.size, 0, none⟩ = some (.int .i64 5) := by go_cell
  have a1_1 : (w.alloc (.cells #[.int .i64 5, .int .i64 i1, .int .i64 i2, .int .i64 i3, .int .i64 i4, .int .i64 i5, .int .i64 i6, .int .i64 i7, .int .i64 i8, .int .i64 i9, .int .i64 i10, .int .i64 i11, .slice ao0 L0.length ac0, .slice ao1 L1.length ac1, .int .i64 i12] 32)).cell? ⟨w.heap.size, 1, none⟩ = some (.int .i64 i1) := by go_cell
  have a2_1 : (w.alloc (.cells #[.int .i64 5, .int .i64 i1, .int .i64 i2, .int .i64 i3, .int .i64 i4, .int .i64 i5, .int .i64 i6, .int .i64 i7, .int .i64 i8, .int .i64 i9, .int .i64 i10, .int .i64 i11, .slice ao0 L0.length ac0, .slice ao1 L1.length ac1, .int .i64 i12] 32)).cell? ⟨w.heap.size, 2, none⟩ = some (.int .i64 i2) := by go_cell
  have a3_1 : (w.alloc (.cells #[.int .i64 5, .int .i64 i1, .int .i64 i2, .int .i64 i3, .int .i64 i4, .int .i64 i5, .int .i64 i6, .int .i64 i7, .int .i64 i8, .int .i64 i9, .int .i64 i10, .int .i64 i11, .slice ao0 L0.length ac0, .slice ao1 L1.length ac1, .int .i64 i12] 32)).cell? ⟨w.heap.size, 3, none⟩ = some (.int .i64 i3) := by go_cell
  have a4_1 : (w.alloc (.cells #[.int .i64 5, .int .i64 i1, .int .i64 i2, .int .i64 i3, .int .i64 i4, .int .i64 i5, .int .i64 i6, .int .i64 i7, .int .i64 i8, .int .i64 i9, .int .i64 i10, .int .i64 i11, .slice ao0 L0.length ac0, .slice ao1 L1.length ac1, .int .i64 i12] 32)).cell? ⟨w.heap.size, 4, none⟩ = some (.int .i64 i4) := by go_cell
  have a5_1 : (w.alloc (.cells #[.int .i64 5, .int .i64 i1, .int .i64 i2, .int .i64 i3, .int .i64 i4, .int .i64 i5, .int .i64 i6, .int .i64 i7, .int .i64 i8, .int .i64 i9, .int .i64 i10, .int .i64 i11, .slice ao0 L0.length ac0, .slice ao1 L1.length ac1, .int .i64 i12] 32)).cell? ⟨w.heap.size, 5, none⟩ = some (.int .i64 i5) := by go_cell
  have a6_1 : (w.alloc (.cells #[.int .i64 5, .int .i64 i1, .int .i64 i2, .int .i64 i3, .int .i64 i4, .int .i64 i5, .int .i64 i6, .int .i64 i7, .int .i64 i8, .int .i64 i9, .int .i64 i10, .int .i64 i11, .slice ao0 L0.length ac0, .slice ao1 L1.length ac1, .int .i64 i12] 32)).cell? ⟨w.heap.size, 6, none⟩ = some (.int .i64 i6) := by go_cell
  have a7_1 : (w.alloc (.cells #[.int .i64 5, .int .i64 i1, .int .i64 i2, .int .i64 i3, .int .i64 i4, .int .i64 i5, .int .i64 i6, .int .i64 i7, .int .i64 i8, .int .i64 i9, .int .i64 i10, .int .i64 i11, .slice ao0 L0.length ac0, .slice ao1 L1.length ac1, .int .i64 i12] 32)).cell? ⟨w.heap.size, 7, none⟩ = some (.int .i64 i7) := by go_cell
  have a8_1 : (w.alloc (.cells #[.int .i64 5, .int .i64 i1, .int .i64 i2, .int .i64 i3, .int .i64 i4, .int .i64 i5, .int .i64 i6, .int .i64 i7, .int .i64 i8, .int .i64 i9, .int .i64 i10, .int .i64 i11, .slice ao0 L0.length ac0, .slice ao1 L1.length ac1, .int .i64 i12] 32)).cell? ⟨w.heap.size, 8, none⟩ = some (.int .i64 i8) := by go_cell
  have a9_1 : (w.alloc (.cells #[.int .i64 5, .int .i64 i1, .int .i64 i2, .int .i64 i3, .int .i64 i4, .int .i64 i5, .int .i64 i6, .int .i64 i7, .int .i64 i8, .int .i64 i9, .int .i64 i10, .int .i64 i11, .slice ao0 L0.length ac0, .slice ao1 L1.length ac1, .int .i64 i12] 32)).cell? ⟨w.heap.size, 9, none⟩ = some (.int .i64 i9) := by go_cell
  have a10_1 : (w.alloc (.cells #[.int .i64 5, .int .i64 i1, .int .i64 i2, .int .i64 i3, .int .i64 i4, .int .i64 i5, .int .i64 i6, .int .i64 i7, .int .i64 i8, .int .i64 i9, .int .i64 i10, .int .i64 i11, .slice ao0 L0.length ac0, .slice ao1 L1.length ac1, .int .i64 i12] 32)).cell? ⟨w.heap.size, 10, none⟩ = some (.int .i64 i10) := by go_cell
  have a11_1 : (w.alloc (.cells #[.int .i64 5, .int .i64 i1, .int .i64 i2, .int .i64 i3, .int .i64 i4, .int .i64 i5, .int .i64 i6, .int .i64 i7, .int .i64 i8, .int .i64 i9, .int .i64 i10, .int .i64 i11, .slice ao0 L0.length ac0, .slice ao1 L1.length ac1, .int .i64 i12] 32)).cell? ⟨w.heap.size, 11, none⟩ = some (.int .i64 i11) := by go_cell
  have a12_1 : (w.alloc (.cells #[.int .i64 5, .int .i64 i1, .int .i64 i2, .int .i64 i3, .int .i64 i4, .int .i64 i5, .int .i64 i6, .int .i64 i7, .int .i64 i8, .int .i64 i9, .int .i64 i10, .int .i64 i11, .slice ao0 L0.length ac0, .slice ao1 L1.length ac1, .int .i64 i12] 32)).cell? ⟨w.heap.size, 12, none⟩ = some (.slice ao0 L0.length ac0) := by go_cell
  have a13_1 : (w.alloc (.cells #[.int .i64 5, .int .i64 i1, .int .i64 i2, .int .i64 i3, .int .i64 i4, .int .i64 i5, .int .i64 i6, .int .i64 i7, .int .i64 i8, .int .i64 i9, .int .i64 i10, .int .i64 i11, .slice ao0 L0.length ac0, .slice ao1 L1.length ac1, .int .i64 i12] 32)).cell? ⟨w.heap.size, 13, none⟩ = some (.slice ao1 L1.length ac1) := by go_cell
  have a14_1 : (w.alloc (.cells #[.int .i64 5, .int .i64 i1, .int .i64 i2, .int .i64 i3, .int .i64 i4, .int .i64 i5, .int .i64 i6, .int .i64 i7, .int .i64 i8, .int .i64 i9, .int .i64 i10, .int .i64 i11, .slice ao0 L0.length ac0, .slice ao1 L1.length ac1, .int .i64 i12] 32)).cell? ⟨w.heap.size, 14, none⟩ = some (.int .i64 i12) := by go_cell
  have al_1 : w.heap.size < (w.alloc (.cells #[.int .i64 5, .int .i64 i1, .int .i64 i2, .int .i64 i3, .int .i64 i4, .int .i64 i5, .int .i64 i6, .int .i64 i7, .int .i64 i8, .int .i64 i9, .int .i64 i10, .int .i64 i11, .slice ao0 L0.length ac0, .slice ao1 L1.length ac1, .int .i64 i12] 32)).heap.size := by first | (simp; done) | (simp; omega)
  have c1 : Below w.heap.size w (w.alloc (.cells #[.int .i64 5, .int .i64 i1, .int .i64 i2, .int .i64 i3, .int .i64 i4, .int .i64 i5, .int .i64 i6, .int .i64 i7, .int .i64 i8, .int .i64 i9, .int .i64 i10, .int .i64 i11, .slice ao0 L0.length ac0, .slice ao1 L1.length ac1, .int .i64 i12] 32)) := by go_grown
  have s1 : (w.alloc (.cells #[.int .i64 5, .int .i64 i1, .int .i64 i2, .int .i64 i3, .int .i64 i4, .int .i64 i5, .int .i64 i6, .int .i64 i7, .int .i64 i8, .int .i64 i9, .int .i64 i10, .int .i64 i11, .slice ao0 L0.length ac0, .slice ao1 L1.length ac1, .int .i64 i12] 32)).heap.size = w.heap.size + 1 := by simp
  generalize (w.alloc (.cells #[.int .i64 5, .int .i64 i1, .int .i64 i2, .int .i64 i3, .int .i64 i4, .int .i64 i5, .int .i64 i6, .int .i64 i7, .int .i64 i8, .int .i64 i9, .int .i64 i10, .int .i64 i11, .slice ao0 L0.length ac0, .slice ao1 L1.length ac1, .int .i64 i12] 32)) = w1 at a0_1 a1_1 a2_1 a3_1 a4_1 a5_1 a6_1 a7_1 a8_1 a9_1 a10_1 a11_1 a12_1 a13_1 a14_1 al_1 c1 s1 ⊢
  have qa0_1 := cell_regrown a0_1
  have qa1_1 := cell_regrown a1_1
  have qa2_1 := cell_regrown a2_1
  have qa3_1 := cell_regrown a3_1
  have qa4_1 := cell_regrown a4_1
  have qa5_1 := cell_regrown a5_1
  have qa6_1 := cell_regrown a6_1
  have qa7_1 := cell_regrown a7_1
  have qa8_1 := cell_regrown a8_1
  have qa9_1 := cell_regrown a9_1
  have qa10_1 := cell_regrown a10_1
  have qa11_1 := cell_regrown a11_1
  have qa12_1 := cell_regrown a12_1
  have qa13_1 := cell_regrown a13_1
  have qa14_1 := cell_regrown a14_1
  go_cut [3] from 4 (fun s wx => s = .bool itv ∧ Below w1.heap.size w1 wx)
  case first =>
    cases hI : itR i9 i10 i11 L0 with
    | false =>
      refine wp_region_quiet_below (by kernel_rfl) (by kernel_rfl) ?_
      repeat (first | go_big_quiet_skip | (go_big_quiet_want; go_big_quiet_op; first | go_big_quiet_on | go_big_quiet_call (first | (go_at_call 75; exact Calls.regrown_of (specItem_any i9 i10 i11 _ L0 _ ((HA.out.h0.later c1).later (below_regrown _ _ _)) hI)) | (go_at_call 76; exact Calls.regrown_of (specShard_b i9 _)))))
      refine wpQuiet_nil ?_
      rintro wq ⟨pq, hwq⟩
      have hq : Below w1.heap.size w1 wq := by rw [hwq]; exact below_regrown _ _ _
      clear hwq pq
      go_wp2_with fail
      go_meet
      exact ⟨by rw [← HIT.out]; simp [hI], hq⟩
    | true =>
      by_cases hp : partOf i9 = i2
      · have hb : (partOf i9 == i2) = true := by simpa using hp
        have HP := hid hp
        clear hp
        refine wp_region_quiet_below (by kernel_rfl) (by kernel_rfl) ?_
        repeat (first | go_big_quiet_skip | (go_big_quiet_want; go_big_quiet_op; first | go_big_quiet_on | go_big_quiet_call (first | (go_at_call 75; exact Calls.regrown_of (specItem_any i9 i10 i11 _ L0 _ ((HA.out.h0.later c1).later (below_regrown _ _ _)) hI)) | (go_at_call 76; exact Calls.regrown_of (specShard_b i9 _)))))
        refine wpQuiet_nil ?_
        rintro wq ⟨pq, hwq⟩
        have hq : Below w1.heap.size w1 wq := by rw [hwq]; exact below_regrown _ _ _
        clear hwq pq
        go_wp2_with fail
        go_meet
        exact ⟨by rw [← HIT.out]; simp [hI, HP.out], hq⟩
      · have hb : (partOf i9 == i2) = false := by simpa using hp
        have HP := hid hp
        clear hp
        refine wp_region_quiet_below (by kernel_rfl) (by kernel_rfl) ?_
        repeat (first | go_big_quiet_skip | (go_big_quiet_want; go_big_quiet_op; first | go_big_quiet_on | go_big_quiet_call (first | (go_at_call 75; exact Calls.regrown_of (specItem_any i9 i10 i11 _ L0 _ ((HA.out.h0.later c1).later (below_regrown _ _ _)) hI)) | (go_at_call 76; exact Calls.regrown_of (specShard_b i9 _)))))
        refine wpQuiet_nil ?_
        rintro wq ⟨pq, hwq⟩
        have hq : Below w1.heap.size w1 wq := by rw [hwq]; exact below_regrown _ _ _
        clear hwq pq
        go_wp2_with fail
        go_meet
        exact ⟨by rw [← HIT.out]; simp [hI, HP.out], hq⟩
  case rest =>
    obtain ⟨rfl, b2⟩ := hcut
    obtain ⟨w2, hw2⟩ : ∃ x, x = wc := ⟨_, rfl⟩
    subst hw2
    have d2 : Below w1.heap.size w1 w2 := (Below.trans (by go_grown) (b2.mono (by first | omega | (simp; done) | (simp; omega))))
    have c2 : Below w.heap.size w w2 := c1.trans (d2.mono c1.size)
    have a0_2 : w2.cell? ⟨w.heap.size, 0, none⟩ = some (.int .i64 5) := (by rw [b2.cell (by first | omega | (simp; done) | (simp; omega))]; go_cell)
    have a1_2 : w2.cell? ⟨w.heap.size, 1, none⟩ = some (.int .i64 i1) := (by rw [b2.cell (by first | omega | (simp; done) | (simp; omega))]; go_cell)
    have a2_2 : w2.cell? ⟨w.heap.size, 2, none⟩ = some (.int .i64 i2) := (by rw [b2.cell (by first | omega | (simp; done) | (simp; omega))]; go_cell)
    have a3_2 : w2.cell? ⟨w.heap.size, 3, none⟩ = some (.int .i64 i3) := (by rw [b2.cell (by first | omega | (simp; done) | (simp; omega))]; go_cell)
    have a4_2 : w2.cell? ⟨w.heap.size, 4, none⟩ = some (.int .i64 i4) := (by rw [b2.cell (by first | omega | (simp; done) | (simp; omega))]; go_cell)
    have a5_2 : w2.cell? ⟨w.heap.size, 5, none⟩ = some (.int .i64 i5) := (by rw [b2.cell (by first | omega | (simp; done) | (simp; omega))]; go_cell)
    have a6_2 : w2.cell? ⟨w.heap.size, 6, none⟩ = some (.int .i64 i6) := (by rw [b2.cell (by first | omega | (simp; done) | (simp; omega))]; go_cell)
    have a7_2 : w2.cell? ⟨w.heap.size, 7, none⟩ = some (.int .i64 i7) := (by rw [b2.cell (by first | omega | (simp; done) | (simp; omega))]; go_cell)
    have a8_2 : w2.cell? ⟨w.heap.size, 8, none⟩ = some (.int .i64 i8) := (by rw [b2.cell (by first | omega | (simp; done) | (simp; omega))]; go_cell)
    have a9_2 : w2.cell? ⟨w.heap.size, 9, none⟩ = some (.int .i64 i9) := (by rw [b2.cell (by first | omega | (simp; done) | (simp; omega))]; go_cell)
    have a10_2 : w2.cell? ⟨w.heap.size, 10, none⟩ = some (.int .i64 i10) := (by rw [b2.cell (by first | omega | (simp; done) | (simp; omega))]; go_cell)
    have a11_2 : w2.cell? ⟨w.heap.size, 11, none⟩ = some (.int .i64 i11) := (by rw [b2.cell (by first | omega | (simp; done) | (simp; omega))]; go_cell)
    have a12_2 : w2.cell? ⟨w.heap.size, 12, none⟩ = some (.slice ao0 L0.length ac0) := (by rw [b2.cell (by first | omega | (simp; done) | (simp; omega))]; go_cell)
    have a13_2 : w2.cell? ⟨w.heap.size, 13, none⟩ = some (.slice ao1 L1.length ac1) := (by rw [b2.cell (by first | omega | (simp; done) | (simp; omega))]; go_cell)
    have a14_2 : w2.cell? ⟨w.heap.size, 14, none⟩ = some (.int .i64 i12) := (by rw [b2.cell (by first | omega | (simp; done) | (simp; omega))]; go_cell)
    have al_2 : w.heap.size < w2.heap.size := (by have := b2.size; first | omega | (revert this; simp; done) | (revert this; simp; omega))
    clear a0_1 a1_1 a2_1 a3_1 a4_1 a5_1 a6_1 a7_1 a8_1 a9_1 a10_1 a11_1 a12_1 a13_1 a14_1 al_1
    clear b2 d2
    go_wp2_with fail
    refine (l6None_any i5 i6 i7 i8 _).mono ?_
    rintro e w3 ⟨rfl, b3⟩
    have d3 : Below w2.heap.size w2 w3 := (Below.trans (by go_grown) (b3.mono (by first | omega | (simp; done) | (simp; omega))))
    have c3 : Below w.heap.size w w3 := c2.trans (d3.mono c2.size)
    have a0_3 : w3.cell? ⟨w.heap.size, 0, none⟩ = some (.int .i64 5) := (by rw [b3.cell (by first | omega | (simp; done) | (simp; omega))]; go_cell)
    have a1_3 : w3.cell? ⟨w.heap.size, 1, none⟩ = some (.int .i64 i1) := (by rw [b3.cell (by first | omega | (simp; done) | (simp; omega))]; go_cell)
    have a2_3 : w3.cell? ⟨w.heap.size, 2, none⟩ = some (.int .i64 i2) := (by rw [b3.cell (by first | omega | (simp; done) | (simp; omega))]; go_cell)
    have a3_3 : w3.cell? ⟨w.heap.size, 3, none⟩ = some (.int .i64 i3) := (by rw [b3.cell (by first | omega | (simp; done) | (simp; omega))]; go_cell)
    have a4_3 : w3.cell? ⟨w.heap.size, 4, none⟩ = some (.int .i64 i4) := (by rw [b3.cell (by first | omega | (simp; done) | (simp; omega))]; go_cell)
    have a5_3 : w3.cell? ⟨w.heap.size, 5, none⟩ = some (.int .i64 i5) := (by rw [b3.cell (by first | omega | (simp; done) | (simp; omega))]; go_cell)
    have a6_3 : w3.cell? ⟨w.heap.size, 6, none⟩ = some (.int .i64 i6) := (by rw [b3.cell (by first | omega | (simp; done) | (simp; omega))]; go_cell)
    have a7_3 : w3.cell? ⟨w.heap.size, 7, none⟩ = some (.int .i64 i7) := (by rw [b3.cell (by first | omega | (simp; done) | (simp; omega))]; go_cell)
    have a8_3 : w3.cell? ⟨w.heap.size, 8, none⟩ = some (.int .i64 i8) := (by rw [b3.cell (by first | omega | (simp; done) | (simp; omega))]; go_cell)
    have a9_3 : w3.cell? ⟨w.heap.size, 9, none⟩ = some (.int .i64 i9) := (by rw [b3.cell (by first | omega | (simp; done) | (simp; omega))]; go_cell)
    have a10_3 : w3.cell? ⟨w.heap.size, 10, none⟩ = some (.int .i64 i10) := (by rw [b3.cell (by first | omega | (simp; done) | (simp; omega))]; go_cell)
    have a11_3 : w3.cell? ⟨w.heap.size, 11, none⟩ = some (.int .i64 i11) := (by rw [b3.cell (by first | omega | (simp; done) | (simp; omega))]; go_cell)
    have a12_3 : w3.cell? ⟨w.heap.size, 12, none⟩ = some (.slice ao0 L0.length ac0) := (by rw [b3.cell (by first | omega | (simp; done) | (simp; omega))]; go_cell)
    have a13_3 : w3.cell? ⟨w.heap.size, 13, none⟩ = some (.slice ao1 L1.length ac1) := (by rw [b3.cell (by first | omega | (simp; done) | (simp; omega))]; go_cell)
    have a14_3 : w3.cell? ⟨w.heap.size, 14, none⟩ = some (.int .i64 i12) := (by rw [b3.cell (by first | omega | (simp; done) | (simp; omega))]; go_cell)
    have al_3 : w.heap.size < w3.heap.size := (by have := b3.size; first | omega | (revert this; simp; done) | (revert this; simp; omega))
    clear a0_2 a1_2 a2_2 a3_2 a4_2 a5_2 a6_2 a7_2 a8_2 a9_2 a10_2 a11_2 a12_2 a13_2 a14_2 al_2
    clear b3 d3
    cases h0 : zO i5 i6 i7 i8 with
    | false =>
      have H0 : Hid (¬ (i5 = 0 ∧ i6 = 0 ∧ i7 = 0 ∧ i8 = 0)) := hid (of_decide_eq_false h0)
      have HV : Hid (bodyM 5 i1 i2 i3 i4 i5 i6 i7 i8 i9 i10 i11 i12 L0 L1 = false) := hid (by rw [Bool.eq_false_iff]; exact fun h => H0.out ((body_5 i1 i2 i3 i4 i5 i6 i7 i8 i9 i10 i11 i12 L0 L1).1 h).1)
      go_wp2_with fail
      go_ret
      exact ⟨by simp [HV.out], c3⟩
    | true =>
      have H0 : Hid (i5 = 0 ∧ i6 = 0 ∧ i7 = 0 ∧ i8 = 0) := hid (of_decide_eq_true h0)
      clear h0
      cases itv with
      | false =>
        have H1 : Hid (¬ (itR i9 i10 i11 L0 = true ∧ partOf i9 = i2)) := hid (fun h => by have := HIT.out; rw [h.1] at this; simp [h.2] at this)
        have HV : Hid (bodyM 5 i1 i2 i3 i4 i5 i6 i7 i8 i9 i10 i11 i12 L0 L1 = false) := hid (by rw [Bool.eq_false_iff]; exact fun h => H1.out ((body_5 i1 i2 i3 i4 i5 i6 i7 i8 i9 i10 i11 i12 L0 L1).1 h).2.1)
        go_wp2_with fail
        go_ret
        exact ⟨by simp [HV.out], c3⟩
      | true =>
        have H1 : Hid (itR i9 i10 i11 L0 = true ∧ partOf i9 = i2) := hid (by have := HIT.out; simpa using this)
        by_cases h2 : L1 = []
        case neg =>
          have g2 : ((L1.length : Int) == 0) = false := by first | (simpa using h2) | (simp; omega)
          have H2 := hid h2
          clear h2
          have HV : Hid (bodyM 5 i1 i2 i3 i4 i5 i6 i7 i8 i9 i10 i11 i12 L0 L1 = false) := hid (by rw [Bool.eq_false_iff]; exact fun h => H2.out ((body_5 i1 i2 i3 i4 i5 i6 i7 i8 i9 i10 i11 i12 L0 L1).1 h).2.2.1)
          go_wp2_with fail
          go_ret
          exact ⟨by simp [HV.out], c3⟩
        have g2 : ((L1.length : Int) == 0) = true := by first | (simpa using h2) | (simp; omega)
        have H2 := hid h2
        clear h2
        by_cases h3 : i12 = 0
        case neg =>
          have g3 : (i12 == 0) = false := by first | (simpa using h3) | (simp; omega)
          have H3 := hid h3
          clear h3
          have HV : Hid (bodyM 5 i1 i2 i3 i4 i5 i6 i7 i8 i9 i10 i11 i12 L0 L1 = false) := hid (by rw [Bool.eq_false_iff]; exact fun h => H3.out ((body_5 i1 i2 i3 i4 i5 i6 i7 i8 i9 i10 i11 i12 L0 L1).1 h).2.2.2.1)
          go_wp2_with fail
          go_ret
          exact ⟨by simp [HV.out], c3⟩
        have g3 : (i12 == 0) = true := by first | (simpa using h3) | (simp; omega)
        have H3 := hid h3
        clear h3
        by_cases h4 : i3 = 0
        case neg =>
          have g4 : (i3 == 0) = false := by first | (simpa using h4) | (simp; omega)
          have H4 := hid h4
          clear h4
          have HV : Hid (bodyM 5 i1 i2 i3 i4 i5 i6 i7 i8 i9 i10 i11 i12 L0 L1 = false) := hid (by rw [Bool.eq_false_iff]; exact fun h => H4.out ((body_5 i1 i2 i3 i4 i5 i6 i7 i8 i9 i10 i11 i12 L0 L1).1 h).2.2.2.2.1)
          go_wp2_with fail
          go_ret
          exact ⟨by simp [HV.out], c3⟩
        have g4 : (i3 == 0) = true := by first | (simpa using h4) | (simp; omega)
        have H4 := hid h4
        clear h4
        by_cases h5 : i4 = 0
        case neg =>
          have g5 : (i4 == 0) = false := by first | (simpa using h5) | (simp; omega)
          have H5 := hid h5
          clear h5
          have HV : Hid (bodyM 5 i1 i2 i3 i4 i5 i6 i7 i8 i9 i10 i11 i12 L0 L1 = false) := hid (by rw [Bool.eq_false_iff]; exact fun h => H5.out ((body_5 i1 i2 i3 i4 i5 i6 i7 i8 i9 i10 i11 i12 L0 L1).1 h).2.2.2.2.2)
          go_wp2_with fail
          go_ret
          exact ⟨by simp [HV.out], c3⟩
        have g5 : (i4 == 0) = true := by first | (simpa using h5) | (simp; omega)
        have H5 := hid h5
        clear h5
        have HV : Hid (bodyM 5 i1 i2 i3 i4 i5 i6 i7 i8 i9 i10 i11 i12 L0 L1 = true) := hid ((body_5 i1 i2 i3 i4 i5 i6 i7 i8 i9 i10 i11 i12 L0 L1).2 ⟨H0.out, H1.out, H2.out, H3.out, H4.out, H5.out⟩)
        go_wp2_with fail
        go_ret
        exact ⟨by simp [HV.out], c3⟩

set_option maxRecDepth 100000 in
set_option maxHeartbeats 16000000 in
theorem l6Body_7 (i1 i2 i3 i4 i5 i6 i7 i8 i9 i10 i11 i12 : Int) (va0 va1 : Value) (L0 : List (Int × Int)) (L1 : List KD) (w : World) (ha : RSMsg w va0 va1 L0 L1) :
    Calls Tryz.prog 36 #[.agg #[.int .i64 7, .int .i64 i1, .int .i64 i2, .int .i64 i3, .int .i64 i4, .int .i64 i5, .int .i64 i6, .int .i64 i7, .int .i64 i8, .int .i64 i9, .int .i64 i10, .int .i64 i11, va0, va1, .int .i64 i12]] w fun e w' => e = .returned (.bool (bodyM 7 i1 i2 i3 i4 i5 i6 i7 i8 i9 i10 i11 i12 L0 L1)) ∧ Below w.heap.size w w' := by
  have HA := hid ha
  obtain ⟨ao0, ao1, ac0, ac1, rfl, rfl⟩ := ha.open
  clear ha
  obtain ⟨itv, hit⟩ : ∃ b : Bool, (itR i9 i10 i11 L0 && decide (partOf i9 = i2)) = b := ⟨_, rfl⟩
  have HIT := hid hit
  clear hit
  go_enter Tryz.func36, Tryz.ntmps36
  go_wp2_with fail
  have a0_1 : (w.alloc (.cells #[.int .i64 7, .int .i64 i1, .int .i64 i2, .int .i64 i3, .int .i64 i4, .int .i64 i5, .int .i64 i6, .int .i64 i7, .int .i64 i8, .int .i64 i9, .int .i64 i10, .int .i64 i11, .slice ao0 L0.length ac0, .slice ao1 L1.length ac1, .int .i64 i12] 32)).cell? ⟨w.heap.size, 0, none⟩ = some (.int .i64 7) := by go_cell
  have a1_1 : (w.alloc (.cells #[.int .i64 7, .int .i64 i1, .int .i64 i2, .int .i64 i3, .int .i64 i4, .int .i64 i5, .int .i64 i6, .int .i64 i7, .int .i64 i8, .int .i64 i9, .int .i64 i10, .int .i64 i11, .slice ao0 L0.length ac0, .slice ao1 L1.length ac1, .int .i64 i12] 32)).cell? ⟨w.heap.size, 1, none⟩ = some (.int .i64 i1) := by go_cell
  have a2_1 : (w.alloc (.cells #[.int .i64 7, .int .i64 i1, .int .i64 i2, .int .i64 i3, .int .i64 i4, .int .i64 i5, .int .i64 i6, .int .i64 i7, .int .i64 i8, .int .i64 i9, .int .i64 i10, .int .i64 i11, .slice ao0 L0.length ac0, .slice ao1 L1.length ac1, .int .i64 i12] 32)).cell? ⟨w.heap.size, 2, none⟩ = some (.int .i64 i2) := by go_cell
  have a3_1 : (w.alloc (.cells #[.int .i64 7, .int .i64 i1, .int .i64 i2, .int .i64 i3, .int .i64 i4, .int .i64 i5, .int .i64 i6, .int .i64 i7, .int .i64 i8, .int .i64 i9, .int .i64 i10, .int .i64 i11, .slice ao0 L0.length ac0, .slice ao1 L1.length ac1, .int .i64 i12] 32)).cell? ⟨w.heap.size, 3, none⟩ = some (.int .i64 i3) := by go_cell
  have a4_1 : (w.alloc (.cells #[.int .i64 7, .int .i64 i1, .int .i64 i2, .int .i64 i3, .int .i64 i4, .int .i64 i5, .int .i64 i6, .int .i64 i7, .int .i64 i8, .int .i64 i9, .int .i64 i10, .int .i64 i11, .slice ao0 L0.length ac0, .slice ao1 L1.length ac1, .int .i64 i12] 32)).cell? ⟨w.heap.size, 4, none⟩ = some (.int .i64 i4) := by go_cell
  have a5_1 : (w.alloc (.cells #[.int .i64 7, .int .i64 i1, .int .i64 i2, .int .i64 i3, .int .i64 i4, .int .i64 i5, .int .i64 i6, .int .i64 i7, .int .i64 i8, .int .i64 i9, .int .i64 i10, .int .i64 i11, .slice ao0 L0.length ac0, .slice ao1 L1.length ac1, .int .i64 i12] 32)).cell? ⟨w.heap.size, 5, none⟩ = some (.int .i64 i5) := by go_cell
  have a6_1 : (w.alloc (.cells #[.int .i64 7, .int .i64 i1, .int .i64 i2, .int .i64 i3, .int .i64 i4, .int .i64 i5, .int .i64 i6, .int .i64 i7, .int .i64 i8, .int .i64 i9, .int .i64 i10, .int .i64 i11, .slice ao0 L0.length ac0, .slice ao1 L1.length ac1, .int .i64 i12] 32)).cell? ⟨w.heap.size, 6, none⟩ = some (.int .i64 i6) := by go_cell
  have a7_1 : (w.alloc (.cells #[.int .i64 7, .int .i64 i1, .int .i64 i2, .int .i64 i3, .int .i64 i4, .int .i64 i5, .int .i64 i6, .int .i64 i7, .int .i64 i8, .int .i64 i9, .int .i64 i10, .int .i64 i11, .slice ao0 L0.length ac0, .slice ao1 L1.length ac1, .int .i64 i12] 32)).cell? ⟨w.heap.size, 7, none⟩ = some (.int .i64 i7) := by go_cell
  have a8_1 : (w.alloc (.cells #[.int .i64 7, .int .i64 i1, .int .i64 i2, .int .i64 i3, .int .i64 i4, .int .i64 i5, .int .i64 i6, .int .i64 i7, .int .i64 i8, .int .i64 i9, .int .i64 i10, .int .i64 i11, .slice ao0 L0.length ac0, .slice ao1 L1.length ac1, .int .i64 i12] 32)).cell? ⟨w.heap.size, 8, none⟩ = some (.int .i64 i8) := by go_cell
  have a9_1 : (w.alloc (.cells #[.int .i64 7, .int .i64 i1, .int .i64 i2, .int .i64 i3, .int .i64 i4, .int .i64 i5, .int .i64 i6, .int .i64 i7, .int .i64 i8, .int .i64 i9, .int .i64 i10, .int .i64 i11, .slice ao0 L0.length ac0, .slice ao1 L1.length ac1, .int .i64 i12] 32)).cell? ⟨w.heap.size, 9, none⟩ = some (.int .i64 i9) := by go_cell
  have a10_1 : (w.alloc (.cells #[.int .i64 7, .int .i64 i1, .int .i64 i2, .int .i64 i3, .int .i64 i4, .int .i64 i5, .int .i64 i6, .int .i64 i7, .int .i64 i8, .int .i64 i9, .int .i64 i10, .int .i64 i11, .slice ao0 L0.length ac0, .slice ao1 L1.length ac1, .int .i64 i12] 32)).cell? ⟨w.heap.size, 10, none⟩ = some (.int .i64 i10) := by go_cell
  have a11_1 : (w.alloc (.cells #[.int .i64 7, .int .i64 i1, .int .i64 i2, .int .i64 i3, .int .i64 i4, .int .i64 i5, .int .i64 i6, .int .i64 i7, .int .i64 i8, .int .i64 i9, .int .i64 i10, .int .i64 i11, .slice ao0 L0.length ac0, .slice ao1 L1.length ac1, .int .i64 i12] 32)).cell? ⟨w.heap.size, 11, none⟩ = some (.int .i64 i11) := by go_cell
  have a12_1 : (w.alloc (.cells #[.int .i64 7, .int .i64 i1, .int .i64 i2, .int .i64 i3, .int .i64 i4, .int .i64 i5, .int .i64 i6, .int .i64 i7, .int .i64 i8, .int .i64 i9, .int .i64 i10, .int .i64 i11, .slice ao0 L0.length ac0, .slice ao1 L1.length ac1, .int .i64 i12] 32)).cell? ⟨w.heap.size, 12, none⟩ = some (.slice ao0 L0.length ac0) := by go_cell
  have a13_1 : (w.alloc (.cells #[.int .i64 7, .int .i64 i1, .int .i64 i2, .int .i64 i3, .int .i64 i4, .int .i64 i5, .int .i64 i6, .int .i64 i7, .int .i64 i8, .int .i64 i9, .int .i64 i10, .int .i64 i11, .slice ao0 L0.length ac0, .slice ao1 L1.length ac1, .int .i64 i12] 32)).cell? ⟨w.heap.size, 13, none⟩ = some (.slice ao1 L1.length ac1) := by go_cell
  have a14_1 : (w.alloc (.cells #[.int .i64 7, .int .i64 i1, .int .i64 i2, .int .i64 i3, .int .i64 i4, .int .i64 i5, .int .i64 i6, .int .i64 i7, .int .i64 i8, .int .i64 i9, .int .i64 i10, .int .i64 i11, .slice ao0 L0.length ac0, .slice ao1 L1.length ac1, .int .i64 i12] 32)).cell? ⟨w.heap.size, 14, none⟩ = some (.int .i64 i12) := by go_cell
  have al_1 : w.heap.size < (w.alloc (.cells #[.int .i64 7, .int .i64 i1, .int .i64 i2, .int .i64 i3, .int .i64 i4, .int .i64 i5, .int .i64 i6, .int .i64 i7, .int .i64 i8, .int .i64 i9, .int .i64 i10, .int .i64 i11, .slice ao0 L0.length ac0, .slice ao1 L1.length ac1, .int .i64 i12] 32)).heap.size := by first | (simp; done) | (simp; omega)
  have c1 : Below w.heap.size w (w.alloc (.cells #[.int .i64 7, .int .i64 i1, .int .i64 i2, .int .i64 i3, .int .i64 i4, .int .i64 i5, .int .i64 i6, .int .i64 i7, .int .i64 i8, .int .i64 i9, .int .i64 i10, .int .i64 i11, .slice ao0 L0.length ac0, .slice ao1 L1.length ac1, .int .i64 i12] 32)) := by go_grown
  have s1 : (w.alloc (.cells #[.int .i64 7, .int .i64 i1, .int .i64 i2, .int .i64 i3, .int .i64 i4, .int .i64 i5, .int .i64 i6, .int .i64 i7, .int .i64 i8, .int .i64 i9, .int .i64 i10, .int .i64 i11, .slice ao0 L0.length ac0, .slice ao1 L1.length ac1, .int .i64 i12] 32)).heap.size = w.heap.size + 1 := by simp
  generalize (w.alloc (.cells #[.int .i64 7, .int .i64 i1, .int .i64 i2, .int .i64 i3, .int .i64 i4, .int .i64 i5, .int .i64 i6, .int .i64 i7, .int .i64 i8, .int .i64 i9, .int .i64 i10, .int .i64 i11, .slice ao0 L0.length ac0, .slice ao1 L1.length ac1, .int .i64 i12] 32)) = w1 at a0_1 a1_1 a2_1 a3_1 a4_1 a5_1 a6_1 a7_1 a8_1 a9_1 a10_1 a11_1 a12_1 a13_1 a14_1 al_1 c1 s1 ⊢
  have qa0_1 := cell_regrown a0_1
  have qa1_1 := cell_regrown a1_1
  have qa2_1 := cell_regrown a2_1
  have qa3_1 := cell_regrown a3_1
  have qa4_1 := cell_regrown a4_1
  have qa5_1 := cell_regrown a5_1
  have qa6_1 := cell_regrown a6_1
  have qa7_1 := cell_regrown a7_1
  have qa8_1 := cell_regrown a8_1
  have qa9_1 := cell_regrown a9_1
  have qa10_1 := cell_regrown a10_1
  have qa11_1 := cell_regrown a11_1
  have qa12_1 := cell_regrown a12_1
  have qa13_1 := cell_regrown a13_1
  have qa14_1 := cell_regrown a14_1
  go_cut [3] from 4 (fun s wx => s = .bool itv ∧ Below w1.heap.size w1 wx)
  case first =>
    cases hI : itR i9 i10 i11 L0 with
    | false =>
      refine wp_region_quiet_below (by kernel_rfl) (by kernel_rfl) ?_
      repeat (first | go_big_quiet_skip | (go_big_quiet_want; go_big_quiet_op; first | go_big_quiet_on | go_big_quiet_call (first | (go_at_call 75; exact Calls.regrown_of (specItem_any i9 i10 i11 _ L0 _ ((HA.out.h0.later c1).later (below_regrown _ _ _)) hI)) | (go_at_call 76; exact Calls.regrown_of (specShard_b i9 _)))))
      refine wpQuiet_nil ?_
      rintro wq ⟨pq, hwq⟩
      have hq : Below w1.heap.size w1 wq := by rw [hwq]; exact below_regrown _ _ _
      clear hwq pq
      go_wp2_with fail
      go_meet
      exact ⟨by rw [← HIT.out]; simp [hI], hq⟩
    | true =>
      by_cases hp : partOf i9 = i2
      · have hb : (partOf i9 == i2) = true := by simpa using hp
        have HP := hid hp
        clear hp
        refine wp_region_quiet_below (by kernel_rfl) (by kernel_rfl) ?_
        repeat (first | go_big_quiet_skip | (go_big_quiet_want; go_big_quiet_op; first | go_big_quiet_on | go_big_quiet_call (first | (go_at_call 75; exact Calls.regrown_of (specItem_any i9 i10 i11 _ L0 _ ((HA.out.h0.later c1).later (below_regrown _ _ _)) hI)) | (go_at_call 76; exact Calls.regrown_of (specShard_b i9 _)))))
        refine wpQuiet_nil ?_
        rintro wq ⟨pq, hwq⟩
        have hq : Below w1.heap.size w1 wq := by rw [hwq]; exact below_regrown _ _ _
        clear hwq pq
        go_wp2_with fail
        go_meet
        exact ⟨by rw [← HIT.out]; simp [hI, HP.out], hq⟩
      · have hb : (partOf i9 == i2) = false := by simpa using hp
        have HP := hid hp
        clear hp
        refine wp_region_quiet_below (by kernel_rfl) (by kernel_rfl) ?_
        repeat (first | go_big_quiet_skip | (go_big_quiet_want; go_big_quiet_op; first | go_big_quiet_on | go_big_quiet_call (first | (go_at_call 75; exact Calls.regrown_of (specItem_any i9 i10 i11 _ L0 _ ((HA.out.h0.later c1).later (below_regrown _ _ _)) hI)) | (go_at_call 76; exact Calls.regrown_of (specShard_b i9 _)))))
        refine wpQuiet_nil ?_
        rintro wq ⟨pq, hwq⟩
        have hq : Below w1.heap.size w1 wq := by rw [hwq]; exact below_regrown _ _ _
        clear hwq pq
        go_wp2_with fail
        go_meet
        exact ⟨by rw [← HIT.out]; simp [hI, HP.out], hq⟩
  case rest =>
    obtain ⟨rfl, b2⟩ := hcut
    obtain ⟨w2, hw2⟩ : ∃ x, x = wc := ⟨_, rfl⟩
    subst hw2
    have d2 : Below w1.heap.size w1 w2 := (Below.trans (by go_grown) (b2.mono (by first | omega | (simp; done) | (simp; omega))))
    have c2 : Below w.heap.size w w2 := c1.trans (d2.mono c1.size)
    have a0_2 : w2.cell? ⟨w.heap.size, 0, none⟩ = some (.int .i64 7) := (by rw [b2.cell (by first | omega | (simp; done) | (simp; omega))]; go_cell)
    have a1_2 : w2.cell? ⟨w.heap.size, 1, none⟩ = some (.int .i64 i1) := (by rw [b2.cell (by first | omega | (simp; done) | (simp; omega))]; go_cell)
    have a2_2 : w2.cell? ⟨w.heap.size, 2, none⟩ = some (.int .i64 i2) := (by rw [b2.cell (by first | omega | (simp; done) | (simp; omega))]; go_cell)
    have a3_2 : w2.cell? ⟨w.heap.size, 3, none⟩ = some (.int .i64 i3) := (by rw [b2.cell (by first | omega | (simp; done) | (simp; omega))]; go_cell)
    have a4_2 : w2.cell? ⟨w.heap.size, 4, none⟩ = some (.int .i64 i4) := (by rw [b2.cell (by first | omega | (simp; done) | (simp; omega))]; go_cell)
    have a5_2 : w2.cell? ⟨w.heap.size, 5, none⟩ = some (.int .i64 i5) := (by rw [b2.cell (by first | omega | (simp; done) | (simp; omega))]; go_cell)
    have a6_2 : w2.cell? ⟨w.heap.size, 6, none⟩ = some (.int .i64 i6) := (by rw [b2.cell (by first | omega | (simp; done) | (simp; omega))]; go_cell)
    have a7_2 : w2.cell? ⟨w.heap.size, 7, none⟩ = some (.int .i64 i7) := (by rw [b2.cell (by first | omega | (simp; done) | (simp; omega))]; go_cell)
    have a8_2 : w2.cell? ⟨w.heap.size, 8, none⟩ = some (.int .i64 i8) := (by rw [b2.cell (by first | omega | (simp; done) | (simp; omega))]; go_cell)
    have a9_2 : w2.cell? ⟨w.heap.size, 9, none⟩ = some (.int .i64 i9) := (by rw [b2.cell (by first | omega | (simp; done) | (simp; omega))]; go_cell)
    have a10_2 : w2.cell? ⟨w.heap.size, 10, none⟩ = some (.int .i64 i10) := (by rw [b2.cell (by first | omega | (simp; done) | (simp; omega))]; go_cell)
    have a11_2 : w2.cell? ⟨w.heap.size, 11, none⟩ = some (.int .i64 i11) := (by rw [b2.cell (by first | omega | (simp; done) | (simp; omega))]; go_cell)
    have a12_2 : w2.cell? ⟨w.heap.size, 12, none⟩ = some (.slice ao0 L0.length ac0) := (by rw [b2.cell (by first | omega | (simp; done) | (simp; omega))]; go_cell)
    have a13_2 : w2.cell? ⟨w.heap.size, 13, none⟩ = some (.slice ao1 L1.length ac1) := (by rw [b2.cell (by first | omega | (simp; done) | (simp; omega))]; go_cell)
    have a14_2 : w2.cell? ⟨w.heap.size, 14, none⟩ = some (.int .i64 i12) := (by rw [b2.cell (by first | omega | (simp; done) | (simp; omega))]; go_cell)
    have al_2 : w.heap.size < w2.heap.size := (by have := b2.size; first | omega | (revert this; simp; done) | (revert this; simp; omega))
    clear a0_1 a1_1 a2_1 a3_1 a4_1 a5_1 a6_1 a7_1 a8_1 a9_1 a10_1 a11_1 a12_1 a13_1 a14_1 al_1
    clear b2 d2
    go_wp2_with fail
    refine (l6None_any i5 i6 i7 i8 _).mono ?_
    rintro e w3 ⟨rfl, b3⟩
    have d3 : Below w2.heap.size w2 w3 := (Below.trans (by go_grown) (b3.mono (by first | omega | (simp; done) | (simp; omega))))
    have c3 : Below w.heap.size w w3 := c2.trans (d3.mono c2.size)
    have a0_3 : w3.cell? ⟨w.heap.size, 0, none⟩ = some (.int .i64 7) := (by rw [b3.cell (by first | omega | (simp; done) | (simp; omega))]; go_cell)
    have a1_3 : w3.cell? ⟨w.heap.size, 1, none⟩ = some (.int .i64 i1) := (by rw [b3.cell (by first | omega | (simp; done) | (simp; omega))]; go_cell)
    have a2_3 : w3.cell? ⟨w.heap.size, 2, none⟩ = some (.int .i64 i2) := (by rw [b3.cell (by first | omega | (simp; done) | (simp; omega))]; go_cell)
    have a3_3 : w3.cell? ⟨w.heap.size, 3, none⟩ = some (.int .i64 i3) := (by rw [b3.cell (by first | omega | (simp; done) | (simp; omega))]; go_cell)
    have a4_3 : w3.cell? ⟨w.heap.size, 4, none⟩ = some (.int .i64 i4) := (by rw [b3.cell (by first | omega | (simp; done) | (simp; omega))]; go_cell)
    have a5_3 : w3.cell? ⟨w.heap.size, 5, none⟩ = some (.int .i64 i5) := (by rw [b3.cell (by first | omega | (simp; done) | (simp; omega))]; go_cell)
    have a6_3 : w3.cell? ⟨w.heap.size, 6, none⟩ = some (.int .i64 i6) := (by rw [b3.cell (by first | omega | (simp; done) | (simp; omega))]; go_cell)
    have a7_3 : w3.cell? ⟨w.heap.size, 7, none⟩ = some (.int .i64 i7) := (by rw [b3.cell (by first | omega | (simp; done) | (simp; omega))]; go_cell)
    have a8_3 : w3.cell? ⟨w.heap.size, 8, none⟩ = some (.int .i64 i8) := (by rw [b3.cell (by first | omega | (simp; done) | (simp; omega))]; go_cell)
    have a9_3 : w3.cell? ⟨w.heap.size, 9, none⟩ = some (.int .i64 i9) := (by rw [b3.cell (by first | omega | (simp; done) | (simp; omega))]; go_cell)
    have a10_3 : w3.cell? ⟨w.heap.size, 10, none⟩ = some (.int .i64 i10) := (by rw [b3.cell (by first | omega | (simp; done) | (simp; omega))]; go_cell)
    have a11_3 : w3.cell? ⟨w.heap.size, 11, none⟩ = some (.int .i64 i11) := (by rw [b3.cell (by first | omega | (simp; done) | (simp; omega))]; go_cell)
    have a12_3 : w3.cell? ⟨w.heap.size, 12, none⟩ = some (.slice ao0 L0.length ac0) := (by rw [b3.cell (by first | omega | (simp; done) | (simp; omega))]; go_cell)
    have a13_3 : w3.cell? ⟨w.heap.size, 13, none⟩ = some (.slice ao1 L1.length ac1) := (by rw [b3.cell (by first | omega | (simp; done) | (simp; omega))]; go_cell)
    have a14_3 : w3.cell? ⟨w.heap.size, 14, none⟩ = some (.int .i64 i12) := (by rw [b3.cell (by first | omega | (simp; done) | (simp; omega))]; go_cell)
    have al_3 : w.heap.size < w3.heap.size := (by have := b3.size; first | omega | (revert this; simp; done) | (revert this; simp; omega))
    clear a0_2 a1_2 a2_2 a3_2 a4_2 a5_2 a6_2 a7_2 a8_2 a9_2 a10_2 a11_2 a12_2 a13_2 a14_2 al_2
    clear b3 d3
    cases h0 : zO i5 i6 i7 i8 with
    | false =>
      have H0 : Hid (¬ (i5 = 0 ∧ i6 = 0 ∧ i7 = 0 ∧ i8 = 0)) := hid (of_decide_eq_false h0)
      have HV : Hid (bodyM 7 i1 i2 i3 i4 i5 i6 i7 i8 i9 i10 i11 i12 L0 L1 = false) := hid (by rw [Bool.eq_false_iff]; exact fun h => H0.out ((body_7 i1 i2 i3 i4 i5 i6 i7 i8 i9 i10 i11 i12 L0 L1).1 h).1)
      go_wp2_with fail
      go_ret
      exact ⟨by simp [HV.out], c3⟩
    | true =>
      have H0 : Hid (i5 = 0 ∧ i6 = 0 ∧ i7 = 0 ∧ i8 = 0) := hid (of_decide_eq_true h0)
      clear h0
      go_wp2_with fail
      refine (l6Blank_any i9 i10 i11 _ L0 _ (HA.out.h0.later c3)).mono ?_
      rintro e w4 ⟨rfl, b4⟩
      have d4 : Below w3.heap.size w3 w4 := (Below.trans (by go_grown) (b4.mono (by first | omega | (simp; done) | (simp; omega))))
      have c4 : Below w.heap.size w w4 := c3.trans (d4.mono c3.size)
      have a0_4 : w4.cell? ⟨w.heap.size, 0, none⟩ = some (.int .i64 7) := (by rw [b4.cell (by first | omega | (simp; done) | (simp; omega))]; go_cell)
      have a1_4 : w4.cell? ⟨w.heap.size, 1, none⟩ = some (.int .i64 i1) := (by rw [b4.cell (by first | omega | (simp; done) | (simp; omega))]; go_cell)
      have a2_4 : w4.cell? ⟨w.heap.size, 2, none⟩ = some (.int .i64 i2) := (by rw [b4.cell (by first | omega | (simp; done) | (simp; omega))]; go_cell)
      have a3_4 : w4.cell? ⟨w.heap.size, 3, none⟩ = some (.int .i64 i3) := (by rw [b4.cell (by first | omega | (simp; done) | (simp; omega))]; go_cell)
      have a4_4 : w4.cell? ⟨w.heap.size, 4, none⟩ = some (.int .i64 i4) := (by rw [b4.cell (by first | omega | (simp; done) | (simp; omega))]; go_cell)
      have a5_4 : w4.cell? ⟨w.heap.size, 5, none⟩ = some (.int .i64 i5) := (by rw [b4.cell (by first | omega | (simp; done) | (simp; omega))]; go_cell)
      have a6_4 : w4.cell? ⟨w.heap.size, 6, none⟩ = some (.int .i64 i6) := (by rw [b4.cell (by first | omega | (simp; done) | (simp; omega))]; go_cell)
      have a7_4 : w4.cell? ⟨w.heap.size, 7, none⟩ = some (.int .i64 i7) := (by rw [b4.cell (by first | omega | (simp; done) | (simp; omega))]; go_cell)
      have a8_4 : w4.cell? ⟨w.heap.size, 8, none⟩ = some (.int .i64 i8) := (by rw [b4.cell (by first | omega | (simp; done) | (simp; omega))]; go_cell)
      have a9_4 : w4.cell? ⟨w.heap.size, 9, none⟩ = some (.int .i64 i9) := (by rw [b4.cell (by first | omega | (simp; done) | (simp; omega))]; go_cell)
      have a10_4 : w4.cell? ⟨w.heap.size, 10, none⟩ = some (.int .i64 i10) := (by rw [b4.cell (by first | omega | (simp; done) | (simp; omega))]; go_cell)
      have a11_4 : w4.cell? ⟨w.heap.size, 11, none⟩ = some (.int .i64 i11) := (by rw [b4.cell (by first | omega | (simp; done) | (simp; omega))]; go_cell)
      have a12_4 : w4.cell? ⟨w.heap.size, 12, none⟩ = some (.slice ao0 L0.length ac0) := (by rw [b4.cell (by first | omega | (simp; done) | (simp; omega))]; go_cell)
      have a13_4 : w4.cell? ⟨w.heap.size, 13, none⟩ = some (.slice ao1 L1.length ac1) := (by rw [b4.cell (by first | omega | (simp; done) | (simp; omega))]; go_cell)
      have a14_4 : w4.cell? ⟨w.heap.size, 14, none⟩ = some (.int .i64 i12) := (by rw [b4.cell (by first | omega | (simp; done) | (simp; omega))]; go_cell)
      have al_4 : w.heap.size < w4.heap.size := (by have := b4.size; first | omega | (revert this; simp; done) | (revert this; simp; omega))
      clear a0_3 a1_3 a2_3 a3_3 a4_3 a5_3 a6_3 a7_3 a8_3 a9_3 a10_3 a11_3 a12_3 a13_3 a14_3 al_3
      clear b4 d4
      cases h1 : zI i9 i10 i11 L0 with
      | false =>
        have H1 : Hid (¬ (i9 = 0 ∧ i10 = 0 ∧ i11 = 0 ∧ L0 = [])) := hid (of_decide_eq_false h1)
        have HV : Hid (bodyM 7 i1 i2 i3 i4 i5 i6 i7 i8 i9 i10 i11 i12 L0 L1 = false) := hid (by rw [Bool.eq_false_iff]; exact fun h => H1.out ((body_7 i1 i2 i3 i4 i5 i6 i7 i8 i9 i10 i11 i12 L0 L1).1 h).2.1)
        go_wp2_with fail
        go_ret
        exact ⟨by simp [HV.out], c4⟩
      | true =>
        have H1 : Hid (i9 = 0 ∧ i10 = 0 ∧ i11 = 0 ∧ L0 = []) := hid (of_decide_eq_true h1)
        clear h1
        by_cases h2 : L1 = []
        case neg =>
          have g2 : ((L1.length : Int) == 0) = false := by first | (simpa using h2) | (simp; omega)
          have H2 := hid h2
          clear h2
          have HV : Hid (bodyM 7 i1 i2 i3 i4 i5 i6 i7 i8 i9 i10 i11 i12 L0 L1 = false) := hid (by rw [Bool.eq_false_iff]; exact fun h => H2.out ((body_7 i1 i2 i3 i4 i5 i6 i7 i8 i9 i10 i11 i12 L0 L1).1 h).2.2.1)
          go_wp2_with fail
          go_ret
          exact ⟨by simp [HV.out], c4⟩
        have g2 : ((L1.length : Int) == 0) = true := by first | (simpa using h2) | (simp; omega)
        have H2 := hid h2
        clear h2
        by_cases h3 : i12 = 0
        case neg =>
          have g3 : (i12 == 0) = false := by first | (simpa using h3) | (simp; omega)
          have H3 := hid h3
          clear h3
          have HV : Hid (bodyM 7 i1 i2 i3 i4 i5 i6 i7 i8 i9 i10 i11 i12 L0 L1 = false) := hid (by rw [Bool.eq_false_iff]; exact fun h => H3.out ((body_7 i1 i2 i3 i4 i5 i6 i7 i8 i9 i10 i11 i12 L0 L1).1 h).2.2.2.1)
          go_wp2_with fail
          go_ret
          exact ⟨by simp [HV.out], c4⟩
        have g3 : (i12 == 0) = true := by first | (simpa using h3) | (simp; omega)
        have H3 := hid h3
        clear h3
        by_cases h4 : i4 = 0
        case neg =>
          have g4 : (i4 == 0) = false := by first | (simpa using h4) | (simp; omega)
          have H4 := hid h4
          clear h4
          have HV : Hid (bodyM 7 i1 i2 i3 i4 i5 i6 i7 i8 i9 i10 i11 i12 L0 L1 = false) := hid (by rw [Bool.eq_false_iff]; exact fun h => H4.out ((body_7 i1 i2 i3 i4 i5 i6 i7 i8 i9 i10 i11 i12 L0 L1).1 h).2.2.2.2)
          go_wp2_with fail
          go_ret
          exact ⟨by simp [HV.out], c4⟩
        have g4 : (i4 == 0) = true := by first | (simpa using h4) | (simp; omega)
        have H4 := hid h4
        clear h4
        have HV : Hid (bodyM 7 i1 i2 i3 i4 i5 i6 i7 i8 i9 i10 i11 i12 L0 L1 = true) := hid ((body_7 i1 i2 i3 i4 i5 i6 i7 i8 i9 i10 i11 i12 L0 L1).2 ⟨H0.out, H1.out, H2.out, H3.out, H4.out⟩)
        go_wp2_with fail
        go_ret
        exact ⟨by simp [HV.out], c4⟩

set_option maxRecDepth 100000 in
set_option maxHeartbeats 16000000 in
theorem l6Body_8 (i1 i2 i3 i4 i5 i6 i7 i8 i9 i10 i11 i12 : Int) (va0 va1 : Value) (L0 : List (Int × Int)) (L1 : List KD) (w : World) (ha : RSMsg w va0 va1 L0 L1) :
    Calls Tryz.prog 36 #[.agg #[.int .i64 8, .int .i64 i1, .int .i64 i2, .int .i64 i3, .int .i64 i4, .int .i64 i5, .int .i64 i6, .int .i64 i7, .int .i64 i8, .int .i64 i9, .int .i64 i10, .int .i64 i11, va0, va1, .int .i64 i12]] w fun e w' => e = .returned (.bool (bodyM 8 i1 i2 i3 i4 i5 i6 i7 i8 i9 i10 i11 i12 L0 L1)) ∧ Below w.heap.size w w' := by
  have HA := hid ha
  obtain ⟨ao0, ao1, ac0, ac1, rfl, rfl⟩ := ha.open
  clear ha
  obtain ⟨itv, hit⟩ : ∃ b : Bool, (itR i9 i10 i11 L0 && decide (partOf i9 = i2)) = b := ⟨_, rfl⟩
  have HIT := hid hit
  clear hit
  go_enter Tryz.func36, Tryz.ntmps36
  go_wp2_with fail
  have a0_1 : (w.alloc (.cells #[.int .i64 8, .int .i64 i1, .int .i64 i2, .int .i64 i3, .int .i64 i4, .int .i64 i5, .int .i64 i6, .int .i64 i7, .int .i64 i8, .int .i64 i9, .int .i64 i10, .int .i64 i11, .slice ao0 L0.length ac0, .slice ao1 L1.length ac1, .int .i64 i12] 32)).cell? ⟨w.heap.size, 0, none⟩ = some (.int .i64 8) := by go_cell
  have a1_1 : (w.alloc (.cells #[.int .i64 8, .int .i64 i1, .int .i64 i2, .int .i64 i3, .int .i64 i4, .int .i64 i5, .int .i64 i6, .int .i64 i7, .int .i64 i8, .int .i64 i9, .int .i64 i10, .int .i64 i11, .slice ao0 L0.length ac0, .slice ao1 L1.length ac1, .int .i64 i12] 32)).cell? ⟨w.heap.size, 1, none⟩ = some (.int .i64 i1) := by go_cell
  have a2_1 : (w.alloc (.cells #[.int .i64 8, .int .i64 i1, .int .i64 i2, .int .i64 i3, .int .i64 i4, .int .i64 i5, .int .i64 i6, .int .i64 i7, .int .i64 i8, .int .i64 i9, .int .i64 i10, .int .i64 i11, .slice ao0 L0.length ac0, .slice ao1 L1.length ac1, .int .i64 i12] 32)).cell? ⟨w.heap.size, 2, none⟩ = some (.int .i64 i2) := by go_cell
  have a3_1 : (w.alloc (.cells #[.int .i64 8, .int .i64 i1, .int .i64 i2, .int .i64 i3, .int .i64 i4, .int .i64 i5, .int .i64 i6, .int .i64 i7, .int .i64 i8, .int .i64 i9, .int .i64 i10, .int .i64 i11, .slice ao0 L0.length ac0, .slice ao1 L1.length ac1, .int .i64 i12] 32)).cell? ⟨w.heap.size, 3, none⟩ = some (.int .i64 i3) := by go_cell
  have a4_1 : (w.alloc (.cells #[.int .i64 8, .int .i64 i1, .int .i64 i2, .int .i64 i3, .int .i64 i4, .int .i64 i5, .int .i64 i6, .int .i64 i7, .int .i64 i8, .int .i64 i9, .int .i64 i10, .int .i64 i11, .slice ao0 L0.length ac0, .slice ao1 L1.length ac1, .int .i64 i12] 32)).cell? ⟨w.heap.size, 4, none⟩ = some (.int .i64 i4) := by go_cell
  have a5_1 : (w.alloc (.cells #[.int .i64 8, .int .i64 i1, .int .i64 i2, .int .i64 i3, .int .i64 i4, .int .i64 i5, .int .i64 i6, .int .i64 i7, .int .i64 i8, .int .i64 i9, .int .i64 i10, .int .i64 i11, .slice ao0 L0.length ac0, .slice ao1 L1.length ac1, .int .i64 i12] 32)).cell? ⟨w.heap.size, 5, none⟩ = some (.int .i64 i5) := by go_cell
  have a6_1 : (w.alloc (.cells #[.int .i64 8, .int .i64 i1, .int .i64 i2, .int .i64 i3, .int .i64 i4, .int .i64 i5, .int .i64 i6, .int .i64 i7, .int .i64 i8, .int .i64 i9, .int .i64 i10, .int .i64 i11, .slice ao0 L0.length ac0, .slice ao1 L1.length ac1, .int .i64 i12] 32)).cell? ⟨w.heap.size, 6, none⟩ = some (.int .i64 i6) := by go_cell
  have a7_1 : (w.alloc (.cells #[.int .i64 8, .int .i64 i1, .int .i64 i2, .int .i64 i3, .int .i64 i4, .int .i64 i5, .int .i64 i6, .int .i64 i7, .int .i64 i8, .int .i64 i9, .int .i64 i10, .int .i64 i11, .slice ao0 L0.length ac0, .slice ao1 L1.length ac1, .int .i64 i12] 32)).cell? ⟨w.heap.size, 7, none⟩ = some (.int .i64 i7) := by go_cell
  have a8_1 : (w.alloc (.cells #[.int .i64 8, .int .i64 i1, .int .i64 i2, .int .i64 i3, .int .i64 i4, .int .i64 i5, .int .i64 i6, .int .i64 i7, .int .i64 i8, .int .i64 i9, .int .i64 i10, .int .i64 i11, .slice ao0 L0.length ac0, .slice ao1 L1.length ac1, .int .i64 i12] 32)).cell? ⟨w.heap.size, 8, none⟩ = some (.int .i64 i8) := by go_cell
  have a9_1 : (w.alloc (.cells #[.int .i64 8, .int .i64 i1, .int .i64 i2, .int .i64 i3, .int .i64 i4, .int .i64 i5, .int .i64 i6, .int .i64 i7, .int .i64 i8, .int .i64 i9, .int .i64 i10, .int .i64 i11, .slice ao0 L0.length ac0, .slice ao1 L1.length ac1, .int .i64 i12] 32)).cell? ⟨w.heap.size, 9, none⟩ = some (.int .i64 i9) := by go_cell
  have a10_1 : (w.alloc (.cells #[.int .i64 8, .int .i64 i1, .int .i64 i2, .int .i64 i3, .int .i64 i4, .int .i64 i5, .int .i64 i6, .int .i64 i7, .int .i64 i8, .int .i64 i9, .int .i64 i10, .int .i64 i11, .slice ao0 L0.length ac0, .slice ao1 L1.length ac1, .int .i64 i12] 32)).cell? ⟨w.heap.size, 10, none⟩ = some (.int .i64 i10) := by go_cell
  have a11_1 : (w.alloc (.cells #[.int .i64 8, .int .i64 i1, .int .i64 i2, .int .i64 i3, .int .i64 i4, .int .i64 i5, .int .i64 i6, .int .i64 i7, .int .i64 i8, .int .i64 i9, .int .i64 i10, .int .i64 i11, .slice ao0 L0.length ac0, .slice ao1 L1.length ac1, .int .i64 i12] 32)).cell? ⟨w.heap.size, 11, none⟩ = some (.int .i64 i11) := by go_cell
  have a12_1 : (w.alloc (.cells #[.int .i64 8, .int .i64 i1, .int .i64 i2, .int .i64 i3, .int .i64 i4, .int .i64 i5, .int .i64 i6, .int .i64 i7, .int .i64 i8, .int .i64 i9, .int .i64 i10, .int .i64 i11, .slice ao0 L0.length ac0, .slice ao1 L1.length ac1, .int .i64 i12] 32)).cell? ⟨w.heap.size, 12, none⟩ = some (.slice ao0 L0.length ac0) := by go_cell
  have a13_1 : (w.alloc (.cells #[.int .i64 8, .int .i64 i1, .int .i64 i2, .int .i64 i3, .int .i64 i4, .int .i64 i5, .int .i64 i6, .int .i64 i7, .int .i64 i8, .int .i64 i9, .int .i64 i10, .int .i64 i11, .slice ao0 L0.length ac0, .slice ao1 L1.length ac1, .int .i64 i12] 32)).cell? ⟨w.heap.size, 13, none⟩ = some (.slice ao1 L1.length ac1) := by go_cell
  have a14_1 : (w.alloc (.cells #[.int .i64 8, .int .i64 i1, .int .i64 i2, .int .i64 i3, .int .i64 i4, .int .i64 i5, .int .i64 i6, .int .i64 i7, .int .i64 i8, .int .i64 i9, .int .i64 i10, .int .i64 i11, .slice ao0 L0.length ac0, .slice ao1 L1.length ac1, .int .i64 i12] 32)).cell? ⟨w.heap.size, 14, none⟩ = some (.int .i64 i12) := by go_cell
  have al_1 : w.heap.size < (w.alloc (.cells #[.int .i64 8, .int .i64 i1, .int .i64 i2, .int .i64 i3, .int .i64 i4, .int .i64 i5, .int .i64 i6, .int .i64 i7, .int .i64 i8, .int .i64 i9, .int .i64 i10, .int .i64 i11, .slice ao0 L0.length ac0, .slice ao1 L1.length ac1, .int .i64 i12] 32)).heap.size := by first | (simp; done) | (simp; omega)
  have c1 : Below w.heap.size w (w.alloc (.cells #[.int .i64 8, .int .i64 i1, .int .i64 i2, .int .i64 i3, .int .i64 i4, .int .i64 i5, .int .i64 i6, .int .i64 i7, .int .i64 i8, .int .i64 i9, .int .i64 i10, .int .i64 i11, .slice ao0 L0.length ac0, .slice ao1 L1.length ac1, .int .i64 i12] 32)) := by go_grown
  have s1 : (w.alloc (.cells #[.int .i64 8, .int .i64 i1, .int .i64 i2, .int .i64 i3, .int .i64 i4, .int .i64 i5, .int .i64 i6, .int .i64 i7, .int .i64 i8, .int .i64 i9, .int .i64 i10, .int .i64 i11, .slice ao0 L0.length ac0, .slice ao1 L1.length ac1, .int .i64 i12] 32)).heap.size = w.heap.size + 1 := by simp
  generalize (w.alloc (.cells #[.int .i64 8, .int .i64 i1, .int .i64 i2, .int .i64 i3, .int .i64 i4, .int .i64 i5, .int .i64 i6, .int .i64 i7, .int .i64 i8, .int .i64 i9, .int .i64 i10, .int .i64 i11, .slice ao0 L0.length ac0, .slice ao1 L1.length ac1, .int .i64 i12] 32)) = w1 at a0_1 a1_1 a2_1 a3_1 a4_1 a5_1 a6_1 a7_1 a8_1 a9_1 a10_1 a11_1 a12_1 a13_1 a14_1 al_1 c1 s1 ⊢
  have qa0_1 := cell_regrown a0_1
  have qa1_1 := cell_regrown a1_1
  have qa2_1 := cell_regrown a2_1
  have qa3_1 := cell_regrown a3_1
  have qa4_1 := cell_regrown a4_1
  have qa5_1 := cell_regrown a5_1
  have qa6_1 := cell_regrown a6_1
  have qa7_1 := cell_regrown a7_1
  have qa8_1 := cell_regrown a8_1
  have qa9_1 := cell_regrown a9_1
  have qa10_1 := cell_regrown a10_1
  have qa11_1 := cell_regrown a11_1
  have qa12_1 := cell_regrown a12_1
  have qa13_1 := cell_regrown a13_1
  have qa14_1 := cell_regrown a14_1
  go_cut [3] from 4 (fun s wx => s = .bool itv ∧ Below w1.heap.size w1 wx)
  case first =>
    cases hI : itR i9 i10 i11 L0 with
    | false =>
      refine wp_region_quiet_below (by kernel_rfl) (by kernel_rfl) ?_
      repeat (first | go_big_quiet_skip | (go_big_quiet_want; go_big_quiet_op; first | go_big_quiet_on | go_big_quiet_call (first | (go_at_call 75; exact Calls.regrown_of (specItem_any i9 i10 i11 _ L0 _ ((HA.out.h0.later c1).later (below_regrown _ _ _)) hI)) | (go_at_call 76; exact Calls.regrown_of (specShard_b i9 _)))))
      refine wpQuiet_nil ?_
      rintro wq ⟨pq, hwq⟩
      have hq : Below w1.heap.size w1 wq := by rw [hwq]; exact below_regrown _ _ _
      clear hwq pq
      go_wp2_with fail
      go_meet
      exact ⟨by rw [← HIT.out]; simp [hI], hq⟩
    | true =>
      by_cases hp : partOf i9 = i2
      · have hb : (partOf i9 == i2) = true := by simpa using hp
        have HP := hid hp
        clear hp
        refine wp_region_quiet_below (by kernel_rfl) (by kernel_rfl) ?_
        repeat (first | go_big_quiet_skip | (go_big_quiet_want; go_big_quiet_op; first | go_big_quiet_on | go_big_quiet_call (first | (go_at_call 75; exact Calls.regrown_of (specItem_any i9 i10 i11 _ L0 _ ((HA.out.h0.later c1).later (below_regrown _ _ _)) hI)) | (go_at_call 76; exact Calls.regrown_of (specShard_b i9 _)))))
        refine wpQuiet_nil ?_
        rintro wq ⟨pq, hwq⟩
        have hq : Below w1.heap.size w1 wq := by rw [hwq]; exact below_regrown _ _ _
        clear hwq pq
        go_wp2_with fail
        go_meet
        exact ⟨by rw [← HIT.out]; simp [hI, HP.out], hq⟩
      · have hb : (partOf i9 == i2) = false := by simpa using hp
        have HP := hid hp
        clear hp
        refine wp_region_quiet_below (by kernel_rfl) (by kernel_rfl) ?_
        repeat (first | go_big_quiet_skip | (go_big_quiet_want; go_big_quiet_op; first | go_big_quiet_on | go_big_quiet_call (first | (go_at_call 75; exact Calls.regrown_of (specItem_any i9 i10 i11 _ L0 _ ((HA.out.h0.later c1).later (below_regrown _ _ _)) hI)) | (go_at_call 76; exact Calls.regrown_of (specShard_b i9 _)))))
        refine wpQuiet_nil ?_
        rintro wq ⟨pq, hwq⟩
        have hq : Below w1.heap.size w1 wq := by rw [hwq]; exact below_regrown _ _ _
        clear hwq pq
        go_wp2_with fail
        go_meet
        exact ⟨by rw [← HIT.out]; simp [hI, HP.out], hq⟩
  case rest =>
    obtain ⟨rfl, b2⟩ := hcut
    obtain ⟨w2, hw2⟩ : ∃ x, x = wc := ⟨_, rfl⟩
    subst hw2
    have d2 : Below w1.heap.size w1 w2 := (Below.trans (by go_grown) (b2.mono (by first | omega | (simp; done) | (simp; omega))))
    have c2 : Below w.heap.size w w2 := c1.trans (d2.mono c1.size)
    have a0_2 : w2.cell? ⟨w.heap.size, 0, none⟩ = some (.int .i64 8) := (by rw [b2.cell (by first | omega | (simp; done) | (simp; omega))]; go_cell)
    have a1_2 : w2.cell? ⟨w.heap.size, 1, none⟩ = some (.int .i64 i1) := (by rw [b2.cell (by first | omega | (simp; done) | (simp; omega))]; go_cell)
    have a2_2 : w2.cell? ⟨w.heap.size, 2, none⟩ = some (.int .i64 i2) := (by rw [b2.cell (by first | omega | (simp; done) | (simp; omega))]; go_cell)
    have a3_2 : w2.cell? ⟨w.heap.size, 3, none⟩ = some (.int .i64 i3) := (by rw [b2.cell (by first | omega | (simp; done) | (simp; omega))]; go_cell)
    have a4_2 : w2.cell? ⟨w.heap.size, 4, none⟩ = some (.int .i64 i4) := (by rw [b2.cell (by first | omega | (simp; done) | (simp; omega))]; go_cell)
    have a5_2 : w2.cell? ⟨w.heap.size, 5, none⟩ = some (.int .i64 i5) := (by rw [b2.cell (by first | omega | (simp; done) | (simp; omega))]; go_cell)
    have a6_2 : w2.cell? ⟨w.heap.size, 6, none⟩ = some (.int .i64 i6) := (by rw [b2.cell (by first | omega | (simp; done) | (simp; omega))]; go_cell)
    have a7_2 : w2.cell? ⟨w.heap.size, 7, none⟩ = some (.int .i64 i7) := (by rw [b2.cell (by first | omega | (simp; done) | (simp; omega))]; go_cell)
    have a8_2 : w2.cell? ⟨w.heap.size, 8, none⟩ = some (.int .i64 i8) := (by rw [b2.cell (by first | omega | (simp; done) | (simp; omega))]; go_cell)
    have a9_2 : w2.cell? ⟨w.heap.size, 9, none⟩ = some (.int .i64 i9) := (by rw [b2.cell (by first | omega | (simp; done) | (simp; omega))]; go_cell)
    have a10_2 : w2.cell? ⟨w.heap.size, 10, none⟩ = some (.int .i64 i10) := (by rw [b2.cell (by first | omega | (simp; done) | (simp; omega))]; go_cell)
    have a11_2 : w2.cell? ⟨w.heap.size, 11, none⟩ = some (.int .i64 i11) := (by rw [b2.cell (by first | omega | (simp; done) | (simp; omega))]; go_cell)
    have a12_2 : w2.cell? ⟨w.heap.size, 12, none⟩ = some (.slice ao0 L0.length ac0) := (by rw [b2.cell (by first | omega | (simp; done) | (simp; omega))]; go_cell)
    have a13_2 : w2.cell? ⟨w.heap.size, 13, none⟩ = some (.slice ao1 L1.length ac1) := (by rw [b2.cell (by first | omega | (simp; done) | (simp; omega))]; go_cell)
    have a14_2 : w2.cell? ⟨w.heap.size, 14, none⟩ = some (.int .i64 i12) := (by rw [b2.cell (by first | omega | (simp; done) | (simp; omega))]; go_cell)
    have al_2 : w.heap.size < w2.heap.size := (by have := b2.size; first | omega | (revert this; simp; done) | (revert this; simp; omega))
    clear a0_1 a1_1 a2_1 a3_1 a4_1 a5_1 a6_1 a7_1 a8_1 a9_1 a10_1 a11_1 a12_1 a13_1 a14_1 al_1
    clear b2 d2
    go_wp2_with fail
    refine (l6None_any i5 i6 i7 i8 _).mono ?_
    rintro e w3 ⟨rfl, b3⟩
    have d3 : Below w2.heap.size w2 w3 := (Below.trans (by go_grown) (b3.mono (by first | omega | (simp; done) | (simp; omega))))
    have c3 : Below w.heap.size w w3 := c2.trans (d3.mono c2.size)
    have a0_3 : w3.cell? ⟨w.heap.size, 0, none⟩ = some (.int .i64 8) := (by rw [b3.cell (by first | omega | (simp; done) | (simp; omega))]; go_cell)
    have a1_3 : w3.cell? ⟨w.heap.size, 1, none⟩ = some (.int .i64 i1) := (by rw [b3.cell (by first | omega | (simp; done) | (simp; omega))]; go_cell)
    have a2_3 : w3.cell? ⟨w.heap.size, 2, none⟩ = some (.int .i64 i2) := (by rw [b3.cell (by first | omega | (simp; done) | (simp; omega))]; go_cell)
    have a3_3 : w3.cell? ⟨w.heap.size, 3, none⟩ = some (.int .i64 i3) := (by rw [b3.cell (by first | omega | (simp; done) | (simp; omega))]; go_cell)
    have a4_3 : w3.cell? ⟨w.heap.size, 4, none⟩ = some (.int .i64 i4) := (by rw [b3.cell (by first | omega | (simp; done) | (simp; omega))]; go_cell)
    have a5_3 : w3.cell? ⟨w.heap.size, 5, none⟩ = some (.int .i64 i5) := (by rw [b3.cell (by first | omega | (simp; done) | (simp; omega))]; go_cell)
    have a6_3 : w3.cell? ⟨w.heap.size, 6, none⟩ = some (.int .i64 i6) := (by rw [b3.cell (by first | omega | (simp; done) | (simp; omega))]; go_cell)
    have a7_3 : w3.cell? ⟨w.heap.size, 7, none⟩ = some (.int .i64 i7) := (by rw [b3.cell (by first | omega | (simp; done) | (simp; omega))]; go_cell)
    have a8_3 : w3.cell? ⟨w.heap.size, 8, none⟩ = some (.int .i64 i8) := (by rw [b3.cell (by first | omega | (simp; done) | (simp; omega))]; go_cell)
    have a9_3 : w3.cell? ⟨w.heap.size, 9, none⟩ = some (.int .i64 i9) := (by rw [b3.cell (by first | omega | (simp; done) | (simp; omega))]; go_cell)
    have a10_3 : w3.cell? ⟨w.heap.size, 10, none⟩ = some (.int .i64 i10) := (by rw [b3.cell (by first | omega | (simp; done) | (simp; omega))]; go_cell)
    have a11_3 : w3.cell? ⟨w.heap.size, 11, none⟩ = some (.int .i64 i11) := (by rw [b3.cell (by first | omega | (simp; done) | (simp; omega))]; go_cell)
    have a12_3 : w3.cell? ⟨w.heap.size, 12, none⟩ = some (.slice ao0 L0.length ac0) := (by rw [b3.cell (by first | omega | (simp; done) | (simp; omega))]; go_cell)
    have a13_3 : w3.cell? ⟨w.heap.size, 13, none⟩ = some (.slice ao1 L1.length ac1) := (by rw [b3.cell (by first | omega | (simp; done) | (simp; omega))]; go_cell)
    have a14_3 : w3.cell? ⟨w.heap.size, 14, none⟩ = some (.int .i64 i12) := (by rw [b3.cell (by first | omega | (simp; done) | (simp; omega))]; go_cell)
    have al_3 : w.heap.size < w3.heap.size := (by have := b3.size; first | omega | (revert this; simp; done) | (revert this; simp; omega))
    clear a0_2 a1_2 a2_2 a3_2 a4_2 a5_2 a6_2 a7_2 a8_2 a9_2 a10_2 a11_2 a12_2 a13_2 a14_2 al_2
    clear b3 d3
    cases h0 : zO i5 i6 i7 i8 with
    | false =>
      have H0 : Hid (¬ (i5 = 0 ∧ i6 = 0 ∧ i7 = 0 ∧ i8 = 0)) := hid (of_decide_eq_false h0)
      have HV : Hid (bodyM 8 i1 i2 i3 i4 i5 i6 i7 i8 i9 i10 i11 i12 L0 L1 = false) := hid (by rw [Bool.eq_false_iff]; exact fun h => H0.out ((body_8 i1 i2 i3 i4 i5 i6 i7 i8 i9 i10 i11 i12 L0 L1).1 h).1)
      go_wp2_with fail
      go_ret
      exact ⟨by simp [HV.out], c3⟩
    | true =>
      have H0 : Hid (i5 = 0 ∧ i6 = 0 ∧ i7 = 0 ∧ i8 = 0) := hid (of_decide_eq_true h0)
      clear h0
      go_wp2_with fail
      refine (l6Blank_any i9 i10 i11 _ L0 _ (HA.out.h0.later c3)).mono ?_
      rintro e w4 ⟨rfl, b4⟩
      have d4 : Below w3.heap.size w3 w4 := (Below.trans (by go_grown) (b4.mono (by first | omega | (simp; done) | (simp; omega))))
      have c4 : Below w.heap.size w w4 := c3.trans (d4.mono c3.size)
      have a0_4 : w4.cell? ⟨w.heap.size, 0, none⟩ = some (.int .i64 8) := (by rw [b4.cell (by first | omega | (simp; done) | (simp; omega))]; go_cell)
      have a1_4 : w4.cell? ⟨w.heap.size, 1, none⟩ = some (.int .i64 i1) := (by rw [b4.cell (by first | omega | (simp; done) | (simp; omega))]; go_cell)
      have a2_4 : w4.cell? ⟨w.heap.size, 2, none⟩ = some (.int .i64 i2) := (by rw [b4.cell (by first | omega | (simp; done) | (simp; omega))]; go_cell)
      have a3_4 : w4.cell? ⟨w.heap.size, 3, none⟩ = some (.int .i64 i3) := (by rw [b4.cell (by first | omega | (simp; done) | (simp; omega))]; go_cell)
      have a4_4 : w4.cell? ⟨w.heap.size, 4, none⟩ = some (.int .i64 i4) := (by rw [b4.cell (by first | omega | (simp; done) | (simp; omega))]; go_cell)
      have a5_4 : w4.cell? ⟨w.heap.size, 5, none⟩ = some (.int .i64 i5) := (by rw [b4.cell (by first | omega | (simp; done) | (simp; omega))]; go_cell)
      have a6_4 : w4.cell? ⟨w.heap.size, 6, none⟩ = some (.int .i64 i6) := (by rw [b4.cell (by first | omega | (simp; done) | (simp; omega))]; go_cell)
      have a7_4 : w4.cell? ⟨w.heap.size, 7, none⟩ = some (.int .i64 i7) := (by rw [b4.cell (by first | omega | (simp; done) | (simp; omega))]; go_cell)
      have a8_4 : w4.cell? ⟨w.heap.size, 8, none⟩ = some (.int .i64 i8) := (by rw [b4.cell (by first | omega | (simp; done) | (simp; omega))]; go_cell)
      have a9_4 : w4.cell? ⟨w.heap.size, 9, none⟩ = some (.int .i64 i9) := (by rw [b4.cell (by first | omega | (simp; done) | (simp; omega))]; go_cell)
      have a10_4 : w4.cell? ⟨w.heap.size, 10, none⟩ = some (.int .i64 i10) := (by rw [b4.cell (by first | omega | (simp; done) | (simp; omega))]; go_cell)
      have a11_4 : w4.cell? ⟨w.heap.size, 11, none⟩ = some (.int .i64 i11) := (by rw [b4.cell (by first | omega | (simp; done) | (simp; omega))]; go_cell)
      have a12_4 : w4.cell? ⟨w.heap.size, 12, none⟩ = some (.slice ao0 L0.length ac0) := (by rw [b4.cell (by first | omega | (simp; done) | (simp; omega))]; go_cell)
      have a13_4 : w4.cell? ⟨w.heap.size, 13, none⟩ = some (.slice ao1 L1.length ac1) := (by rw [b4.cell (by first | omega | (simp; done) | (simp; omega))]; go_cell)
      have a14_4 : w4.cell? ⟨w.heap.size, 14, none⟩ = some (.int .i64 i12) := (by rw [b4.cell (by first | omega | (simp; done) | (simp; omega))]; go_cell)
      have al_4 : w.heap.size < w4.heap.size := (by have := b4.size; first | omega | (revert this; simp; done) | (revert this; simp; omega))
      clear a0_3 a1_3 a2_3 a3_3 a4_3 a5_3 a6_3 a7_3 a8_3 a9_3 a10_3 a11_3 a12_3 a13_3 a14_3 al_3
      clear b4 d4
      cases h1 : zI i9 i10 i11 L0 with
      | false =>
        have H1 : Hid (¬ (i9 = 0 ∧ i10 = 0 ∧ i11 = 0 ∧ L0 = [])) := hid (of_decide_eq_false h1)
        have HV : Hid (bodyM 8 i1 i2 i3 i4 i5 i6 i7 i8 i9 i10 i11 i12 L0 L1 = false) := hid (by rw [Bool.eq_false_iff]; exact fun h => H1.out ((body_8 i1 i2 i3 i4 i5 i6 i7 i8 i9 i10 i11 i12 L0 L1).1 h).2.1)
        go_wp2_with fail
        go_ret
        exact ⟨by simp [HV.out], c4⟩
      | true =>
        have H1 : Hid (i9 = 0 ∧ i10 = 0 ∧ i11 = 0 ∧ L0 = []) := hid (of_decide_eq_true h1)
        clear h1
        go_wp2_with fail
        refine (l6Vers_any _ L1 _ (HA.out.h1.later c4)).mono ?_
        rintro e w5 ⟨rfl, b5⟩
        have d5 : Below w4.heap.size w4 w5 := (Below.trans (by go_grown) (b5.mono (by first | omega | (simp; done) | (simp; omega))))
        have c5 : Below w.heap.size w w5 := c4.trans (d5.mono c4.size)
        have a0_5 : w5.cell? ⟨w.heap.size, 0, none⟩ = some (.int .i64 8) := (by rw [b5.cell (by first | omega | (simp; done) | (simp; omega))]; go_cell)
        have a1_5 : w5.cell? ⟨w.heap.size, 1, none⟩ = some (.int .i64 i1) := (by rw [b5.cell (by first | omega | (simp; done) | (simp; omega))]; go_cell)
        have a2_5 : w5.cell? ⟨w.heap.size, 2, none⟩ = some (.int .i64 i2) := (by rw [b5.cell (by first | omega | (simp; done) | (simp; omega))]; go_cell)
        have a3_5 : w5.cell? ⟨w.heap.size, 3, none⟩ = some (.int .i64 i3) := (by rw [b5.cell (by first | omega | (simp; done) | (simp; omega))]; go_cell)
        have a4_5 : w5.cell? ⟨w.heap.size, 4, none⟩ = some (.int .i64 i4) := (by rw [b5.cell (by first | omega | (simp; done) | (simp; omega))]; go_cell)
        have a5_5 : w5.cell? ⟨w.heap.size, 5, none⟩ = some (.int .i64 i5) := (by rw [b5.cell (by first | omega | (simp; done) | (simp; omega))]; go_cell)
        have a6_5 : w5.cell? ⟨w.heap.size, 6, none⟩ = some (.int .i64 i6) := (by rw [b5.cell (by first | omega | (simp; done) | (simp; omega))]; go_cell)
        have a7_5 : w5.cell? ⟨w.heap.size, 7, none⟩ = some (.int .i64 i7) := (by rw [b5.cell (by first | omega | (simp; done) | (simp; omega))]; go_cell)
        have a8_5 : w5.cell? ⟨w.heap.size, 8, none⟩ = some (.int .i64 i8) := (by rw [b5.cell (by first | omega | (simp; done) | (simp; omega))]; go_cell)
        have a9_5 : w5.cell? ⟨w.heap.size, 9, none⟩ = some (.int .i64 i9) := (by rw [b5.cell (by first | omega | (simp; done) | (simp; omega))]; go_cell)
        have a10_5 : w5.cell? ⟨w.heap.size, 10, none⟩ = some (.int .i64 i10) := (by rw [b5.cell (by first | omega | (simp; done) | (simp; omega))]; go_cell)
        have a11_5 : w5.cell? ⟨w.heap.size, 11, none⟩ = some (.int .i64 i11) := (by rw [b5.cell (by first | omega | (simp; done) | (simp; omega))]; go_cell)
        have a12_5 : w5.cell? ⟨w.heap.size, 12, none⟩ = some (.slice ao0 L0.length ac0) := (by rw [b5.cell (by first | omega | (simp; done) | (simp; omega))]; go_cell)
        have a13_5 : w5.cell? ⟨w.heap.size, 13, none⟩ = some (.slice ao1 L1.length ac1) := (by rw [b5.cell (by first | omega | (simp; done) | (simp; omega))]; go_cell)
        have a14_5 : w5.cell? ⟨w.heap.size, 14, none⟩ = some (.int .i64 i12) := (by rw [b5.cell (by first | omega | (simp; done) | (simp; omega))]; go_cell)
        have al_5 : w.heap.size < w5.heap.size := (by have := b5.size; first | omega | (revert this; simp; done) | (revert this; simp; omega))
        clear a0_4 a1_4 a2_4 a3_4 a4_4 a5_4 a6_4 a7_4 a8_4 a9_4 a10_4 a11_4 a12_4 a13_4 a14_4 al_4
        clear b5 d5
        cases h2 : vsR L1 with
        | false =>
          have H2 : Hid (¬ (vsR L1 = true)) := hid (by simp [h2])
          have HV : Hid (bodyM 8 i1 i2 i3 i4 i5 i6 i7 i8 i9 i10 i11 i12 L0 L1 = false) := hid (by rw [Bool.eq_false_iff]; exact fun h => H2.out ((body_8 i1 i2 i3 i4 i5 i6 i7 i8 i9 i10 i11 i12 L0 L1).1 h).2.2.1)
          go_wp2_with fail
          go_ret
          exact ⟨by simp [HV.out], c5⟩
        | true =>
          have H2 : Hid (vsR L1 = true) := hid (h2)
          clear h2
          by_cases h3 : i12 = 0
          case neg =>
            have g3 : (i12 == 0) = false := by first | (simpa using h3) | (simp; omega)
            have H3 := hid h3
            clear h3
            have HV : Hid (bodyM 8 i1 i2 i3 i4 i5 i6 i7 i8 i9 i10 i11 i12 L0 L1 = false) := hid (by rw [Bool.eq_false_iff]; exact fun h => H3.out ((body_8 i1 i2 i3 i4 i5 i6 i7 i8 i9 i10 i11 i12 L0 L1).1 h).2.2.2.1)
            go_wp2_with fail
            go_ret
            exact ⟨by simp [HV.out], c5⟩
          have g3 : (i12 == 0) = true := by first | (simpa using h3) | (simp; omega)
          have H3 := hid h3
          clear h3
          by_cases h4 : i4 = 0
          case neg =>
            have g4 : (i4 == 0) = false := by first | (simpa using h4) | (simp; omega)
            have H4 := hid h4
            clear h4
            have HV : Hid (bodyM 8 i1 i2 i3 i4 i5 i6 i7 i8 i9 i10 i11 i12 L0 L1 = false) := hid (by rw [Bool.eq_false_iff]; exact fun h => H4.out ((body_8 i1 i2 i3 i4 i5 i6 i7 i8 i9 i10 i11 i12 L0 L1).1 h).2.2.2.2)
            go_wp2_with fail
            go_ret
            exact ⟨by simp [HV.out], c5⟩
          have g4 : (i4 == 0) = true := by first | (simpa using h4) | (simp; omega)
          have H4 := hid h4
          clear h4
          have HV : Hid (bodyM 8 i1 i2 i3 i4 i5 i6 i7 i8 i9 i10 i11 i12 L0 L1 = true) := hid ((body_8 i1 i2 i3 i4 i5 i6 i7 i8 i9 i10 i11 i12 L0 L1).2 ⟨H0.out, H1.out, H2.out, H3.out, H4.out⟩)
          go_wp2_with fail
          go_ret
          exact ⟨by simp [HV.out], c5⟩

end Go.Proofs.YtfdcnolcjgjfjaaGreatDoor

/- Part: spec.l6Body at some kinds: contracts. Written by a program (gmk.py). -/
namespace Go.Proofs.YtfdcnolcjgjfjaaGreatDoor
open Go.RowKit
attribute [local go_sem ↓] Go.wp_at_zero Go.wp_at_succ

set_option maxRecDepth 100000 in
set_option maxHeartbeats 16000000 in
theorem l6Body_3 (i1 i2 i3 i4 i5 i6 i7 i8 i9 i10 i11 i12 : Int) (va0 va1 : Value) (L0 : List (Int × Int)) (L1 : List KD) (w : World) (ha : RSMsg w va0 va1 L0 L1) :
    Calls Tryz.prog 36 #[.agg #[.int .i64 3, .int .i64 i1, .int .i64 i2, .int .i64 i3, .int .i64 i4, .int .i64 i5, .int .i64 i6, .int .i64 i7, .int .i64 i8, .int .i64 i9, .int .i64 i10, .int .i64 i11, va0, va1, .int .i64 i12]] w fun e w' => e = .returned (.bool (bodyM 3 i1 i2 i3 i4 i5 i6 i7 i8 i9 i10 i11 i12 L0 L1)) ∧ Below w.heap.size w w' := by
  have HA := hid ha
  obtain ⟨ao0, ao1, ac0, ac1, rfl, rfl⟩ := ha.open
  clear ha
  obtain ⟨itv, hit⟩ : ∃ b : Bool, (itR i9 i10 i11 L0 && decide (partOf i9 = i2)) = b := ⟨_, rfl⟩
  have HIT := hid hit
  clear hit
  go_enter Tryz.func36, Tryz.ntmps36
  go_wp2_with fail
  have a0_1 : (w.alloc (.cells #[.int .i64 3, .int .i64 i1, .int .i64 i2, .int .i64 i3, .int .i64 i4, .int .i64 i5, .int .i64 i6, .int .i64 i7, .int .i64 i8, .int .i64 i9, .int .i64 i10, .int .i64 i11, .slice ao0 L0.length ac0, .slice ao1 L1.length ac1, .int .i64 i12] 32)).cell? ⟨w.heap.size, 0, none⟩ = some (.int .i64 3) := by go_cell
  have a1_1 : (w.alloc (.cells #[.int .i64 3, .int .i64 i1, .int .i64 i2, .int .i64 i3, .int .i64 i4, .int .i64 i5, .int .i64 i6, .int .i64 i7, .int .i64 i8, .int .i64 i9, .int .i64 i10, .int .i64 i11, .slice ao0 L0.length ac0, .slice ao1 L1.length ac1, .int .i64 i12] 32)).cell? ⟨w.heap.size, 1, none⟩ = some (.int .i64 i1) := by go_cell
  have a2_1 : (w.alloc (.cells #[.int .i64 3, .int .i64 i1, .int .i64 i2, .int .i64 i3, .int .i64 i4, .int .i64 i5, .int .i64 i6, .int .i64 i7, .int .i64 i8, .int .i64 i9, .int .i64 i10, .int .i64 i11, .slice ao0 L0.length ac0, .slice ao1 L1.length ac1, .int .i64 i12] 32)).cell? ⟨w.heap.size, 2, none⟩ = some (.int .i64 i2) := by go_cell
  have a3_1 : (w.alloc (.cells #[.int .i64 3, .int .i64 i1, .int .i64 i2, .int .i64 i3, .int .i64 i4, .int .i64 i5, .int .i64 i6, .int .i64 i7, .int .i64 i8, .int .i64 i9, .int .i64 i10, .int .i64 i11, .slice ao0 L0.length ac0, .slice ao1 L1.length ac1, .int .i64 i12] 32)).cell? ⟨w.heap.size, 3, none⟩ = some (.int .i64 i3) := by go_cell
  have a4_1 : (w.alloc (.cells #[.int .i64 3, .int .i64 i1, .int .i64 i2, .int .i64 i3, .int .i64 i4, .int .i64 i5, .int .i64 i6, .int .i64 i7, .int .i64 i8, .int .i64 i9, .int .i64 i10, .int .i64 i11, .slice ao0 L0.length ac0, .slice ao1 L1.length ac1, .int .i64 i12] 32)).cell? ⟨w.heap.size, 4, none⟩ = some (.int .i64 i4) := by go_cell
  have a5_1 : (w.alloc (.cells #[.int .i64 3, .int .i64 i1, .int .i64 i2, .int .i64 i3, .int .i64 i4, .int .i64 i5, .int .i64 i6, .int .i64 i7, .int .i64 i8, .int .i64 i9, .int .i64 i10, .int .i64 i11, .slice ao0 L0.length ac0, .slice ao1 L1.length ac1, .int .i64 i12] 32)).cell? ⟨w.heap.size, 5, none⟩ = some (.int .i64 i5) := by go_cell
  have a6_1 : (w.alloc (.cells #[.int .i64 3, .int .i64 i1, .int .i64 i2, .int .i64 i3, .int .i64 i4, .int .i64 i5, .int .i64 i6, .int .i64 i7, .int .i64 i8, .int .i64 i9, .int .i64 i10, .int .i64 i11, .slice ao0 L0.length ac0, .slice ao1 L1.length ac1, .int .i64 i12] 32)).cell? ⟨w.heap.size, 6, none⟩ = some (.int .i64 i6) := by go_cell
  have a7_1 : (w.alloc (.cells #[.int .i64 3, .int .i64 i1, .int .i64 i2, .int .i64 i3, .int .i64 i4, .int .i64 i5, .int .i64 i6, .int .i64 i7, .int .i64 i8, .int .i64 i9, .int .i64 i10, .int .i64 i11, .slice ao0 L0.length ac0, .slice ao1 L1.length ac1, .int .i64 i12] 32)).cell? ⟨w.heap.size, 7, none⟩ = some (.int .i64 i7) := by go_cell
  have a8_1 : (w.alloc (.cells #[.int .i64 3, .int .i64 i1, .int .i64 i2, .int .i64 i3, .int .i64 i4, .int .i64 i5, .int .i64 i6, .int .i64 i7, .int .i64 i8, .int .i64 i9, .int .i64 i10, .int .i64 i11, .slice ao0 L0.length ac0, .slice ao1 L1.length ac1, .int .i64 i12] 32)).cell? ⟨w.heap.size, 8, none⟩ = some (.int .i64 i8) := by go_cell
  have a9_1 : (w.alloc (.cells #[.int .i64 3, .int .i64 i1, .int .i64 i2, .int .i64 i3, .int .i64 i4, .int .i64 i5, .int .i64 i6, .int .i64 i7, .int .i64 i8, .int .i64 i9, .int .i64 i10, .int .i64 i11, .slice ao0 L0.length ac0, .slice ao1 L1.length ac1, .int .i64 i12] 32)).cell? ⟨w.heap.size, 9, none⟩ = some (.int .i64 i9) := by go_cell
  have a10_1 : (w.alloc (.cells #[.int .i64 3, .int .i64 i1, .int .i64 i2, .int .i64 i3, .int .i64 i4, .int .i64 i5, .int .i64 i6, .int .i64 i7, .int .i64 i8, .int .i64 i9, .int .i64 i10, .int .i64 i11, .slice ao0 L0.length ac0, .slice ao1 L1.length ac1, .int .i64 i12] 32)).cell? ⟨w.heap.size, 10, none⟩ = some (.int .i64 i10) := by go_cell
  have a11_1 : (w.alloc (.cells #[.int .i64 3, .int .i64 i1, .int .i64 i2, .int .i64 i3, .int .i64 i4, .int .i64 i5, .int .i64 i6, .int .i64 i7, .int .i64 i8, .int .i64 i9, .int .i64 i10, .int .i64 i11, .slice ao0 L0.length ac0, .slice ao1 L1.length ac1, .int .i64 i12] 32)).cell? ⟨w.heap.size, 11, none⟩ = some (.int .i64 i11) := by go_cell
  have a12_1 : (w.alloc (.cells #[.int .i64 3, .int .i64 i1, .int .i64 i2, .int .i64 i3, .int .i64 i4, .int .i64 i5, .int .i64 i6, .int .i64 i7, .int .i64 i8, .int .i64 i9, .int .i64 i10, .int .i64 i11, .slice ao0 L0.length ac0, .slice ao1 L1.length ac1, .int .i64 i12] 32)).cell? ⟨w.heap.size, 12, none⟩ = some (.slice ao0 L0.length ac0) := by go_cell
  have a13_1 : (w.alloc (.cells #[.int .i64 3, .int .i64 i1, .int .i64 i2, .int .i64 i3, .int .i64 i4, .int .i64 i5, .int .i64 i6, .int .i64 i7, .int .i64 i8, .int .i64 i9, .int .i64 i10, .int .i64 i11, .slice ao0 L0.length ac0, .slice ao1 L1.length ac1, .int .i64 i12] 32)).cell? ⟨w.heap.size, 13, none⟩ = some (.slice ao1 L1.length ac1) := by go_cell
  have a14_1 : (w.alloc (.cells #[.int .i64 3, .int .i64 i1, .int .i64 i2, .int .i64 i3, .int .i64 i4, .int .i64 i5, .int .i64 i6, .int .i64 i7, .int .i64 i8, .int .i64 i9, .int .i64 i10, .int .i64 i11, .slice ao0 L0.length ac0, .slice ao1 L1.length ac1, .int .i64 i12] 32)).cell? ⟨w.heap.size, 14, none⟩ = some (.int .i64 i12) := by go_cell
  have al_1 : w.heap.size < (w.alloc (.cells #[.int .i64 3, .int .i64 i1, .int .i64 i2, .int .i64 i3, .int .i64 i4, .int .i64 i5, .int .i64 i6, .int .i64 i7, .int .i64 i8, .int .i64 i9, .int .i64 i10, .int .i64 i11, .slice ao0 L0.length ac0, .slice ao1 L1.length ac1, .int .i64 i12] 32)).heap.size := by first | (simp; done) | (simp; omega)
  have c1 : Below w.heap.size w (w.alloc (.cells #[.int .i64 3, .int .i64 i1, .int .i64 i2, .int .i64 i3, .int .i64 i4, .int .i64 i5, .int .i64 i6, .int .i64 i7, .int .i64 i8, .int .i64 i9, .int .i64 i10, .int .i64 i11, .slice ao0 L0.length ac0, .slice ao1 L1.length ac1, .int .i64 i12] 32)) := by go_grown
  have s1 : (w.alloc (.cells #[.int .i64 3, .int .i64 i1, .int .i64 i2, .int .i64 i3, .int .i64 i4, .int .i64 i5, .int .i64 i6, .int .i64 i7, .int .i64 i8, .int .i64 i9, .int .i64 i10, .int .i64 i11, .slice ao0 L0.length ac0, .slice ao1 L1.length ac1, .int .i64 i12] 32)).heap.size = w.heap.size + 1 := by simp
  generalize (w.alloc (.cells #[.int .i64 3, .int .i64 i1, .int .i64 i2, .int .i64 i3, .int .i64 i4, .int .i64 i5, .int .i64 i6, .int .i64 i7, .int .i64 i8, .int .i64 i9, .int .i64 i10, .int .i64 i11, .slice ao0 L0.length ac0, .slice ao1 L1.length ac1, .int .i64 i12] 32)) = w1 at a0_1 a1_1 a2_1 a3_1 a4_1 a5_1 a6_1 a7_1 a8_1 a9_1 a10_1 a11_1 a12_1 a13_1 a14_1 al_1 c1 s1 ⊢
  have qa0_1 := cell_regrown a0_1
  have qa1_1 := cell_regrown a1_1
  have qa2_1 := cell_regrown a2_1
  have qa3_1 := cell_regrown a3_1
  have qa4_1 := cell_regrown a4_1
  have qa5_1 := cell_regrown a5_1
  have qa6_1 := cell_regrown a6_1
  have qa7_1 := cell_regrown a7_1
  have qa8_1 := cell_regrown a8_1
  have qa9_1 := cell_regrown a9_1
  have qa10_1 := cell_regrown a10_1
  have qa11_1 := cell_regrown a11_1
  have qa12_1 := cell_regrown a12_1
  have qa13_1 := cell_regrown a13_1
  have qa14_1 := cell_regrown a14_1
  go_cut [3] from 4 (fun s wx => s = .bool itv ∧ Below w1.heap.size w1 wx)
  case first =>
    cases hI : itR i9 i10 i11 L0 with
    | false =>
      refine wp_region_quiet_below (by kernel_rfl) (by kernel_rfl) ?_
      repeat (first | go_big_quiet_skip | (go_big_quiet_want; go_big_quiet_op; first | go_big_quiet_on | go_big_quiet_call (first | (go_at_call 75; exact Calls.regrown_of (specItem_any i9 i10 i11 _ L0 _ ((HA.out.h0.later c1).later (below_regrown _ _ _)) hI)) | (go_at_call 76; exact Calls.regrown_of (specShard_b i9 _)))))
      refine wpQuiet_nil ?_
      rintro wq ⟨pq, hwq⟩
      have hq : Below w1.heap.size w1 wq := by rw [hwq]; exact below_regrown _ _ _
      clear hwq pq
      go_wp2_with fail
      go_meet
      exact ⟨by rw [← HIT.out]; simp [hI], hq⟩
    | true =>
      by_cases hp : partOf i9 = i2
      · have hb : (partOf i9 == i2) = true := by simpa using hp
        have HP := hid hp
        clear hp
        refine wp_region_quiet_below (by kernel_rfl) (by kernel_rfl) ?_
        repeat (first | go_big_quiet_skip | (go_big_quiet_want; go_big_quiet_op; first | go_big_quiet_on | go_big_quiet_call (first | (go_at_call 75; exact Calls.regrown_of (specItem_any i9 i10 i11 _ L0 _ ((HA.out.h0.later c1).later (below_regrown _ _ _)) hI)) | (go_at_call 76; exact Calls.regrown_of (specShard_b i9 _)))))
        refine wpQuiet_nil ?_
        rintro wq ⟨pq, hwq⟩
        have hq : Below w1.heap.size w1 wq := by rw [hwq]; exact below_regrown _ _ _
        clear hwq pq
        go_wp2_with fail
        go_meet
        exact ⟨by rw [← HIT.out]; simp [hI, HP.out], hq⟩
      · have hb : (partOf i9 == i2) = false := by simpa using hp
        have HP := hid hp
        clear hp
        refine wp_region_quiet_below (by kernel_rfl) (by kernel_rfl) ?_
        repeat (first | go_big_quiet_skip | (go_big_quiet_want; go_big_quiet_op; first | go_big_quiet_on | go_big_quiet_call (first | (go_at_call 75; exact Calls.regrown_of (specItem_any i9 i10 i11 _ L0 _ ((HA.out.h0.later c1).later (below_regrown _ _ _)) hI)) | (go_at_call 76; exact Calls.regrown_of (specShard_b i9 _)))))
        refine wpQuiet_nil ?_
        rintro wq ⟨pq, hwq⟩
        have hq : Below w1.heap.size w1 wq := by rw [hwq]; exact below_regrown _ _ _
        clear hwq pq
        go_wp2_with fail
        go_meet
        exact ⟨by rw [← HIT.out]; simp [hI, HP.out], hq⟩
  case rest =>
    obtain ⟨rfl, b2⟩ := hcut
    obtain ⟨w2, hw2⟩ : ∃ x, x = wc := ⟨_, rfl⟩
    subst hw2
    have d2 : Below w1.heap.size w1 w2 := (Below.trans (by go_grown) (b2.mono (by first | omega | (simp; done) | (simp; omega))))
    have c2 : Below w.heap.size w w2 := c1.trans (d2.mono c1.size)
    have a0_2 : w2.cell? ⟨w.heap.size, 0, none⟩ = some (.int .i64 3) := (by rw [b2.cell (by first | omega | (simp; done) | (simp; omega))]; go_cell)
    have a1_2 : w2.cell? ⟨w.heap.size, 1, none⟩ = some (.int .i64 i1) := (by rw [b2.cell (by first | omega | (simp; done) | (simp; omega))]; go_cell)
    have a2_2 : w2.cell? ⟨w.heap.size, 2, none⟩ = some (.int .i64 i2) := (by rw [b2.cell (by first | omega | (simp; done) | (simp; omega))]; go_cell)
    have a3_2 : w2.cell? ⟨w.heap.size, 3, none⟩ = some (.int .i64 i3) := (by rw [b2.cell (by first | omega | (simp; done) | (simp; omega))]; go_cell)
    have a4_2 : w2.cell? ⟨w.heap.size, 4, none⟩ = some (.int .i64 i4) := (by rw [b2.cell (by first | omega | (simp; done) | (simp; omega))]; go_cell)
    have a5_2 : w2.cell? ⟨w.heap.size, 5, none⟩ = some (.int .i64 i5) := (by rw [b2.cell (by first | omega | (simp; done) | (simp; omega))]; go_cell)
    have a6_2 : w2.cell? ⟨w.heap.size, 6, none⟩ = some (.int .i64 i6) := (by rw [b2.cell (by first | omega | (simp; done) | (simp; omega))]; go_cell)
    have a7_2 : w2.cell? ⟨w.heap.size, 7, none⟩ = some (.int .i64 i7) := (by rw [b2.cell (by first | omega | (simp; done) | (simp; omega))]; go_cell)
    have a8_2 : w2.cell? ⟨w.heap.size, 8, none⟩ = some (.int .i64 i8) := (by rw [b2.cell (by first | omega | (simp; done) | (simp; omega))]; go_cell)
    have a9_2 : w2.cell? ⟨w.heap.size, 9, none⟩ = some (.int .i64 i9) := (by rw [b2.cell (by first | omega | (simp; done) | (simp; omega))]; go_cell)
    have a10_2 : w2.cell? ⟨w.heap.size, 10, none⟩ = some (.int .i64 i10) := (by rw [b2.cell (by first | omega | (simp; done) | (simp; omega))]; go_cell)
    have a11_2 : w2.cell? ⟨w.heap.size, 11, none⟩ = some (.int .i64 i11) := (by rw [b2.cell (by first | omega | (simp; done) | (simp; omega))]; go_cell)
    have a12_2 : w2.cell? ⟨w.heap.size, 12, none⟩ = some (.slice ao0 L0.length ac0) := (by rw [b2.cell (by first | omega | (simp; done) | (simp; omega))]; go_cell)
    have a13_2 : w2.cell? ⟨w.heap.size, 13, none⟩ = some (.slice ao1 L1.length ac1) := (by rw [b2.cell (by first | omega | (simp; done) | (simp; omega))]; go_cell)
    have a14_2 : w2.cell? ⟨w.heap.size, 14, none⟩ = some (.int .i64 i12) := (by rw [b2.cell (by first | omega | (simp; done) | (simp; omega))]; go_cell)
    have al_2 : w.heap.size < w2.heap.size := (by have := b2.size; first | omega | (revert this; simp; done) | (revert this; simp; omega))
    clear a0_1 a1_1 a2_1 a3_1 a4_1 a5_1 a6_1 a7_1 a8_1 a9_1 a10_1 a11_1 a12_1 a13_1 a14_1 al_1
    clear b2 d2
    go_wp2_with fail
    have qa0 := cell_regrown a0_2
    have qa1 := cell_regrown a1_2
    have qa2 := cell_regrown a2_2
    have qa3 := cell_regrown a3_2
    have qa4 := cell_regrown a4_2
    have qa5 := cell_regrown a5_2
    have qa6 := cell_regrown a6_2
    have qa7 := cell_regrown a7_2
    have qa8 := cell_regrown a8_2
    have qa9 := cell_regrown a9_2
    have qa10 := cell_regrown a10_2
    have qa11 := cell_regrown a11_2
    have qa12 := cell_regrown a12_2
    have qa13 := cell_regrown a13_2
    have qa14 := cell_regrown a14_2
    have CO := fun W => specOpOk_any i5 i6 i7 i8 W
    have CI := fun W h => l6Blank_any i9 i10 i11 (.slice ao0 L0.length ac0) L0 W h
    cases h0 : opOk i5 i6 i7 i8 with
    | false =>
      have H0 : Hid (¬ (opOk i5 i6 i7 i8 = true)) := hid (by simp [h0])
      rw [h0] at CO
      have HV : Hid (bodyM 3 i1 i2 i3 i4 i5 i6 i7 i8 i9 i10 i11 i12 L0 L1 = false) := hid (by rw [Bool.eq_false_iff]; exact fun h => H0.out ((body_3 i1 i2 i3 i4 i5 i6 i7 i8 i9 i10 i11 i12 L0 L1).1 h).1)
      as_aux_lemma =>
        refine wp_region_quiet_below (by kernel_rfl) (by kernel_rfl) ?_
        repeat (first | go_big_quiet_skip | (go_big_quiet_want; go_big_quiet_op; first | go_big_quiet_on | go_big_quiet_call (first | (go_at_call 79; exact Calls.regrown_of (CO _)) | (go_at_call 80; exact Calls.regrown_of (specOpKey_any i5 i6 i7 i8 _)) | (go_at_call 76; exact Calls.regrown_of (specShard_b _ _)) | (go_at_call 81; exact Calls.regrown_of (CI _ ((HA.out.h0.later c2).later (below_regrown _ _ _)))))))
        refine wpQuiet_nil ?_
        rintro wq ⟨pq, hwq⟩
        have hq : Below w2.heap.size w2 wq := by rw [hwq]; exact below_regrown _ _ _
        clear hwq pq
        go_wp2
        go_ret
        exact ⟨by simp [HV.out], c2.trans (hq.mono c2.size)⟩
    | true =>
      have H0 : Hid (opOk i5 i6 i7 i8 = true) := hid (h0)
      rw [h0] at CO
      clear h0
      by_cases h1 : partOf (opKey i5 i6 i7 i8) = i2
      case neg =>
        have g1 : (partOf (opKey i5 i6 i7 i8) == i2) = false := by first | (simpa using h1) | (simp; omega)
        have H1 := hid h1
        clear h1
        have HV : Hid (bodyM 3 i1 i2 i3 i4 i5 i6 i7 i8 i9 i10 i11 i12 L0 L1 = false) := hid (by rw [Bool.eq_false_iff]; exact fun h => H1.out ((body_3 i1 i2 i3 i4 i5 i6 i7 i8 i9 i10 i11 i12 L0 L1).1 h).2.1)
        as_aux_lemma =>
          refine wp_region_quiet_below (by kernel_rfl) (by kernel_rfl) ?_
          repeat (first | go_big_quiet_skip | (go_big_quiet_want; go_big_quiet_op; first | go_big_quiet_on | go_big_quiet_call (first | (go_at_call 79; exact Calls.regrown_of (CO _)) | (go_at_call 80; exact Calls.regrown_of (specOpKey_any i5 i6 i7 i8 _)) | (go_at_call 76; exact Calls.regrown_of (specShard_b _ _)) | (go_at_call 81; exact Calls.regrown_of (CI _ ((HA.out.h0.later c2).later (below_regrown _ _ _)))))))
          refine wpQuiet_nil ?_
          rintro wq ⟨pq, hwq⟩
          have hq : Below w2.heap.size w2 wq := by rw [hwq]; exact below_regrown _ _ _
          clear hwq pq
          go_wp2
          go_ret
          exact ⟨by simp [HV.out], c2.trans (hq.mono c2.size)⟩
      have g1 : (partOf (opKey i5 i6 i7 i8) == i2) = true := by first | (simpa using h1) | (simp; omega)
      have H1 := hid h1
      clear h1
      cases h2 : zI i9 i10 i11 L0 with
      | false =>
        have H2 : Hid (¬ (i9 = 0 ∧ i10 = 0 ∧ i11 = 0 ∧ L0 = [])) := hid (of_decide_eq_false h2)
        rw [h2] at CI
        have HV : Hid (bodyM 3 i1 i2 i3 i4 i5 i6 i7 i8 i9 i10 i11 i12 L0 L1 = false) := hid (by rw [Bool.eq_false_iff]; exact fun h => H2.out ((body_3 i1 i2 i3 i4 i5 i6 i7 i8 i9 i10 i11 i12 L0 L1).1 h).2.2.1)
        as_aux_lemma =>
          refine wp_region_quiet_below (by kernel_rfl) (by kernel_rfl) ?_
          repeat (first | go_big_quiet_skip | (go_big_quiet_want; go_big_quiet_op; first | go_big_quiet_on | go_big_quiet_call (first | (go_at_call 79; exact Calls.regrown_of (CO _)) | (go_at_call 80; exact Calls.regrown_of (specOpKey_any i5 i6 i7 i8 _)) | (go_at_call 76; exact Calls.regrown_of (specShard_b _ _)) | (go_at_call 81; exact Calls.regrown_of (CI _ ((HA.out.h0.later c2).later (below_regrown _ _ _)))))))
          refine wpQuiet_nil ?_
          rintro wq ⟨pq, hwq⟩
          have hq : Below w2.heap.size w2 wq := by rw [hwq]; exact below_regrown _ _ _
          clear hwq pq
          go_wp2
          go_ret
          exact ⟨by simp [HV.out], c2.trans (hq.mono c2.size)⟩
      | true =>
        have H2 : Hid (i9 = 0 ∧ i10 = 0 ∧ i11 = 0 ∧ L0 = []) := hid (of_decide_eq_true h2)
        rw [h2] at CI
        clear h2
        by_cases h3 : L1 = []
        case neg =>
          have g3 : ((L1.length : Int) == 0) = false := by first | (simpa using h3) | (simp; omega)
          have H3 := hid h3
          clear h3
          have HV : Hid (bodyM 3 i1 i2 i3 i4 i5 i6 i7 i8 i9 i10 i11 i12 L0 L1 = false) := hid (by rw [Bool.eq_false_iff]; exact fun h => H3.out ((body_3 i1 i2 i3 i4 i5 i6 i7 i8 i9 i10 i11 i12 L0 L1).1 h).2.2.2.1)
          as_aux_lemma =>
            refine wp_region_quiet_below (by kernel_rfl) (by kernel_rfl) ?_
            repeat (first | go_big_quiet_skip | (go_big_quiet_want; go_big_quiet_op; first | go_big_quiet_on | go_big_quiet_call (first | (go_at_call 79; exact Calls.regrown_of (CO _)) | (go_at_call 80; exact Calls.regrown_of (specOpKey_any i5 i6 i7 i8 _)) | (go_at_call 76; exact Calls.regrown_of (specShard_b _ _)) | (go_at_call 81; exact Calls.regrown_of (CI _ ((HA.out.h0.later c2).later (below_regrown _ _ _)))))))
            refine wpQuiet_nil ?_
            rintro wq ⟨pq, hwq⟩
            have hq : Below w2.heap.size w2 wq := by rw [hwq]; exact below_regrown _ _ _
            clear hwq pq
            go_wp2
            go_ret
            exact ⟨by simp [HV.out], c2.trans (hq.mono c2.size)⟩
        have g3 : ((L1.length : Int) == 0) = true := by first | (simpa using h3) | (simp; omega)
        have H3 := hid h3
        clear h3
        by_cases h4 : i12 = 0
        case neg =>
          have g4 : (i12 == 0) = false := by first | (simpa using h4) | (simp; omega)
          have H4 := hid h4
          clear h4
          have HV : Hid (bodyM 3 i1 i2 i3 i4 i5 i6 i7 i8 i9 i10 i11 i12 L0 L1 = false) := hid (by rw [Bool.eq_false_iff]; exact fun h => H4.out ((body_3 i1 i2 i3 i4 i5 i6 i7 i8 i9 i10 i11 i12 L0 L1).1 h).2.2.2.2)
          as_aux_lemma =>
            refine wp_region_quiet_below (by kernel_rfl) (by kernel_rfl) ?_
            repeat (first | go_big_quiet_skip | (go_big_quiet_want; go_big_quiet_op; first | go_big_quiet_on | go_big_quiet_call (first | (go_at_call 79; exact Calls.regrown_of (CO _)) | (go_at_call 80; exact Calls.regrown_of (specOpKey_any i5 i6 i7 i8 _)) | (go_at_call 76; exact Calls.regrown_of (specShard_b _ _)) | (go_at_call 81; exact Calls.regrown_of (CI _ ((HA.out.h0.later c2).later (below_regrown _ _ _)))))))
            refine wpQuiet_nil ?_
            rintro wq ⟨pq, hwq⟩
            have hq : Below w2.heap.size w2 wq := by rw [hwq]; exact below_regrown _ _ _
            clear hwq pq
            go_wp2
            go_ret
            exact ⟨by simp [HV.out], c2.trans (hq.mono c2.size)⟩
        have g4 : (i12 == 0) = true := by first | (simpa using h4) | (simp; omega)
        have H4 := hid h4
        clear h4
        have HV : Hid (bodyM 3 i1 i2 i3 i4 i5 i6 i7 i8 i9 i10 i11 i12 L0 L1 = true) := hid ((body_3 i1 i2 i3 i4 i5 i6 i7 i8 i9 i10 i11 i12 L0 L1).2 ⟨H0.out, H1.out, H2.out, H3.out, H4.out⟩)
        as_aux_lemma =>
          refine wp_region_quiet_below (by kernel_rfl) (by kernel_rfl) ?_
          repeat (first | go_big_quiet_skip | (go_big_quiet_want; go_big_quiet_op; first | go_big_quiet_on | go_big_quiet_call (first | (go_at_call 79; exact Calls.regrown_of (CO _)) | (go_at_call 80; exact Calls.regrown_of (specOpKey_any i5 i6 i7 i8 _)) | (go_at_call 76; exact Calls.regrown_of (specShard_b _ _)) | (go_at_call 81; exact Calls.regrown_of (CI _ ((HA.out.h0.later c2).later (below_regrown _ _ _)))))))
          refine wpQuiet_nil ?_
          rintro wq ⟨pq, hwq⟩
          have hq : Below w2.heap.size w2 wq := by rw [hwq]; exact below_regrown _ _ _
          clear hwq pq
          go_wp2
          go_ret
          exact ⟨by simp [HV.out], c2.trans (hq.mono c2.size)⟩

set_option maxRecDepth 100000 in
set_option maxHeartbeats 16000000 in
theorem l6Body_10 (i1 i2 i3 i4 i5 i6 i7 i8 i9 i10 i11 i12 : Int) (va0 va1 : Value) (L0 : List (Int × Int)) (L1 : List KD) (w : World) (ha : RSMsg w va0 va1 L0 L1) :
    Calls Tryz.prog 36 #[.agg #[.int .i64 10, .int .i64 i1, .int .i64 i2, .int .i64 i3, .int .i64 i4, .int .i64 i5, .int .i64 i6, .int .i64 i7, .int .i64 i8, .int .i64 i9, .int .i64 i10, .int .i64 i11, va0, va1, .int .i64 i12]] w fun e w' => e = .returned (.bool (bodyM 10 i1 i2 i3 i4 i5 i6 i7 i8 i9 i10 i11 i12 L0 L1)) ∧ Below w.heap.size w w' := by
  have HA := hid ha
  obtain ⟨ao0, ao1, ac0, ac1, rfl, rfl⟩ := ha.open
  clear ha
  obtain ⟨itv, hit⟩ : ∃ b : Bool, (itR i9 i10 i11 L0 && decide (partOf i9 = i2)) = b := ⟨_, rfl⟩
  have HIT := hid hit
  clear hit
  go_enter Tryz.func36, Tryz.ntmps36
  go_wp2_with fail
  have a0_1 : (w.alloc (.cells #[.int .i64 10, .int .i64 i1, .int .i64 i2, .int .i64 i3, .int .i64 i4, .int .i64 i5, .int .i64 i6, .int .i64 i7, .int .i64 i8, .int .i64 i9, .int .i64 i10, .int .i64 i11, .slice ao0 L0.length ac0, .slice ao1 L1.length ac1, .int .i64 i12] 32)).cell? ⟨w.heap.size, 0, none⟩ = some (.int .i64 10) := by go_cell
  have a1_1 : (w.alloc (.cells #[.int .i64 10, .int .i64 i1, .int .i64 i2, .int .i64 i3, .int .i64 i4, .int .i64 i5, .int .i64 i6, .int .i64 i7, .int .i64 i8, .int .i64 i9, .int .i64 i10, .int .i64 i11, .slice ao0 L0.length ac0, .slice ao1 L1.length ac1, .int .i64 i12] 32)).cell? ⟨w.heap.size, 1, none⟩ = some (.int .i64 i1) := by go_cell
  have a2_1 : (w.alloc (.cells #[.int .i64 10, .int .i64 i1, .int .i64 i2, .int .i64 i3, .int .i64 i4, .int .i64 i5, .int .i64 i6, .int .i64 i7, .int .i64 i8, .int .i64 i9, .int .i64 i10, .int .i64 i11, .slice ao0 L0.length ac0, .slice ao1 L1.length ac1, .int .i64 i12] 32)).cell? ⟨w.heap.size, 2, none⟩ = some (.int .i64 i2) := by go_cell
  have a3_1 : (w.alloc (.cells #[.int .i64 10, .int .i64 i1, .int .i64 i2, .int .i64 i3, .int .i64 i4, .int .i64 i5, .int .i64 i6, .int .i64 i7, .int .i64 i8, .int .i64 i9, .int .i64 i10, .int .i64 i11, .slice ao0 L0.length ac0, .slice ao1 L1.length ac1, .int .i64 i12] 32)).cell? ⟨w.heap.size, 3, none⟩ = some (.int .i64 i3) := by go_cell
  have a4_1 : (w.alloc (.cells #[.int .i64 10, .int .i64 i1, .int .i64 i2, .int .i64 i3, .int .i64 i4, .int .i64 i5, .int .i64 i6, .int .i64 i7, .int .i64 i8, .int .i64 i9, .int .i64 i10, .int .i64 i11, .slice ao0 L0.length ac0, .slice ao1 L1.length ac1, .int .i64 i12] 32)).cell? ⟨w.heap.size, 4, none⟩ = some (.int .i64 i4) := by go_cell
  have a5_1 : (w.alloc (.cells #[.int .i64 10, .int .i64 i1, .int .i64 i2, .int .i64 i3, .int .i64 i4, .int .i64 i5, .int .i64 i6, .int .i64 i7, .int .i64 i8, .int .i64 i9, .int .i64 i10, .int .i64 i11, .slice ao0 L0.length ac0, .slice ao1 L1.length ac1, .int .i64 i12] 32)).cell? ⟨w.heap.size, 5, none⟩ = some (.int .i64 i5) := by go_cell
  have a6_1 : (w.alloc (.cells #[.int .i64 10, .int .i64 i1, .int .i64 i2, .int .i64 i3, .int .i64 i4, .int .i64 i5, .int .i64 i6, .int .i64 i7, .int .i64 i8, .int .i64 i9, .int .i64 i10, .int .i64 i11, .slice ao0 L0.length ac0, .slice ao1 L1.length ac1, .int .i64 i12] 32)).cell? ⟨w.heap.size, 6, none⟩ = some (.int .i64 i6) := by go_cell
  have a7_1 : (w.alloc (.cells #[.int .i64 10, .int .i64 i1, .int .i64 i2, .int .i64 i3, .int .i64 i4, .int .i64 i5, .int .i64 i6, .int .i64 i7, .int .i64 i8, .int .i64 i9, .int .i64 i10, .int .i64 i11, .slice ao0 L0.length ac0, .slice ao1 L1.length ac1, .int .i64 i12] 32)).cell? ⟨w.heap.size, 7, none⟩ = some (.int .i64 i7) := by go_cell
  have a8_1 : (w.alloc (.cells #[.int .i64 10, .int .i64 i1, .int .i64 i2, .int .i64 i3, .int .i64 i4, .int .i64 i5, .int .i64 i6, .int .i64 i7, .int .i64 i8, .int .i64 i9, .int .i64 i10, .int .i64 i11, .slice ao0 L0.length ac0, .slice ao1 L1.length ac1, .int .i64 i12] 32)).cell? ⟨w.heap.size, 8, none⟩ = some (.int .i64 i8) := by go_cell
  have a9_1 : (w.alloc (.cells #[.int .i64 10, .int .i64 i1, .int .i64 i2, .int .i64 i3, .int .i64 i4, .int .i64 i5, .int .i64 i6, .int .i64 i7, .int .i64 i8, .int .i64 i9, .int .i64 i10, .int .i64 i11, .slice ao0 L0.length ac0, .slice ao1 L1.length ac1, .int .i64 i12] 32)).cell? ⟨w.heap.size, 9, none⟩ = some (.int .i64 i9) := by go_cell
  have a10_1 : (w.alloc (.cells #[.int .i64 10, .int .i64 i1, .int .i64 i2, .int .i64 i3, .int .i64 i4, .int .i64 i5, .int .i64 i6, .int .i64 i7, .int .i64 i8, .int .i64 i9, .int .i64 i10, .int .i64 i11, .slice ao0 L0.length ac0, .slice ao1 L1.length ac1, .int .i64 i12] 32)).cell? ⟨w.heap.size, 10, none⟩ = some (.int .i64 i10) := by go_cell
  have a11_1 : (w.alloc (.cells #[.int .i64 10, .int .i64 i1, .int .i64 i2, .int .i64 i3, .int .i64 i4, .int .i64 i5, .int .i64 i6, .int .i64 i7, .int .i64 i8, .int .i64 i9, .int .i64 i10, .int .i64 i11, .slice ao0 L0.length ac0, .slice ao1 L1.length ac1, .int .i64 i12] 32)).cell? ⟨w.heap.size, 11, none⟩ = some (.int .i64 i11) := by go_cell
  have a12_1 : (w.alloc (.cells #[.int .i64 10, .int .i64 i1, .int .i64 i2, .int .i64 i3, .int .i64 i4, .int .i64 i5, .int .i64 i6, .int .i64 i7, .int .i64 i8, .int .i64 i9, .int .i64 i10, .int .i64 i11, .slice ao0 L0.length ac0, .slice ao1 L1.length ac1, .int .i64 i12] 32)).cell? ⟨w.heap.size, 12, none⟩ = some (.slice ao0 L0.length ac0) := by go_cell
  have a13_1 : (w.alloc (.cells #[.int .i64 10, .int .i64 i1, .int .i64 i2, .int .i64 i3, .int .i64 i4, .int .i64 i5, .int .i64 i6, .int .i64 i7, .int .i64 i8, .int .i64 i9, .int .i64 i10, .int .i64 i11, .slice ao0 L0.length ac0, .slice ao1 L1.length ac1, .int .i64 i12] 32)).cell? ⟨w.heap.size, 13, none⟩ = some (.slice ao1 L1.length ac1) := by go_cell
  have a14_1 : (w.alloc (.cells #[.int .i64 10, .int .i64 i1, .int .i64 i2, .int .i64 i3, .int .i64 i4, .int .i64 i5, .int .i64 i6, .int .i64 i7, .int .i64 i8, .int .i64 i9, .int .i64 i10, .int .i64 i11, .slice ao0 L0.length ac0, .slice ao1 L1.length ac1, .int .i64 i12] 32)).cell? ⟨w.heap.size, 14, none⟩ = some (.int .i64 i12) := by go_cell
  have al_1 : w.heap.size < (w.alloc (.cells #[.int .i64 10, .int .i64 i1, .int .i64 i2, .int .i64 i3, .int .i64 i4, .int .i64 i5, .int .i64 i6, .int .i64 i7, .int .i64 i8, .int .i64 i9, .int .i64 i10, .int .i64 i11, .slice ao0 L0.length ac0, .slice ao1 L1.length ac1, .int .i64 i12] 32)).heap.size := by first | (simp; done) | (simp; omega)
  have c1 : Below w.heap.size w (w.alloc (.cells #[.int .i64 10, .int .i64 i1, .int .i64 i2, .int .i64 i3, .int .i64 i4, .int .i64 i5, .int .i64 i6, .int .i64 i7, .int .i64 i8, .int .i64 i9, .int .i64 i10, .int .i64 i11, .slice ao0 L0.length ac0, .slice ao1 L1.length ac1, .int .i64 i12] 32)) := by go_grown
  have s1 : (w.alloc (.cells #[.int .i64 10, .int .i64 i1, .int .i64 i2, .int .i64 i3, .int .i64 i4, .int .i64 i5, .int .i64 i6, .int .i64 i7, .int .i64 i8, .int .i64 i9, .int .i64 i10, .int .i64 i11, .slice ao0 L0.length ac0, .slice ao1 L1.length ac1, .int .i64 i12] 32)).heap.size = w.heap.size + 1 := by simp
  generalize (w.alloc (.cells #[.int .i64 10, .int .i64 i1, .int .i64 i2, .int .i64 i3, .int .i64 i4, .int .i64 i5, .int .i64 i6, .int .i64 i7, .int .i64 i8, .int .i64 i9, .int .i64 i10, .int .i64 i11, .slice ao0 L0.length ac0, .slice ao1 L1.length ac1, .int .i64 i12] 32)) = w1 at a0_1 a1_1 a2_1 a3_1 a4_1 a5_1 a6_1 a7_1 a8_1 a9_1 a10_1 a11_1 a12_1 a13_1 a14_1 al_1 c1 s1 ⊢
  have qa0_1 := cell_regrown a0_1
  have qa1_1 := cell_regrown a1_1
  have qa2_1 := cell_regrown a2_1
  have qa3_1 := cell_regrown a3_1
  have qa4_1 := cell_regrown a4_1
  have qa5_1 := cell_regrown a5_1
  have qa6_1 := cell_regrown a6_1
  have qa7_1 := cell_regrown a7_1
  have qa8_1 := cell_regrown a8_1
  have qa9_1 := cell_regrown a9_1
  have qa10_1 := cell_regrown a10_1
  have qa11_1 := cell_regrown a11_1
  have qa12_1 := cell_regrown a12_1
  have qa13_1 := cell_regrown a13_1
  have qa14_1 := cell_regrown a14_1
  go_cut [3] from 4 (fun s wx => s = .bool itv ∧ Below w1.heap.size w1 wx)
  case first =>
    cases hI : itR i9 i10 i11 L0 with
    | false =>
      refine wp_region_quiet_below (by kernel_rfl) (by kernel_rfl) ?_
      repeat (first | go_big_quiet_skip | (go_big_quiet_want; go_big_quiet_op; first | go_big_quiet_on | go_big_quiet_call (first | (go_at_call 75; exact Calls.regrown_of (specItem_any i9 i10 i11 _ L0 _ ((HA.out.h0.later c1).later (below_regrown _ _ _)) hI)) | (go_at_call 76; exact Calls.regrown_of (specShard_b i9 _)))))
      refine wpQuiet_nil ?_
      rintro wq ⟨pq, hwq⟩
      have hq : Below w1.heap.size w1 wq := by rw [hwq]; exact below_regrown _ _ _
      clear hwq pq
      go_wp2_with fail
      go_meet
      exact ⟨by rw [← HIT.out]; simp [hI], hq⟩
    | true =>
      by_cases hp : partOf i9 = i2
      · have hb : (partOf i9 == i2) = true := by simpa using hp
        have HP := hid hp
        clear hp
        refine wp_region_quiet_below (by kernel_rfl) (by kernel_rfl) ?_
        repeat (first | go_big_quiet_skip | (go_big_quiet_want; go_big_quiet_op; first | go_big_quiet_on | go_big_quiet_call (first | (go_at_call 75; exact Calls.regrown_of (specItem_any i9 i10 i11 _ L0 _ ((HA.out.h0.later c1).later (below_regrown _ _ _)) hI)) | (go_at_call 76; exact Calls.regrown_of (specShard_b i9 _)))))
        refine wpQuiet_nil ?_
        rintro wq ⟨pq, hwq⟩
        have hq : Below w1.heap.size w1 wq := by rw [hwq]; exact below_regrown _ _ _
        clear hwq pq
        go_wp2_with fail
        go_meet
        exact ⟨by rw [← HIT.out]; simp [hI, HP.out], hq⟩
      · have hb : (partOf i9 == i2) = false := by simpa using hp
        have HP := hid hp
        clear hp
        refine wp_region_quiet_below (by kernel_rfl) (by kernel_rfl) ?_
        repeat (first | go_big_quiet_skip | (go_big_quiet_want; go_big_quiet_op; first | go_big_quiet_on | go_big_quiet_call (first | (go_at_call 75; exact Calls.regrown_of (specItem_any i9 i10 i11 _ L0 _ ((HA.out.h0.later c1).later (below_regrown _ _ _)) hI)) | (go_at_call 76; exact Calls.regrown_of (specShard_b i9 _)))))
        refine wpQuiet_nil ?_
        rintro wq ⟨pq, hwq⟩
        have hq : Below w1.heap.size w1 wq := by rw [hwq]; exact below_regrown _ _ _
        clear hwq pq
        go_wp2_with fail
        go_meet
        exact ⟨by rw [← HIT.out]; simp [hI, HP.out], hq⟩
  case rest =>
    obtain ⟨rfl, b2⟩ := hcut
    obtain ⟨w2, hw2⟩ : ∃ x, x = wc := ⟨_, rfl⟩
    subst hw2
    have d2 : Below w1.heap.size w1 w2 := (Below.trans (by go_grown) (b2.mono (by first | omega | (simp; done) | (simp; omega))))
    have c2 : Below w.heap.size w w2 := c1.trans (d2.mono c1.size)
    have a0_2 : w2.cell? ⟨w.heap.size, 0, none⟩ = some (.int .i64 10) := (by rw [b2.cell (by first | omega | (simp; done) | (simp; omega))]; go_cell)
    have a1_2 : w2.cell? ⟨w.heap.size, 1, none⟩ = some (.int .i64 i1) := (by rw [b2.cell (by first | omega | (simp; done) | (simp; omega))]; go_cell)
    have a2_2 : w2.cell? ⟨w.heap.size, 2, none⟩ = some (.int .i64 i2) := (by rw [b2.cell (by first | omega | (simp; done) | (simp; omega))]; go_cell)
    have a3_2 : w2.cell? ⟨w.heap.size, 3, none⟩ = some (.int .i64 i3) := (by rw [b2.cell (by first | omega | (simp; done) | (simp; omega))]; go_cell)
    have a4_2 : w2.cell? ⟨w.heap.size, 4, none⟩ = some (.int .i64 i4) := (by rw [b2.cell (by first | omega | (simp; done) | (simp; omega))]; go_cell)
    have a5_2 : w2.cell? ⟨w.heap.size, 5, none⟩ = some (.int .i64 i5) := (by rw [b2.cell (by first | omega | (simp; done) | (simp; omega))]; go_cell)
    have a6_2 : w2.cell? ⟨w.heap.size, 6, none⟩ = some (.int .i64 i6) := (by rw [b2.cell (by first | omega | (simp; done) | (simp; omega))]; go_cell)
    have a7_2 : w2.cell? ⟨w.heap.size, 7, none⟩ = some (.int .i64 i7) := (by rw [b2.cell (by first | omega | (simp; done) | (simp; omega))]; go_cell)
    have a8_2 : w2.cell? ⟨w.heap.size, 8, none⟩ = some (.int .i64 i8) := (by rw [b2.cell (by first | omega | (simp; done) | (simp; omega))]; go_cell)
    have a9_2 : w2.cell? ⟨w.heap.size, 9, none⟩ = some (.int .i64 i9) := (by rw [b2.cell (by first | omega | (simp; done) | (simp; omega))]; go_cell)
    have a10_2 : w2.cell? ⟨w.heap.size, 10, none⟩ = some (.int .i64 i10) := (by rw [b2.cell (by first | omega | (simp; done) | (simp; omega))]; go_cell)
    have a11_2 : w2.cell? ⟨w.heap.size, 11, none⟩ = some (.int .i64 i11) := (by rw [b2.cell (by first | omega | (simp; done) | (simp; omega))]; go_cell)
    have a12_2 : w2.cell? ⟨w.heap.size, 12, none⟩ = some (.slice ao0 L0.length ac0) := (by rw [b2.cell (by first | omega | (simp; done) | (simp; omega))]; go_cell)
    have a13_2 : w2.cell? ⟨w.heap.size, 13, none⟩ = some (.slice ao1 L1.length ac1) := (by rw [b2.cell (by first | omega | (simp; done) | (simp; omega))]; go_cell)
    have a14_2 : w2.cell? ⟨w.heap.size, 14, none⟩ = some (.int .i64 i12) := (by rw [b2.cell (by first | omega | (simp; done) | (simp; omega))]; go_cell)
    have al_2 : w.heap.size < w2.heap.size := (by have := b2.size; first | omega | (revert this; simp; done) | (revert this; simp; omega))
    clear a0_1 a1_1 a2_1 a3_1 a4_1 a5_1 a6_1 a7_1 a8_1 a9_1 a10_1 a11_1 a12_1 a13_1 a14_1 al_1
    clear b2 d2
    go_wp2_with fail
    refine (l6None_any i5 i6 i7 i8 _).mono ?_
    rintro e w3 ⟨rfl, b3⟩
    have d3 : Below w2.heap.size w2 w3 := (Below.trans (by go_grown) (b3.mono (by first | omega | (simp; done) | (simp; omega))))
    have c3 : Below w.heap.size w w3 := c2.trans (d3.mono c2.size)
    have a0_3 : w3.cell? ⟨w.heap.size, 0, none⟩ = some (.int .i64 10) := (by rw [b3.cell (by first | omega | (simp; done) | (simp; omega))]; go_cell)
    have a1_3 : w3.cell? ⟨w.heap.size, 1, none⟩ = some (.int .i64 i1) := (by rw [b3.cell (by first | omega | (simp; done) | (simp; omega))]; go_cell)
    have a2_3 : w3.cell? ⟨w.heap.size, 2, none⟩ = some (.int .i64 i2) := (by rw [b3.cell (by first | omega | (simp; done) | (simp; omega))]; go_cell)
    have a3_3 : w3.cell? ⟨w.heap.size, 3, none⟩ = some (.int .i64 i3) := (by rw [b3.cell (by first | omega | (simp; done) | (simp; omega))]; go_cell)
    have a4_3 : w3.cell? ⟨w.heap.size, 4, none⟩ = some (.int .i64 i4) := (by rw [b3.cell (by first | omega | (simp; done) | (simp; omega))]; go_cell)
    have a5_3 : w3.cell? ⟨w.heap.size, 5, none⟩ = some (.int .i64 i5) := (by rw [b3.cell (by first | omega | (simp; done) | (simp; omega))]; go_cell)
    have a6_3 : w3.cell? ⟨w.heap.size, 6, none⟩ = some (.int .i64 i6) := (by rw [b3.cell (by first | omega | (simp; done) | (simp; omega))]; go_cell)
    have a7_3 : w3.cell? ⟨w.heap.size, 7, none⟩ = some (.int .i64 i7) := (by rw [b3.cell (by first | omega | (simp; done) | (simp; omega))]; go_cell)
    have a8_3 : w3.cell? ⟨w.heap.size, 8, none⟩ = some (.int .i64 i8) := (by rw [b3.cell (by first | omega | (simp; done) | (simp; omega))]; go_cell)
    have a9_3 : w3.cell? ⟨w.heap.size, 9, none⟩ = some (.int .i64 i9) := (by rw [b3.cell (by first | omega | (simp; done) | (simp; omega))]; go_cell)
    have a10_3 : w3.cell? ⟨w.heap.size, 10, none⟩ = some (.int .i64 i10) := (by rw [b3.cell (by first | omega | (simp; done) | (simp; omega))]; go_cell)
    have a11_3 : w3.cell? ⟨w.heap.size, 11, none⟩ = some (.int .i64 i11) := (by rw [b3.cell (by first | omega | (simp; done) | (simp; omega))]; go_cell)
    have a12_3 : w3.cell? ⟨w.heap.size, 12, none⟩ = some (.slice ao0 L0.length ac0) := (by rw [b3.cell (by first | omega | (simp; done) | (simp; omega))]; go_cell)
    have a13_3 : w3.cell? ⟨w.heap.size, 13, none⟩ = some (.slice ao1 L1.length ac1) := (by rw [b3.cell (by first | omega | (simp; done) | (simp; omega))]; go_cell)
    have a14_3 : w3.cell? ⟨w.heap.size, 14, none⟩ = some (.int .i64 i12) := (by rw [b3.cell (by first | omega | (simp; done) | (simp; omega))]; go_cell)
    have al_3 : w.heap.size < w3.heap.size := (by have := b3.size; first | omega | (revert this; simp; done) | (revert this; simp; omega))
    clear a0_2 a1_2 a2_2 a3_2 a4_2 a5_2 a6_2 a7_2 a8_2 a9_2 a10_2 a11_2 a12_2 a13_2 a14_2 al_2
    clear b3 d3
    cases h0 : zO i5 i6 i7 i8 with
    | false =>
      have H0 : Hid (¬ (i5 = 0 ∧ i6 = 0 ∧ i7 = 0 ∧ i8 = 0)) := hid (of_decide_eq_false h0)
      have HV : Hid (bodyM 10 i1 i2 i3 i4 i5 i6 i7 i8 i9 i10 i11 i12 L0 L1 = false) := hid (by rw [Bool.eq_false_iff]; exact fun h => H0.out ((body_10 i1 i2 i3 i4 i5 i6 i7 i8 i9 i10 i11 i12 L0 L1).1 h).1)
      go_wp2_with fail
      go_ret
      exact ⟨by simp [HV.out], c3⟩
    | true =>
      have H0 : Hid (i5 = 0 ∧ i6 = 0 ∧ i7 = 0 ∧ i8 = 0) := hid (of_decide_eq_true h0)
      clear h0
      go_wp2_with fail
      refine (l6Blank_any i9 i10 i11 _ L0 _ (HA.out.h0.later c3)).mono ?_
      rintro e w4 ⟨rfl, b4⟩
      have d4 : Below w3.heap.size w3 w4 := (Below.trans (by go_grown) (b4.mono (by first | omega | (simp; done) | (simp; omega))))
      have c4 : Below w.heap.size w w4 := c3.trans (d4.mono c3.size)
      have a0_4 : w4.cell? ⟨w.heap.size, 0, none⟩ = some (.int .i64 10) := (by rw [b4.cell (by first | omega | (simp; done) | (simp; omega))]; go_cell)
      have a1_4 : w4.cell? ⟨w.heap.size, 1, none⟩ = some (.int .i64 i1) := (by rw [b4.cell (by first | omega | (simp; done) | (simp; omega))]; go_cell)
      have a2_4 : w4.cell? ⟨w.heap.size, 2, none⟩ = some (.int .i64 i2) := (by rw [b4.cell (by first | omega | (simp; done) | (simp; omega))]; go_cell)
      have a3_4 : w4.cell? ⟨w.heap.size, 3, none⟩ = some (.int .i64 i3) := (by rw [b4.cell (by first | omega | (simp; done) | (simp; omega))]; go_cell)
      have a4_4 : w4.cell? ⟨w.heap.size, 4, none⟩ = some (.int .i64 i4) := (by rw [b4.cell (by first | omega | (simp; done) | (simp; omega))]; go_cell)
      have a5_4 : w4.cell? ⟨w.heap.size, 5, none⟩ = some (.int .i64 i5) := (by rw [b4.cell (by first | omega | (simp; done) | (simp; omega))]; go_cell)
      have a6_4 : w4.cell? ⟨w.heap.size, 6, none⟩ = some (.int .i64 i6) := (by rw [b4.cell (by first | omega | (simp; done) | (simp; omega))]; go_cell)
      have a7_4 : w4.cell? ⟨w.heap.size, 7, none⟩ = some (.int .i64 i7) := (by rw [b4.cell (by first | omega | (simp; done) | (simp; omega))]; go_cell)
      have a8_4 : w4.cell? ⟨w.heap.size, 8, none⟩ = some (.int .i64 i8) := (by rw [b4.cell (by first | omega | (simp; done) | (simp; omega))]; go_cell)
      have a9_4 : w4.cell? ⟨w.heap.size, 9, none⟩ = some (.int .i64 i9) := (by rw [b4.cell (by first | omega | (simp; done) | (simp; omega))]; go_cell)
      have a10_4 : w4.cell? ⟨w.heap.size, 10, none⟩ = some (.int .i64 i10) := (by rw [b4.cell (by first | omega | (simp; done) | (simp; omega))]; go_cell)
      have a11_4 : w4.cell? ⟨w.heap.size, 11, none⟩ = some (.int .i64 i11) := (by rw [b4.cell (by first | omega | (simp; done) | (simp; omega))]; go_cell)
      have a12_4 : w4.cell? ⟨w.heap.size, 12, none⟩ = some (.slice ao0 L0.length ac0) := (by rw [b4.cell (by first | omega | (simp; done) | (simp; omega))]; go_cell)
      have a13_4 : w4.cell? ⟨w.heap.size, 13, none⟩ = some (.slice ao1 L1.length ac1) := (by rw [b4.cell (by first | omega | (simp; done) | (simp; omega))]; go_cell)
      have a14_4 : w4.cell? ⟨w.heap.size, 14, none⟩ = some (.int .i64 i12) := (by rw [b4.cell (by first | omega | (simp; done) | (simp; omega))]; go_cell)
      have al_4 : w.heap.size < w4.heap.size := (by have := b4.size; first | omega | (revert this; simp; done) | (revert this; simp; omega))
      clear a0_3 a1_3 a2_3 a3_3 a4_3 a5_3 a6_3 a7_3 a8_3 a9_3 a10_3 a11_3 a12_3 a13_3 a14_3 al_3
      clear b4 d4
      cases h1 : zI i9 i10 i11 L0 with
      | false =>
        have H1 : Hid (¬ (i9 = 0 ∧ i10 = 0 ∧ i11 = 0 ∧ L0 = [])) := hid (of_decide_eq_false h1)
        have HV : Hid (bodyM 10 i1 i2 i3 i4 i5 i6 i7 i8 i9 i10 i11 i12 L0 L1 = false) := hid (by rw [Bool.eq_false_iff]; exact fun h => H1.out ((body_10 i1 i2 i3 i4 i5 i6 i7 i8 i9 i10 i11 i12 L0 L1).1 h).2.1)
        go_wp2_with fail
        go_ret
        exact ⟨by simp [HV.out], c4⟩
      | true =>
        have H1 : Hid (i9 = 0 ∧ i10 = 0 ∧ i11 = 0 ∧ L0 = []) := hid (of_decide_eq_true h1)
        clear h1
        by_cases h2 : L1 = []
        case neg =>
          have g2 : ((L1.length : Int) == 0) = false := by first | (simpa using h2) | (simp; omega)
          have H2 := hid h2
          clear h2
          have HV : Hid (bodyM 10 i1 i2 i3 i4 i5 i6 i7 i8 i9 i10 i11 i12 L0 L1 = false) := hid (by rw [Bool.eq_false_iff]; exact fun h => H2.out ((body_10 i1 i2 i3 i4 i5 i6 i7 i8 i9 i10 i11 i12 L0 L1).1 h).2.2.1)
          go_wp2_with fail
          go_ret
          exact ⟨by simp [HV.out], c4⟩
        have g2 : ((L1.length : Int) == 0) = true := by first | (simpa using h2) | (simp; omega)
        have H2 := hid h2
        clear h2
        by_cases h3 : i12 = 0
        case neg =>
          have g3 : (i12 == 0) = false := by first | (simpa using h3) | (simp; omega)
          have H3 := hid h3
          clear h3
          have HV : Hid (bodyM 10 i1 i2 i3 i4 i5 i6 i7 i8 i9 i10 i11 i12 L0 L1 = false) := hid (by rw [Bool.eq_false_iff]; exact fun h => H3.out ((body_10 i1 i2 i3 i4 i5 i6 i7 i8 i9 i10 i11 i12 L0 L1).1 h).2.2.2.1)
          go_wp2_with fail
          go_ret
          exact ⟨by simp [HV.out], c4⟩
        have g3 : (i12 == 0) = true := by first | (simpa using h3) | (simp; omega)
        have H3 := hid h3
        clear h3
        by_cases h4 : i1 = 0
        case neg =>
          have g4 : (i1 == 0) = false := by first | (simpa using h4) | (simp; omega)
          have H4 := hid h4
          clear h4
          have HV : Hid (bodyM 10 i1 i2 i3 i4 i5 i6 i7 i8 i9 i10 i11 i12 L0 L1 = false) := hid (by rw [Bool.eq_false_iff]; exact fun h => H4.out ((body_10 i1 i2 i3 i4 i5 i6 i7 i8 i9 i10 i11 i12 L0 L1).1 h).2.2.2.2.1)
          go_wp2_with fail
          go_ret
          exact ⟨by simp [HV.out], c4⟩
        have g4 : (i1 == 0) = true := by first | (simpa using h4) | (simp; omega)
        have H4 := hid h4
        clear h4
        by_cases h5 : i3 = 0
        case neg =>
          have g5 : (i3 == 0) = false := by first | (simpa using h5) | (simp; omega)
          have H5 := hid h5
          clear h5
          have HV : Hid (bodyM 10 i1 i2 i3 i4 i5 i6 i7 i8 i9 i10 i11 i12 L0 L1 = false) := hid (by rw [Bool.eq_false_iff]; exact fun h => H5.out ((body_10 i1 i2 i3 i4 i5 i6 i7 i8 i9 i10 i11 i12 L0 L1).1 h).2.2.2.2.2.1)
          go_wp2_with fail
          go_ret
          exact ⟨by simp [HV.out], c4⟩
        have g5 : (i3 == 0) = true := by first | (simpa using h5) | (simp; omega)
        have H5 := hid h5
        clear h5
        by_cases h6 : 1 ≤ i4
        case neg =>
          have g6 : decide (i4 ≥ 1) = false := by first | (simpa using h6) | (simp; omega)
          have H6 := hid h6
          clear h6
          have HV : Hid (bodyM 10 i1 i2 i3 i4 i5 i6 i7 i8 i9 i10 i11 i12 L0 L1 = false) := hid (by rw [Bool.eq_false_iff]; exact fun h => H6.out ((body_10 i1 i2 i3 i4 i5 i6 i7 i8 i9 i10 i11 i12 L0 L1).1 h).2.2.2.2.2.2)
          go_wp2_with fail
          go_ret
          exact ⟨by simp [HV.out], c4⟩
        have g6 : decide (i4 ≥ 1) = true := by first | (simpa using h6) | (simp; omega)
        have H6 := hid h6
        clear h6
        have HV : Hid (bodyM 10 i1 i2 i3 i4 i5 i6 i7 i8 i9 i10 i11 i12 L0 L1 = true) := hid ((body_10 i1 i2 i3 i4 i5 i6 i7 i8 i9 i10 i11 i12 L0 L1).2 ⟨H0.out, H1.out, H2.out, H3.out, H4.out, H5.out, H6.out⟩)
        go_wp2_with fail
        go_ret
        exact ⟨by simp [HV.out], c4⟩

set_option maxRecDepth 100000 in
set_option maxHeartbeats 16000000 in
theorem l6Body_0 (i0 i1 i2 i3 i4 i5 i6 i7 i8 i9 i10 i11 i12 : Int) (va0 va1 : Value) (L0 : List (Int × Int)) (L1 : List KD) (w : World) (ha : RSMsg w va0 va1 L0 L1) (k1 : ¬ i0 = 1) (k2 : ¬ i0 = 2) (k3 : ¬ i0 = 3) (k4 : ¬ i0 = 4) (k5 : ¬ i0 = 5) (k6 : ¬ i0 = 6) (k7 : ¬ i0 = 7) (k8 : ¬ i0 = 8) (k9 : ¬ i0 = 9) (k10 : ¬ i0 = 10) :
    Calls Tryz.prog 36 #[.agg #[.int .i64 i0, .int .i64 i1, .int .i64 i2, .int .i64 i3, .int .i64 i4, .int .i64 i5, .int .i64 i6, .int .i64 i7, .int .i64 i8, .int .i64 i9, .int .i64 i10, .int .i64 i11, va0, va1, .int .i64 i12]] w fun e w' => e = .returned (.bool (bodyM i0 i1 i2 i3 i4 i5 i6 i7 i8 i9 i10 i11 i12 L0 L1)) ∧ Below w.heap.size w w' := by
  have HA := hid ha
  obtain ⟨ao0, ao1, ac0, ac1, rfl, rfl⟩ := ha.open
  clear ha
  obtain ⟨itv, hit⟩ : ∃ b : Bool, (itR i9 i10 i11 L0 && decide (partOf i9 = i2)) = b := ⟨_, rfl⟩
  have HIT := hid hit
  clear hit
  have HV : Hid (bodyM i0 i1 i2 i3 i4 i5 i6 i7 i8 i9 i10 i11 i12 L0 L1 = false) := hid (by simp [bodyM, k1, k2, k3, k4, k5, k6, k7, k8, k9, k10])
  have g1 : (i0 == 1) = false := by simpa using k1
  have g2 : (i0 == 2) = false := by simpa using k2
  have g3 : (i0 == 3) = false := by simpa using k3
  have g4 : (i0 == 4) = false := by simpa using k4
  have g5 : (i0 == 5) = false := by simpa using k5
  have g6 : (i0 == 6) = false := by simpa using k6
  have g7 : (i0 == 7) = false := by simpa using k7
  have g8 : (i0 == 8) = false := by simpa using k8
  have g9 : (i0 == 9) = false := by simpa using k9
  have g10 : (i0 == 10) = false := by simpa using k10
  clear k1 k2 k3 k4 k5 k6 k7 k8 k9 k10
  go_enter Tryz.func36, Tryz.ntmps36
  go_wp2_with fail
  have a0_1 : (w.alloc (.cells #[.int .i64 i0, .int .i64 i1, .int .i64 i2, .int .i64 i3, .int .i64 i4, .int .i64 i5, .int .i64 i6, .int .i64 i7, .int .i64 i8, .int .i64 i9, .int .i64 i10, .int .i64 i11, .slice ao0 L0.length ac0, .slice ao1 L1.length ac1, .int .i64 i12] 32)).cell? ⟨w.heap.size, 0, none⟩ = some (.int .i64 i0) := by go_cell
  have a1_1 : (w.alloc (.cells #[.int .i64 i0, .int .i64 i1, .int .i64 i2, .int .i64 i3, .int .i64 i4, .int .i64 i5, .int .i64 i6, .int .i64 i7, .int .i64 i8, .int .i64 i9, .int .i64 i10, .int .i64 i11, .slice ao0 L0.length ac0, .slice ao1 L1.length ac1, .int .i64 i12] 32)).cell? ⟨w.heap.size, 1, none⟩ = some (.int .i64 i1) := by go_cell
  have a2_1 : (w.alloc (.cells #[.int .i64 i0, .int .i64 i1, .int .i64 i2, .int .i64 i3, .int .i64 i4, .int .i64 i5, .int .i64 i6, .int .i64 i7, .int .i64 i8, .int .i64 i9, .int .i64 i10, .int .i64 i11, .slice ao0 L0.length ac0, .slice ao1 L1.length ac1, .int .i64 i12] 32)).cell? ⟨w.heap.size, 2, none⟩ = some (.int .i64 i2) := by go_cell
  have a3_1 : (w.alloc (.cells #[.int .i64 i0, .int .i64 i1, .int .i64 i2, .int .i64 i3, .int .i64 i4, .int .i64 i5, .int .i64 i6, .int .i64 i7, .int .i64 i8, .int .i64 i9, .int .i64 i10, .int .i64 i11, .slice ao0 L0.length ac0, .slice ao1 L1.length ac1, .int .i64 i12] 32)).cell? ⟨w.heap.size, 3, none⟩ = some (.int .i64 i3) := by go_cell
  have a4_1 : (w.alloc (.cells #[.int .i64 i0, .int .i64 i1, .int .i64 i2, .int .i64 i3, .int .i64 i4, .int .i64 i5, .int .i64 i6, .int .i64 i7, .int .i64 i8, .int .i64 i9, .int .i64 i10, .int .i64 i11, .slice ao0 L0.length ac0, .slice ao1 L1.length ac1, .int .i64 i12] 32)).cell? ⟨w.heap.size, 4, none⟩ = some (.int .i64 i4) := by go_cell
  have a5_1 : (w.alloc (.cells #[.int .i64 i0, .int .i64 i1, .int .i64 i2, .int .i64 i3, .int .i64 i4, .int .i64 i5, .int .i64 i6, .int .i64 i7, .int .i64 i8, .int .i64 i9, .int .i64 i10, .int .i64 i11, .slice ao0 L0.length ac0, .slice ao1 L1.length ac1, .int .i64 i12] 32)).cell? ⟨w.heap.size, 5, none⟩ = some (.int .i64 i5) := by go_cell
  have a6_1 : (w.alloc (.cells #[.int .i64 i0, .int .i64 i1, .int .i64 i2, .int .i64 i3, .int .i64 i4, .int .i64 i5, .int .i64 i6, .int .i64 i7, .int .i64 i8, .int .i64 i9, .int .i64 i10, .int .i64 i11, .slice ao0 L0.length ac0, .slice ao1 L1.length ac1, .int .i64 i12] 32)).cell? ⟨w.heap.size, 6, none⟩ = some (.int .i64 i6) := by go_cell
  have a7_1 : (w.alloc (.cells #[.int .i64 i0, .int .i64 i1, .int .i64 i2, .int .i64 i3, .int .i64 i4, .int .i64 i5, .int .i64 i6, .int .i64 i7, .int .i64 i8, .int .i64 i9, .int .i64 i10, .int .i64 i11, .slice ao0 L0.length ac0, .slice ao1 L1.length ac1, .int .i64 i12] 32)).cell? ⟨w.heap.size, 7, none⟩ = some (.int .i64 i7) := by go_cell
  have a8_1 : (w.alloc (.cells #[.int .i64 i0, .int .i64 i1, .int .i64 i2, .int .i64 i3, .int .i64 i4, .int .i64 i5, .int .i64 i6, .int .i64 i7, .int .i64 i8, .int .i64 i9, .int .i64 i10, .int .i64 i11, .slice ao0 L0.length ac0, .slice ao1 L1.length ac1, .int .i64 i12] 32)).cell? ⟨w.heap.size, 8, none⟩ = some (.int .i64 i8) := by go_cell
  have a9_1 : (w.alloc (.cells #[.int .i64 i0, .int .i64 i1, .int .i64 i2, .int .i64 i3, .int .i64 i4, .int .i64 i5, .int .i64 i6, .int .i64 i7, .int .i64 i8, .int .i64 i9, .int .i64 i10, .int .i64 i11, .slice ao0 L0.length ac0, .slice ao1 L1.length ac1, .int .i64 i12] 32)).cell? ⟨w.heap.size, 9, none⟩ = some (.int .i64 i9) := by go_cell
  have a10_1 : (w.alloc (.cells #[.int .i64 i0, .int .i64 i1, .int .i64 i2, .int .i64 i3, .int .i64 i4, .int .i64 i5, .int .i64 i6, .int .i64 i7, .int .i64 i8, .int .i64 i9, .int .i64 i10, .int .i64 i11, .slice ao0 L0.length ac0, .slice ao1 L1.length ac1, .int .i64 i12] 32)).cell? ⟨w.heap.size, 10, none⟩ = some (.int .i64 i10) := by go_cell
  have a11_1 : (w.alloc (.cells #[.int .i64 i0, .int .i64 i1, .int .i64 i2, .int .i64 i3, .int .i64 i4, .int .i64 i5, .int .i64 i6, .int .i64 i7, .int .i64 i8, .int .i64 i9, .int .i64 i10, .int .i64 i11, .slice ao0 L0.length ac0, .slice ao1 L1.length ac1, .int .i64 i12] 32)).cell? ⟨w.heap.size, 11, none⟩ = some (.int .i64 i11) := by go_cell
  have a12_1 : (w.alloc (.cells #[.int .i64 i0, .int .i64 i1, .int .i64 i2, .int .i64 i3, .int .i64 i4, .int .i64 i5, .int .i64 i6, .int .i64 i7, .int .i64 i8, .int .i64 i9, .int .i64 i10, .int .i64 i11, .slice ao0 L0.length ac0, .slice ao1 L1.length ac1, .int .i64 i12] 32)).cell? ⟨w.heap.size, 12, none⟩ = some (.slice ao0 L0.length ac0) := by go_cell
  have a13_1 : (w.alloc (.cells #[.int .i64 i0, .int .i64 i1, .int .i64 i2, .int .i64 i3, .int .i64 i4, .int .i64 i5, .int .i64 i6, .int .i64 i7, .int .i64 i8, .int .i64 i9, .int .i64 i10, .int .i64 i11, .slice ao0 L0.length ac0, .slice ao1 L1.length ac1, .int .i64 i12] 32)).cell? ⟨w.heap.size, 13, none⟩ = some (.slice ao1 L1.length ac1) := by go_cell
  have a14_1 : (w.alloc (.cells #[.int .i64 i0, .int .i64 i1, .int .i64 i2, .int .i64 i3, .int .i64 i4, .int .i64 i5, .int .i64 i6, .int .i64 i7, .int .i64 i8, .int .i64 i9, .int .i64 i10, .int .i64 i11, .slice ao0 L0.length ac0, .slice ao1 L1.length ac1, .int .i64 i12] 32)).cell? ⟨w.heap.size, 14, none⟩ = some (.int .i64 i12) := by go_cell
  have al_1 : w.heap.size < (w.alloc (.cells #[.int .i64 i0, .int .i64 i1, .int .i64 i2, .int .i64 i3, .int .i64 i4, .int .i64 i5, .int .i64 i6, .int .i64 i7, .int .i64 i8, .int .i64 i9, .int .i64 i10, .int .i64 i11, .slice ao0 L0.length ac0, .slice ao1 L1.length ac1, .int .i64 i12] 32)).heap.size := by first | (simp; done) | (simp; omega)
  have c1 : Below w.heap.size w (w.alloc (.cells #[.int .i64 i0, .int .i64 i1, .int .i64 i2, .int .i64 i3, .int .i64 i4, .int .i64 i5, .int .i64 i6, .int .i64 i7, .int .i64 i8, .int .i64 i9, .int .i64 i10, .int .i64 i11, .slice ao0 L0.length ac0, .slice ao1 L1.length ac1, .int .i64 i12] 32)) := by go_grown
  have s1 : (w.alloc (.cells #[.int .i64 i0, .int .i64 i1, .int .i64 i2, .int .i64 i3, .int .i64 i4, .int .i64 i5, .int .i64 i6, .int .i64 i7, .int .i64 i8, .int .i64 i9, .int .i64 i10, .int .i64 i11, .slice ao0 L0.length ac0, .slice ao1 L1.length ac1, .int .i64 i12] 32)).heap.size = w.heap.size + 1 := by simp
  generalize (w.alloc (.cells #[.int .i64 i0, .int .i64 i1, .int .i64 i2, .int .i64 i3, .int .i64 i4, .int .i64 i5, .int .i64 i6, .int .i64 i7, .int .i64 i8, .int .i64 i9, .int .i64 i10, .int .i64 i11, .slice ao0 L0.length ac0, .slice ao1 L1.length ac1, .int .i64 i12] 32)) = w1 at a0_1 a1_1 a2_1 a3_1 a4_1 a5_1 a6_1 a7_1 a8_1 a9_1 a10_1 a11_1 a12_1 a13_1 a14_1 al_1 c1 s1 ⊢
  have qa0_1 := cell_regrown a0_1
  have qa1_1 := cell_regrown a1_1
  have qa2_1 := cell_regrown a2_1
  have qa3_1 := cell_regrown a3_1
  have qa4_1 := cell_regrown a4_1
  have qa5_1 := cell_regrown a5_1
  have qa6_1 := cell_regrown a6_1
  have qa7_1 := cell_regrown a7_1
  have qa8_1 := cell_regrown a8_1
  have qa9_1 := cell_regrown a9_1
  have qa10_1 := cell_regrown a10_1
  have qa11_1 := cell_regrown a11_1
  have qa12_1 := cell_regrown a12_1
  have qa13_1 := cell_regrown a13_1
  have qa14_1 := cell_regrown a14_1
  go_cut [3] from 4 (fun s wx => s = .bool itv ∧ Below w1.heap.size w1 wx)
  case first =>
    cases hI : itR i9 i10 i11 L0 with
    | false =>
      refine wp_region_quiet_below (by kernel_rfl) (by kernel_rfl) ?_
      repeat (first | go_big_quiet_skip | (go_big_quiet_want; go_big_quiet_op; first | go_big_quiet_on | go_big_quiet_call (first | (go_at_call 75; exact Calls.regrown_of (specItem_any i9 i10 i11 _ L0 _ ((HA.out.h0.later c1).later (below_regrown _ _ _)) hI)) | (go_at_call 76; exact Calls.regrown_of (specShard_b i9 _)))))
      refine wpQuiet_nil ?_
      rintro wq ⟨pq, hwq⟩
      have hq : Below w1.heap.size w1 wq := by rw [hwq]; exact below_regrown _ _ _
      clear hwq pq
      go_wp2_with fail
      go_meet
      exact ⟨by rw [← HIT.out]; simp [hI], hq⟩
    | true =>
      by_cases hp : partOf i9 = i2
      · have hb : (partOf i9 == i2) = true := by simpa using hp
        have HP := hid hp
        clear hp
        refine wp_region_quiet_below (by kernel_rfl) (by kernel_rfl) ?_
        repeat (first | go_big_quiet_skip | (go_big_quiet_want; go_big_quiet_op; first | go_big_quiet_on | go_big_quiet_call (first | (go_at_call 75; exact Calls.regrown_of (specItem_any i9 i10 i11 _ L0 _ ((HA.out.h0.later c1).later (below_regrown _ _ _)) hI)) | (go_at_call 76; exact Calls.regrown_of (specShard_b i9 _)))))
        refine wpQuiet_nil ?_
        rintro wq ⟨pq, hwq⟩
        have hq : Below w1.heap.size w1 wq := by rw [hwq]; exact below_regrown _ _ _
        clear hwq pq
        go_wp2_with fail
        go_meet
        exact ⟨by rw [← HIT.out]; simp [hI, HP.out], hq⟩
      · have hb : (partOf i9 == i2) = false := by simpa using hp
        have HP := hid hp
        clear hp
        refine wp_region_quiet_below (by kernel_rfl) (by kernel_rfl) ?_
        repeat (first | go_big_quiet_skip | (go_big_quiet_want; go_big_quiet_op; first | go_big_quiet_on | go_big_quiet_call (first | (go_at_call 75; exact Calls.regrown_of (specItem_any i9 i10 i11 _ L0 _ ((HA.out.h0.later c1).later (below_regrown _ _ _)) hI)) | (go_at_call 76; exact Calls.regrown_of (specShard_b i9 _)))))
        refine wpQuiet_nil ?_
        rintro wq ⟨pq, hwq⟩
        have hq : Below w1.heap.size w1 wq := by rw [hwq]; exact below_regrown _ _ _
        clear hwq pq
        go_wp2_with fail
        go_meet
        exact ⟨by rw [← HIT.out]; simp [hI, HP.out], hq⟩
  case rest =>
    obtain ⟨rfl, b2⟩ := hcut
    obtain ⟨w2, hw2⟩ : ∃ x, x = wc := ⟨_, rfl⟩
    subst hw2
    have d2 : Below w1.heap.size w1 w2 := (Below.trans (by go_grown) (b2.mono (by first | omega | (simp; done) | (simp; omega))))
    have c2 : Below w.heap.size w w2 := c1.trans (d2.mono c1.size)
    have a0_2 : w2.cell? ⟨w.heap.size, 0, none⟩ = some (.int .i64 i0) := (by rw [b2.cell (by first | omega | (simp; done) | (simp; omega))]; go_cell)
    have a1_2 : w2.cell? ⟨w.heap.size, 1, none⟩ = some (.int .i64 i1) := (by rw [b2.cell (by first | omega | (simp; done) | (simp; omega))]; go_cell)
    have a2_2 : w2.cell? ⟨w.heap.size, 2, none⟩ = some (.int .i64 i2) := (by rw [b2.cell (by first | omega | (simp; done) | (simp; omega))]; go_cell)
    have a3_2 : w2.cell? ⟨w.heap.size, 3, none⟩ = some (.int .i64 i3) := (by rw [b2.cell (by first | omega | (simp; done) | (simp; omega))]; go_cell)
    have a4_2 : w2.cell? ⟨w.heap.size, 4, none⟩ = some (.int .i64 i4) := (by rw [b2.cell (by first | omega | (simp; done) | (simp; omega))]; go_cell)
    have a5_2 : w2.cell? ⟨w.heap.size, 5, none⟩ = some (.int .i64 i5) := (by rw [b2.cell (by first | omega | (simp; done) | (simp; omega))]; go_cell)
    have a6_2 : w2.cell? ⟨w.heap.size, 6, none⟩ = some (.int .i64 i6) := (by rw [b2.cell (by first | omega | (simp; done) | (simp; omega))]; go_cell)
    have a7_2 : w2.cell? ⟨w.heap.size, 7, none⟩ = some (.int .i64 i7) := (by rw [b2.cell (by first | omega | (simp; done) | (simp; omega))]; go_cell)
    have a8_2 : w2.cell? ⟨w.heap.size, 8, none⟩ = some (.int .i64 i8) := (by rw [b2.cell (by first | omega | (simp; done) | (simp; omega))]; go_cell)
    have a9_2 : w2.cell? ⟨w.heap.size, 9, none⟩ = some (.int .i64 i9) := (by rw [b2.cell (by first | omega | (simp; done) | (simp; omega))]; go_cell)
    have a10_2 : w2.cell? ⟨w.heap.size, 10, none⟩ = some (.int .i64 i10) := (by rw [b2.cell (by first | omega | (simp; done) | (simp; omega))]; go_cell)
    have a11_2 : w2.cell? ⟨w.heap.size, 11, none⟩ = some (.int .i64 i11) := (by rw [b2.cell (by first | omega | (simp; done) | (simp; omega))]; go_cell)
    have a12_2 : w2.cell? ⟨w.heap.size, 12, none⟩ = some (.slice ao0 L0.length ac0) := (by rw [b2.cell (by first | omega | (simp; done) | (simp; omega))]; go_cell)
    have a13_2 : w2.cell? ⟨w.heap.size, 13, none⟩ = some (.slice ao1 L1.length ac1) := (by rw [b2.cell (by first | omega | (simp; done) | (simp; omega))]; go_cell)
    have a14_2 : w2.cell? ⟨w.heap.size, 14, none⟩ = some (.int .i64 i12) := (by rw [b2.cell (by first | omega | (simp; done) | (simp; omega))]; go_cell)
    have al_2 : w.heap.size < w2.heap.size := (by have := b2.size; first | omega | (revert this; simp; done) | (revert this; simp; omega))
    clear a0_1 a1_1 a2_1 a3_1 a4_1 a5_1 a6_1 a7_1 a8_1 a9_1 a10_1 a11_1 a12_1 a13_1 a14_1 al_1
    clear b2 d2
    go_wp2_with fail
    go_ret
    exact ⟨by simp [HV.out], c2⟩

end Go.Proofs.YtfdcnolcjgjfjaaGreatDoor

/- Part: spec.l6Body, spec.MsgOk: contracts. Written by a program (gmk.py). -/
namespace Go.Proofs.YtfdcnolcjgjfjaaGreatDoor
open Go.RowKit
attribute [local go_sem ↓] Go.wp_at_zero Go.wp_at_succ

theorem l6Body_any (i0 i1 i2 i3 i4 i5 i6 i7 i8 i9 i10 i11 i12 : Int) (va0 va1 : Value) (L0 : List (Int × Int)) (L1 : List KD) (w : World) (ha : RSMsg w va0 va1 L0 L1) :
    Calls Tryz.prog 36 #[.agg #[.int .i64 i0, .int .i64 i1, .int .i64 i2, .int .i64 i3, .int .i64 i4, .int .i64 i5, .int .i64 i6, .int .i64 i7, .int .i64 i8, .int .i64 i9, .int .i64 i10, .int .i64 i11, va0, va1, .int .i64 i12]] w fun e w' => e = .returned (.bool (bodyM i0 i1 i2 i3 i4 i5 i6 i7 i8 i9 i10 i11 i12 L0 L1)) ∧ Below w.heap.size w w' := by
  by_cases k1 : i0 = 1
  case pos =>
    subst k1
    exact l6Body_1 i1 i2 i3 i4 i5 i6 i7 i8 i9 i10 i11 i12 va0 va1 L0 L1 w ha
  by_cases k2 : i0 = 2
  case pos =>
    subst k2
    exact l6Body_2 i1 i2 i3 i4 i5 i6 i7 i8 i9 i10 i11 i12 va0 va1 L0 L1 w ha
  by_cases k3 : i0 = 3
  case pos =>
    subst k3
    exact l6Body_3 i1 i2 i3 i4 i5 i6 i7 i8 i9 i10 i11 i12 va0 va1 L0 L1 w ha
  by_cases k4 : i0 = 4
  case pos =>
    subst k4
    exact l6Body_4 i1 i2 i3 i4 i5 i6 i7 i8 i9 i10 i11 i12 va0 va1 L0 L1 w ha
  by_cases k5 : i0 = 5
  case pos =>
    subst k5
    exact l6Body_5 i1 i2 i3 i4 i5 i6 i7 i8 i9 i10 i11 i12 va0 va1 L0 L1 w ha
  by_cases k6 : i0 = 6
  case pos =>
    subst k6
    exact l6Body_6 i1 i2 i3 i4 i5 i6 i7 i8 i9 i10 i11 i12 va0 va1 L0 L1 w ha
  by_cases k7 : i0 = 7
  case pos =>
    subst k7
    exact l6Body_7 i1 i2 i3 i4 i5 i6 i7 i8 i9 i10 i11 i12 va0 va1 L0 L1 w ha
  by_cases k8 : i0 = 8
  case pos =>
    subst k8
    exact l6Body_8 i1 i2 i3 i4 i5 i6 i7 i8 i9 i10 i11 i12 va0 va1 L0 L1 w ha
  by_cases k9 : i0 = 9
  case pos =>
    subst k9
    exact l6Body_9 i1 i2 i3 i4 i5 i6 i7 i8 i9 i10 i11 i12 va0 va1 L0 L1 w ha
  by_cases k10 : i0 = 10
  case pos =>
    subst k10
    exact l6Body_10 i1 i2 i3 i4 i5 i6 i7 i8 i9 i10 i11 i12 va0 va1 L0 L1 w ha
  exact l6Body_0 i0 i1 i2 i3 i4 i5 i6 i7 i8 i9 i10 i11 i12 va0 va1 L0 L1 w ha k1 k2 k3 k4 k5 k6 k7 k8 k9 k10

set_option maxRecDepth 100000 in
set_option maxHeartbeats 8000000 in
theorem specMOk_any (i0 i1 i2 i3 i4 i5 i6 i7 i8 i9 i10 i11 i12 : Int) (va0 va1 : Value) (L0 : List (Int × Int)) (L1 : List KD) (w : World) (ha : RSMsg w va0 va1 L0 L1) :
    Calls Tryz.prog 12 #[.agg #[.int .i64 i0, .int .i64 i1, .int .i64 i2, .int .i64 i3, .int .i64 i4, .int .i64 i5, .int .i64 i6, .int .i64 i7, .int .i64 i8, .int .i64 i9, .int .i64 i10, .int .i64 i11, va0, va1, .int .i64 i12]] w fun e w' => e = .returned (.bool (okM i0 i1 i2 i3 i4 i5 i6 i7 i8 i9 i10 i11 i12 L0 L1)) ∧ Below w.heap.size w w' := by
  have HA := hid ha
  obtain ⟨ao0, ao1, ac0, ac1, rfl, rfl⟩ := ha.open
  clear ha
  by_cases h0 : 0 ≤ i1
  case neg =>
    have HV : Hid (okM i0 i1 i2 i3 i4 i5 i6 i7 i8 i9 i10 i11 i12 L0 L1 = false) := hid (by rw [okM, headM, decide_eq_false (fun h => h0 h.1), Bool.false_and])
    have g0 : decide (i1 ≥ 0) = false := by simp; omega
    clear h0
    go_enter Tryz.func12, Tryz.ntmps12
    go_wp2_with fail
    go_ret
    exact ⟨by simp [HV.out], by go_grown⟩
  have g0 : decide (i1 ≥ 0) = true := by simp; omega
  by_cases h1 : i1 < 2
  case neg =>
    have HV : Hid (okM i0 i1 i2 i3 i4 i5 i6 i7 i8 i9 i10 i11 i12 L0 L1 = false) := hid (by rw [okM, headM, decide_eq_false (fun h => h1 h.2.1), Bool.false_and])
    have g1 : decide (i1 < 2) = false := by simp; omega
    clear h1
    go_enter Tryz.func12, Tryz.ntmps12
    go_wp2_with fail
    go_ret
    exact ⟨by simp [HV.out], by go_grown⟩
  have g1 : decide (i1 < 2) = true := by simp; omega
  by_cases h2 : 0 ≤ i2
  case neg =>
    have HV : Hid (okM i0 i1 i2 i3 i4 i5 i6 i7 i8 i9 i10 i11 i12 L0 L1 = false) := hid (by rw [okM, headM, decide_eq_false (fun h => h2 h.2.2.1), Bool.false_and])
    have g2 : decide (i2 ≥ 0) = false := by simp; omega
    clear h2
    go_enter Tryz.func12, Tryz.ntmps12
    go_wp2_with fail
    go_ret
    exact ⟨by simp [HV.out], by go_grown⟩
  have g2 : decide (i2 ≥ 0) = true := by simp; omega
  by_cases h3 : i2 < 2
  case neg =>
    have HV : Hid (okM i0 i1 i2 i3 i4 i5 i6 i7 i8 i9 i10 i11 i12 L0 L1 = false) := hid (by rw [okM, headM, decide_eq_false (fun h => h3 h.2.2.2.1), Bool.false_and])
    have g3 : decide (i2 < 2) = false := by simp; omega
    clear h3
    go_enter Tryz.func12, Tryz.ntmps12
    go_wp2_with fail
    go_ret
    exact ⟨by simp [HV.out], by go_grown⟩
  have g3 : decide (i2 < 2) = true := by simp; omega
  by_cases h4 : 0 ≤ i3
  case neg =>
    have HV : Hid (okM i0 i1 i2 i3 i4 i5 i6 i7 i8 i9 i10 i11 i12 L0 L1 = false) := hid (by rw [okM, headM, decide_eq_false (fun h => h4 h.2.2.2.2.1), Bool.false_and])
    have g4 : decide (i3 ≥ 0) = false := by simp; omega
    clear h4
    go_enter Tryz.func12, Tryz.ntmps12
    go_wp2_with fail
    go_ret
    exact ⟨by simp [HV.out], by go_grown⟩
  have g4 : decide (i3 ≥ 0) = true := by simp; omega
  by_cases h5 : i3 ≤ 1000
  case neg =>
    have HV : Hid (okM i0 i1 i2 i3 i4 i5 i6 i7 i8 i9 i10 i11 i12 L0 L1 = false) := hid (by rw [okM, headM, decide_eq_false (fun h => h5 h.2.2.2.2.2.1), Bool.false_and])
    have g5 : decide (i3 ≤ 1000) = false := by simp; omega
    clear h5
    go_enter Tryz.func12, Tryz.ntmps12
    go_wp2_with fail
    go_ret
    exact ⟨by simp [HV.out], by go_grown⟩
  have g5 : decide (i3 ≤ 1000) = true := by simp; omega
  by_cases h6 : 0 ≤ i4
  case neg =>
    have HV : Hid (okM i0 i1 i2 i3 i4 i5 i6 i7 i8 i9 i10 i11 i12 L0 L1 = false) := hid (by rw [okM, headM, decide_eq_false (fun h => h6 h.2.2.2.2.2.2.1), Bool.false_and])
    have g6 : decide (i4 ≥ 0) = false := by simp; omega
    clear h6
    go_enter Tryz.func12, Tryz.ntmps12
    go_wp2_with fail
    go_ret
    exact ⟨by simp [HV.out], by go_grown⟩
  have g6 : decide (i4 ≥ 0) = true := by simp; omega
  by_cases h7 : i4 ≤ 1000
  case neg =>
    have HV : Hid (okM i0 i1 i2 i3 i4 i5 i6 i7 i8 i9 i10 i11 i12 L0 L1 = false) := hid (by rw [okM, headM, decide_eq_false (fun h => h7 h.2.2.2.2.2.2.2), Bool.false_and])
    have g7 : decide (i4 ≤ 1000) = false := by simp; omega
    clear h7
    go_enter Tryz.func12, Tryz.ntmps12
    go_wp2_with fail
    go_ret
    exact ⟨by simp [HV.out], by go_grown⟩
  have g7 : decide (i4 ≤ 1000) = true := by simp; omega
  have HV : Hid (okM i0 i1 i2 i3 i4 i5 i6 i7 i8 i9 i10 i11 i12 L0 L1 = bodyM i0 i1 i2 i3 i4 i5 i6 i7 i8 i9 i10 i11 i12 L0 L1) := hid (by rw [okM, headM, decide_eq_true ⟨h0, h1, h2, h3, h4, h5, h6, h7⟩, Bool.true_and])
  clear h0 h1 h2 h3 h4 h5 h6 h7
  go_enter Tryz.func12, Tryz.ntmps12
  go_wp2_with fail
  refine (l6Body_any i0 i1 i2 i3 i4 i5 i6 i7 i8 i9 i10 i11 i12 _ _ L0 L1 _ (HA.out.later (by go_grown))).mono ?_
  rintro e w2 ⟨rfl, b2⟩
  have bb : Below w.heap.size w w2 := (Below.trans (by go_grown) (b2.mono (by first | omega | (simp; done) | (simp; omega))))
  go_wp2_with fail
  go_ret
  exact ⟨by simp [HV.out], bb⟩
end Go.Proofs.YtfdcnolcjgjfjaaGreatDoor

/- Part: What a row gives a walk: the listed variables and the world's shape together; an error that is listed. -/
namespace Go.Proofs.YtfdcnolcjgjfjaaGreatDoor
open Go.RowKit

/-- The frame of a row, at a condition X of the first world, its shape besides. -/
theorem handed_both {H : Type} {enc : TypeId × Value → H} {C : Checked} {os : Os} {f : FuncId} {fn : Func} {s : ChangeSpec} {conds : List PathCond} {apart fresh handsOn again : Bool} {X : World → Array Value → Prop}
    (hX : ∀ (w w' : World) (args : Array Value), w.heap = w'.heap → X w args → X w' args)
    (own : ownKnob C.prog.godebug = none) (started : os.Started) (noInit : C.prog.inits.idxOf? f = none) (hfn : C.prog.funcs[f]? = some fn)
    (witness : ∃ (w : World) (tape : Tape) (i : Input), w.os = os ∧ (w.forCall tape i).Shaped C.prog ∧ i.vars = [] ∧ Input.okWide C.prog (w.forCall tape i) .any w.heap.size f i ∧
      ((s.pre enc C.prog fn conds apart (w.forCall tape i).memory i.args ∧ X (w.forCall tape i).memory i.args) ∧ sizedMet enc C.prog fn (OpenSpec.ofChange s) apart (w.forCall tape i).memory i.args) ∧ ({} : Assume).holds C.prog (lone (Frame.enter C.prog f i.args .normal) [] (w.forCall tape i)))
    (contract : ∀ (W : World) (base : Nat) (args : Array Value) (ds gs : List (DataW H)) (before : List MemPlace),
      (∀ (j : Nat) t v, fn.params[j]? = some t → args[j]? = some v → Value.okWide C.prog W .any base t v) →
      DataW.Whole enc C.prog fn.params.toList s.vars apart W args.toList ds gs before → X W args → W.ShapedOpen C.prog →
      Calls C.prog f args W fun e W' => ∃ v, e = .returned v ∧ s.post enc C.prog fn apart fresh handsOn again W args v W') :
    ReturnsInHanded {} C os f .any (fun w args => (s.pre enc C.prog fn conds apart w args ∧ X w args) ∧ sizedMet enc C.prog fn (OpenSpec.ofChange s) apart w args) (s.post enc C.prog fn apart fresh handsOn again) := by
  refine returnsInHanded_of_calls own started noInit witness fun w tape i _ hshape _ hok ⟨⟨⟨ds, gs, before, hw, _⟩, hx⟩, _⟩ _ => ?_
  obtain ⟨_, _, _, fn', hfn', _, _, _, _, hval⟩ := hok
  obtain rfl : fn' = fn := Option.some.inj (hfn'.symm.trans hfn)
  refine (contract (w.forCall tape i) w.heap.size i.args ds gs before hval (hw.of_heap (by rfl)) (hX _ _ _ (by rfl) hx) hshape).mono ?_
  rintro e W' ⟨v, rfl, hp⟩
  exact ChangeSpec.post_blind hp

theorem Tryz.star : "*" ++ "errors.errorString" = "*errors.errorString" := by decide
theorem Tryz.rowErr (u : TypeId) (h : Tryz.prog.typeName? 3 u = some "*errors.errorString") : u = 222 :=
  typeName_ptr_named (nm := "errors.errorString") (by rw [Tryz.star]; kernel_rfl) (by kernel_rfl) (by decide) u (by rw [Tryz.star]; exact h)
theorem err_of_head {n : String} {g : Nat} {text : List UInt8} {r : List (String × DataW Unit)} {W : World} (hg : Tryz.prog.globalNamed n = some g) (ht : (Tryz.prog.globals[g]?).map (·.type) = some 126)
    (h : laidMet Tryz.prog ((n, .iface "*errors.errorString" (.ptr (.agg [.lit (.string text)]))) :: r) W) : ∃ tp p, W.var? Tryz.prog n = some #[.iface tp p] := by
  obtain ⟨a, s, hv, _⟩ := laid_sentinel h hg ht Tryz.underlying126 Tryz.rowErr Tryz.underlying222 Tryz.underlying224 rfl rfl Tryz.underlying9 (by kernel_rfl) (by kernel_rfl)
  exact ⟨_, _, hv⟩
theorem errM_of_var {W : World} {tp : TypeId} {p : Value} (hg : Tryz.prog.globalNamed "loop.example/kith/impl.errNoMsg" = some 1) (h : W.var? Tryz.prog "loop.example/kith/impl.errNoMsg" = some #[.iface tp p]) : ErrM W := by
  refine ⟨⟨tp, p, (World.var?_cell hg h 0).trans rfl⟩, ?_⟩
  unfold World.var? at h
  rw [hg] at h
  simp only [Option.bind_some] at h
  cases hh : W.heap[1]? with
  | none => rw [hh] at h; cases h
  | some o => exact (Array.getElem?_eq_some_iff.1 hh).1
end Go.Proofs.YtfdcnolcjgjfjaaGreatDoor

/- Part: An argument that is a slice of edges reads as a list of pairs. -/
namespace Go.Proofs.YtfdcnolcjgjfjaaGreatDoor
open Go.ChangeShapes Go.WideShapes Go.ChangeAt Go.RowKit Go.Deep

theorem Tryz.own : ownKnob Tryz.prog.godebug = none := by kernel_rfl
theorem Tryz.laidOut : laidOutB Tryz.prog = true := by kernel_rfl
theorem Tryz.cells158 : Tryz.prog.cellsOf 158 = 2 := by kernel_rfl
theorem Tryz.cells3 : Tryz.prog.cellsOf 3 = 1 := by kernel_rfl

set_option maxRecDepth 100000 in
theorem rd_of {H : Type} {enc : TypeId × Value → H} {W : World} {base : Nat} {v : Value} {d : DataW H} {p : List MemPlace} (hv : Value.okWide Tryz.prog W .any base 45 v)
    (h : DataW.Trod enc Tryz.prog W 0 (fun _ => true) true 45 v d p) (hlt : ∀ x ∈ p, x.block < W.heap.size) : ∃ l, Rd W v l := by
  obtain ⟨a0, len, cap, rfl⟩ := okWide_slice Tryz.underlying45 hv
  obtain ⟨fuel, hf⟩ := h
  rcases open_slice_pairs Tryz.underlying45 Tryz.underlying158 Tryz.cells158 rfl rfl Tryz.cells3 Tryz.cells3 hf with ⟨hcs, _⟩ | ⟨a, len', cap', m, n, V0, V1, D0, D1, P0, P1, hcs, _, hlc, hcm, hm, hx, hcell⟩
  · simp [Value.cells] at hcs
    obtain ⟨rfl, rfl, rfl⟩ := hcs
    exact ⟨[], Rd.nil W none 0⟩
  · simp [Value.cells] at hcs
    obtain ⟨rfl, rfl, rfl⟩ := hcs
    simp only [if_true] at hm
    subst hm
    have num : ∀ (t : Value) (x : DataW H × List MemPlace), DataW.trod enc Tryz.prog W 0 (fun _ => true) true n 3 [t] = some x → ∃ z, t = .int .i64 z := by
      intro t x hx
      obtain ⟨z, hz, _⟩ := DataW.trod_int Tryz.underlying3 hx
      exact ⟨z, by simpa using hz⟩
    let N : Value → Int := fun t => match t with | .int _ z => z | _ => 0
    refine ⟨(List.range len).map fun i => (N (V0 i), N (V1 i)), some a, _, by simp; rfl, by simp only [List.length_map, List.length_range]; omega, fun h0 => ?_⟩
    simp only [List.length_map, List.length_range] at h0 ⊢
    obtain ⟨b, off, spot⟩ := a
    have hs : spot = none := by
      have := (hcell 0 (by omega)).1
      simpa [Addr.add] using World.cell?_spot this
    subst hs
    refine ⟨b, off, rfl, ?_, fun i hi => ?_⟩
    · simp only [Prod.mk.injEq] at hx
      have := hlt (.cell b off) (by rw [hx.2]; exact List.mem_append_left _ (MemPlace.mem_row.2 ⟨0, by omega, by simp⟩))
      exact this
    · obtain ⟨c0, c1, t0, t1⟩ := hcell i (by omega)
      obtain ⟨z0, e0⟩ := num _ _ t0
      obtain ⟨z1, e1⟩ := num _ _ t1
      rw [add_plain] at c0 c1
      have hg : ((List.range len).map fun i => (N (V0 i), N (V1 i))).getD i (0, 0) = (z0, z1) := by
        simp [List.getD_eq_getElem?_getD, hi, e0, e1, N]
      rw [hg]
      exact ⟨by rw [c0, e0], by rw [show off + i * 2 + 1 = off + (i * 2 + 1) from by omega, c1, e1]⟩
end Go.Proofs.YtfdcnolcjgjfjaaGreatDoor

/- Part: An argument that is a value (a number and a slice of edges). -/
namespace Go.Proofs.YtfdcnolcjgjfjaaGreatDoor
open Go.ChangeShapes Go.WideShapes Go.ChangeAt Go.RowKit Go.Deep Go.Joins

theorem Tryz.cells47 : Tryz.prog.cellsOf 47 = 2 := by kernel_rfl

set_option maxRecDepth 100000 in
theorem rd_of_trod {H : Type} {enc : TypeId × Value → H} {W : World} {v : Value} {d : DataW H} {p : List MemPlace} {fuel : Nat}
    (hf : DataW.trod enc Tryz.prog W 0 (fun _ => true) true fuel 45 [v] = some (d, p)) (hlt : ∀ x ∈ p, x.block < W.heap.size) : ∃ l, Rd W v l := by
  rcases open_slice_pairs Tryz.underlying45 Tryz.underlying158 Tryz.cells158 rfl rfl Tryz.cells3 Tryz.cells3 hf with ⟨hcs, _⟩ | ⟨a, len', cap', m, n, V0, V1, D0, D1, P0, P1, hcs, _, hlc, hcm, hm, hx, hcell⟩
  · simp at hcs
    subst hcs
    exact ⟨[], Rd.nil W none 0⟩
  · simp at hcs
    subst hcs
    simp only [if_true] at hm
    subst hm
    have num : ∀ (t : Value) (x : DataW H × List MemPlace), DataW.trod enc Tryz.prog W 0 (fun _ => true) true n 3 [t] = some x → ∃ z, t = .int .i64 z := by
      intro t x hx
      obtain ⟨z, hz, _⟩ := DataW.trod_int Tryz.underlying3 hx
      exact ⟨z, by simpa using hz⟩
    let N : Value → Int := fun t => match t with | .int _ z => z | _ => 0
    refine ⟨(List.range len').map fun i => (N (V0 i), N (V1 i)), some a, _, by simp; rfl, by simp only [List.length_map, List.length_range]; omega, fun h0 => ?_⟩
    simp only [List.length_map, List.length_range] at h0 ⊢
    obtain ⟨b, off, spot⟩ := a
    have hs : spot = none := by
      have := (hcell 0 (by omega)).1
      simpa [Addr.add] using World.cell?_spot this
    subst hs
    refine ⟨b, off, rfl, ?_, fun i hi => ?_⟩
    · simp only [Prod.mk.injEq] at hx
      have := hlt (.cell b off) (by rw [hx.2]; exact List.mem_append_left _ (MemPlace.mem_row.2 ⟨0, by omega, by simp⟩))
      exact this
    · obtain ⟨c0, c1, t0, t1⟩ := hcell i (by omega)
      obtain ⟨z0, e0⟩ := num _ _ t0
      obtain ⟨z1, e1⟩ := num _ _ t1
      rw [add_plain] at c0 c1
      have hg : ((List.range len').map fun i => (N (V0 i), N (V1 i))).getD i (0, 0) = (z0, z1) := by
        simp [List.getD_eq_getElem?_getD, hi, e0, e1, N]
      rw [hg]
      exact ⟨by rw [c0, e0], by rw [show off + i * 2 + 1 = off + (i * 2 + 1) from by omega, c1, e1]⟩

set_option maxRecDepth 100000 in
theorem val_of {H : Type} {enc : TypeId × Value → H} {W : World} {base : Nat} {v : Value} {d : DataW H} {p : List MemPlace} (hv : Value.okWide Tryz.prog W .any base 47 v)
    (h : DataW.Trod enc Tryz.prog W 0 (fun _ => true) true 47 v d p) (hlt : ∀ x ∈ p, x.block < W.heap.size) : ∃ n u l, v = .agg #[.int .i64 n, u] ∧ Rd W u l := by
  obtain ⟨v0, v1, y0, y1, n, rfl, rfl, rfl, h0, h1⟩ := open_agg2 Tryz.underlying47 (by kernel_rfl) Tryz.cells47 hv h
  obtain ⟨z, hz, _⟩ := DataW.trod_int Tryz.underlying3 h0
  have hz' : v0 = .int .i64 z := by simpa using hz
  obtain ⟨d1, p1⟩ := y1
  obtain ⟨l, hl⟩ := rd_of_trod h1 (fun x hx => hlt x (List.mem_append_right _ hx))
  exact ⟨z, v1, l, by rw [hz'], hl⟩
end Go.Proofs.YtfdcnolcjgjfjaaGreatDoor

/- Part: An argument's cells: numbers, then kin; lists of such. -/
namespace Go.Proofs.YtfdcnolcjgjfjaaGreatDoor
open Go.ChangeShapes Go.WideShapes Go.ChangeAt Go.RowKit Go.Deep Go.Joins

theorem Tryz.cells45' : Tryz.prog.cellsOf 45 = 1 := by kernel_rfl
/-- The cells of an element: its m numbers, then its kin. -/
def CellsK (W : World) (m : Nat) (kn : Bool) (cs : List Value) (x : KD) : Prop :=
  x.1.length = m ∧ ∃ us : List Value, cs = x.1.map (fun n => Value.int .i64 n) ++ us ∧ (kn = true → ∃ u, us = [u] ∧ Rd W u x.2) ∧ (kn = false → us = [] ∧ x.2 = [])
theorem CellsK.append {W : World} {m1 m2 : Nat} {kn : Bool} {cs1 cs2 : List Value} {x1 x2 : KD} (h1 : CellsK W m1 false cs1 x1) (h2 : CellsK W m2 kn cs2 x2) : CellsK W (m1 + m2) kn (cs1 ++ cs2) (x1.1 ++ x2.1, x2.2) := by
  obtain ⟨l1, us1, rfl, _, g1⟩ := h1
  obtain ⟨l2, us2, rfl, f2, g2⟩ := h2
  obtain ⟨rfl, _⟩ := g1 rfl
  exact ⟨by rw [List.length_append, l1, l2], us2, by simp, f2, g2⟩
theorem CellsK.at {W : World} {m : Nat} {kn : Bool} {cs : List Value} {x : KD} {b p : Nat} (h : CellsK W m kn cs x) (hc : ∀ j, j < cs.length → W.cell? ⟨b, p + j, none⟩ = cs[j]?) : AtK m kn W b p x := by
  obtain ⟨l, us, rfl, f, g⟩ := h
  refine ⟨l, fun j hj => ?_, fun hk => ?_, fun hk => (g hk).2⟩
  · rw [hc j (by simp; omega), List.getElem?_append_left (by simp; omega), List.getElem?_map, List.getElem?_eq_getElem (by omega)]
    simp [List.getD_eq_getElem?_getD, List.getElem?_eq_getElem (show j < x.1.length by omega)]
  · obtain ⟨u, rfl, hu⟩ := f hk
    exact ⟨u, by rw [hc m (by simp [l]), List.getElem?_append_right (by simp [l])]; simp [l], hu⟩
/-- Whatever is read by a type has such cells. -/
def ElemK {H : Type} (enc : TypeId × Value → H) (W : World) (t : TypeId) (m : Nat) (kn : Bool) : Prop :=
  ∀ (fuel : Nat) (cs : List Value) (d : DataW H) (p : List MemPlace), DataW.trod enc Tryz.prog W 0 (fun _ => true) true fuel t cs = some (d, p) → (∀ x ∈ p, x.block < W.heap.size) → ∃ x, CellsK W m kn cs x
theorem elem_int {H : Type} (enc : TypeId × Value → H) (W : World) : ElemK enc W 3 1 false := by
  intro fuel cs d p h _
  obtain ⟨z, hz, _⟩ := DataW.trod_int Tryz.underlying3 h
  exact ⟨([z], []), rfl, [], by simpa using hz, fun q => (by cases q), fun _ => ⟨rfl, rfl⟩⟩
theorem elem_kin {H : Type} (enc : TypeId × Value → H) (W : World) : ElemK enc W 45 0 true := by
  intro fuel cs d p h hlt
  have : ∃ v, cs = [v] := by
    rcases open_slice Tryz.underlying45 h with ⟨hc, _⟩ | ⟨a, len, cap, _, _, _, _, hc, _⟩
    · exact ⟨_, hc⟩
    · exact ⟨_, hc⟩
  obtain ⟨v, rfl⟩ := this
  obtain ⟨l, hl⟩ := rd_of_trod h hlt
  exact ⟨([], l), rfl, [v], rfl, fun _ => ⟨v, rfl, hl⟩, fun q => (by cases q)⟩

set_option maxRecDepth 100000 in
theorem rdM_of_trod {H : Type} {enc : TypeId × Value → H} {W : World} {v : Value} {d : DataW H} {p : List MemPlace} {fuel : Nat} {t e : TypeId} {sz m : Nat} {kn : Bool} (ht : Tryz.prog.underlying t = some (.slice e)) (hce : Tryz.prog.cellsOf e = sz) (hsz : 0 < sz) (he : ElemK enc W e m kn)
    (hf : DataW.trod enc Tryz.prog W 0 (fun _ => true) true fuel t [v] = some (d, p)) (hlt : ∀ x ∈ p, x.block < W.heap.size) : ∃ L, RdM sz m kn W v L := by
  rcases open_slice ht hf with ⟨hcs, _⟩ | ⟨a, len, cap, mm, n, D, Pl, hcs, _, hl, hm, hmm, hx, hcell⟩
  · simp at hcs
    subst hcs
    exact ⟨[], RdM.nil W none 0⟩
  · simp at hcs
    subst hcs
    simp only [if_true] at hmm
    subst hmm
    simp only [Prod.mk.injEq] at hx
    rw [hce] at hcell hx
    have each : ∀ i, i < mm → ∃ q : List Value × KD, W.cells? 0 (a.add (i * sz)) sz = some q.1 ∧ CellsK W m kn q.1 q.2 := by
      intro i hi
      obtain ⟨cs', h1, h2⟩ := hcell i hi
      obtain ⟨x, hxk⟩ := he n cs' (D i) (Pl i) h2 (fun x hx1 => hlt x (by
        rw [hx.2]
        exact List.mem_append_right _ (List.mem_flatMap.2 ⟨i, List.mem_range.2 hi, hx1⟩)))
      exact ⟨(cs', x), h1, hxk⟩
    let N : Nat → KD := fun i => if h : i < mm then (each i h).choose.2 else kd0
    refine ⟨(List.range len).map N, some a, mm, by simp, by simp only [List.length_map, List.length_range]; omega, fun h0 => ?_⟩
    simp only [List.length_map, List.length_range] at h0 ⊢
    have hfirst : ∃ u, W.cell? (a.add (0 * sz)) = some u := by
      obtain ⟨cs', h1, _⟩ := hcell 0 (by omega)
      obtain ⟨_, hlen, hcc⟩ := World.cells?_some h1
      have := hcc 0 hsz
      refine ⟨cs'[0]'(by omega), ?_⟩
      rw [add_add, Nat.add_zero] at this
      rw [this]
      simp [List.getElem?_eq_getElem (show 0 < cs'.length by omega)]
    obtain ⟨b, off, spot⟩ := a
    have hs : spot = none := by
      obtain ⟨u, hu⟩ := hfirst
      simpa [Addr.add] using World.cell?_spot hu
    subst hs
    refine ⟨b, off, rfl, ?_, fun i hi => ?_⟩
    · have := hlt (.cell b off) (by rw [hx.2]; exact List.mem_append_left _ (MemPlace.mem_row.2 ⟨0, Nat.mul_pos (by omega) hsz, by simp⟩))
      exact this
    · have hg : ((List.range len).map N).getD i kd0 = N i := by
        simp [List.getD_eq_getElem?_getD, hi]
      rw [hg]
      have hi' : i < mm := by omega
      obtain ⟨h1, h2⟩ := (each i hi').choose_spec
      have hN : N i = (each i hi').choose.2 := by simp only [N, dif_pos hi']
      rw [hN]
      obtain ⟨_, hlen, hcc⟩ := World.cells?_some h1
      refine h2.at fun j hj => ?_
      have e : (((⟨b, off, none⟩ : Addr).add (i * sz)).add j) = ⟨b, off + i * sz + j, none⟩ := by rw [add_plain, add_plain]
      exact (congrArg W.cell? e).symm.trans (hcc j (by omega))
end Go.Proofs.YtfdcnolcjgjfjaaGreatDoor

/- Part: An argument that is a message. Written by a program (gmsg.py). -/
namespace Go.Proofs.YtfdcnolcjgjfjaaGreatDoor
open Go.ChangeShapes Go.WideShapes Go.ChangeAt Go.RowKit Go.Deep Go.Joins

theorem Tryz.cells_Op : Tryz.prog.cellsOf 44 = 4 := by kernel_rfl
set_option maxRecDepth 100000 in
theorem elem_Op {H : Type} (enc : TypeId × Value → H) (W : World) : ElemK enc W 44 4 false := by
  intro fuel cs d p h hlt
  obtain ⟨xs, n, _, hx, hl, hxl, hff⟩ := DataW.trod_struct Tryz.underlying44 h
  rw [Tryz.cells_Op] at hl
  simp only [Prod.mk.injEq] at hx
  match xs, hxl, hx, hff with
  | [(d0, q0), (d1, q1), (d2, q2), (d3, q3)], _, hx, hff =>
    have h0 : DataW.trod enc Tryz.prog W 0 (fun _ => true) true n 3 ((cs.drop 0).take 1) = some (d0, q0) := by
      have h := hff 0 _ rfl
      first | exact h | (rw [Tryz.cells3] at h; exact h)
    obtain ⟨x0, k0⟩ := elem_int enc W _ _ _ _ h0 (fun x hx1 => hlt x (by rw [hx.2]; simp only [List.flatMap_cons, List.flatMap_nil, List.mem_append]; exact Or.inl hx1))
    have h1 : DataW.trod enc Tryz.prog W 0 (fun _ => true) true n 3 ((cs.drop 1).take 1) = some (d1, q1) := by
      have h := hff 1 _ rfl
      first | exact h | (rw [Tryz.cells3] at h; exact h)
    obtain ⟨x1, k1⟩ := elem_int enc W _ _ _ _ h1 (fun x hx1 => hlt x (by rw [hx.2]; simp only [List.flatMap_cons, List.flatMap_nil, List.mem_append]; exact Or.inr (Or.inl hx1)))
    have h2 : DataW.trod enc Tryz.prog W 0 (fun _ => true) true n 3 ((cs.drop 2).take 1) = some (d2, q2) := by
      have h := hff 2 _ rfl
      first | exact h | (rw [Tryz.cells3] at h; exact h)
    obtain ⟨x2, k2⟩ := elem_int enc W _ _ _ _ h2 (fun x hx1 => hlt x (by rw [hx.2]; simp only [List.flatMap_cons, List.flatMap_nil, List.mem_append]; exact Or.inr (Or.inr (Or.inl hx1))))
    have h3 : DataW.trod enc Tryz.prog W 0 (fun _ => true) true n 3 ((cs.drop 3).take 1) = some (d3, q3) := by
      have h := hff 3 _ rfl
      first | exact h | (rw [Tryz.cells3] at h; exact h)
    obtain ⟨x3, k3⟩ := elem_int enc W _ _ _ _ h3 (fun x hx1 => hlt x (by rw [hx.2]; simp only [List.flatMap_cons, List.flatMap_nil, List.mem_append]; exact Or.inr (Or.inr (Or.inr (Or.inl hx1)))))
    have e : cs = (cs.drop 0).take 1 ++ ((cs.drop 1).take 1 ++ ((cs.drop 2).take 1 ++ ((cs.drop 3).take 1))) := by
      match cs, hl with
      | [z0, z1, z2, z3], _ => rfl
    have k := (k0.append (k1.append (k2.append k3)))
    rw [← e] at k
    exact ⟨_, k⟩
theorem Tryz.cells_Val : Tryz.prog.cellsOf 47 = 2 := by kernel_rfl
set_option maxRecDepth 100000 in
theorem elem_Val {H : Type} (enc : TypeId × Value → H) (W : World) : ElemK enc W 47 1 true := by
  intro fuel cs d p h hlt
  obtain ⟨xs, n, _, hx, hl, hxl, hff⟩ := DataW.trod_struct Tryz.underlying47 h
  rw [Tryz.cells_Val] at hl
  simp only [Prod.mk.injEq] at hx
  match xs, hxl, hx, hff with
  | [(d0, q0), (d1, q1)], _, hx, hff =>
    have h0 : DataW.trod enc Tryz.prog W 0 (fun _ => true) true n 3 ((cs.drop 0).take 1) = some (d0, q0) := by
      have h := hff 0 _ rfl
      first | exact h | (rw [Tryz.cells3] at h; exact h)
    obtain ⟨x0, k0⟩ := elem_int enc W _ _ _ _ h0 (fun x hx1 => hlt x (by rw [hx.2]; simp only [List.flatMap_cons, List.flatMap_nil, List.mem_append]; exact Or.inl hx1))
    have h1 : DataW.trod enc Tryz.prog W 0 (fun _ => true) true n 45 ((cs.drop 1).take 1) = some (d1, q1) := by
      have h := hff 1 _ rfl
      first | exact h | (rw [Tryz.cells45'] at h; exact h)
    obtain ⟨x1, k1⟩ := elem_kin enc W _ _ _ _ h1 (fun x hx1 => hlt x (by rw [hx.2]; simp only [List.flatMap_cons, List.flatMap_nil, List.mem_append]; exact Or.inr (Or.inl hx1)))
    have e : cs = (cs.drop 0).take 1 ++ ((cs.drop 1).take 1) := by
      match cs, hl with
      | [z0, z1], _ => rfl
    have k := (k0.append k1)
    rw [← e] at k
    exact ⟨_, k⟩
theorem Tryz.cells_Item : Tryz.prog.cellsOf 49 = 4 := by kernel_rfl
set_option maxRecDepth 100000 in
theorem elem_Item {H : Type} (enc : TypeId × Value → H) (W : World) : ElemK enc W 49 3 true := by
  intro fuel cs d p h hlt
  obtain ⟨xs, n, _, hx, hl, hxl, hff⟩ := DataW.trod_struct Tryz.underlying49 h
  rw [Tryz.cells_Item] at hl
  simp only [Prod.mk.injEq] at hx
  match xs, hxl, hx, hff with
  | [(d0, q0), (d1, q1), (d2, q2)], _, hx, hff =>
    have h0 : DataW.trod enc Tryz.prog W 0 (fun _ => true) true n 3 ((cs.drop 0).take 1) = some (d0, q0) := by
      have h := hff 0 _ rfl
      first | exact h | (rw [Tryz.cells3] at h; exact h)
    obtain ⟨x0, k0⟩ := elem_int enc W _ _ _ _ h0 (fun x hx1 => hlt x (by rw [hx.2]; simp only [List.flatMap_cons, List.flatMap_nil, List.mem_append]; exact Or.inl hx1))
    have h1 : DataW.trod enc Tryz.prog W 0 (fun _ => true) true n 3 ((cs.drop 1).take 1) = some (d1, q1) := by
      have h := hff 1 _ rfl
      first | exact h | (rw [Tryz.cells3] at h; exact h)
    obtain ⟨x1, k1⟩ := elem_int enc W _ _ _ _ h1 (fun x hx1 => hlt x (by rw [hx.2]; simp only [List.flatMap_cons, List.flatMap_nil, List.mem_append]; exact Or.inr (Or.inl hx1)))
    have h2 : DataW.trod enc Tryz.prog W 0 (fun _ => true) true n 47 ((cs.drop 2).take 2) = some (d2, q2) := by
      have h := hff 2 _ rfl
      first | exact h | (rw [Tryz.cells_Val] at h; exact h)
    obtain ⟨x2, k2⟩ := elem_Val enc W _ _ _ _ h2 (fun x hx1 => hlt x (by rw [hx.2]; simp only [List.flatMap_cons, List.flatMap_nil, List.mem_append]; exact Or.inr (Or.inr (Or.inl hx1))))
    have e : cs = (cs.drop 0).take 1 ++ ((cs.drop 1).take 1 ++ ((cs.drop 2).take 2)) := by
      match cs, hl with
      | [z0, z1, z2, z3], _ => rfl
    have k := (k0.append (k1.append k2))
    rw [← e] at k
    exact ⟨_, k⟩
theorem Tryz.cellsL_int : Tryz.prog.cellsOf 30 = 1 := by kernel_rfl
theorem Tryz.cells_Msg : Tryz.prog.cellsOf 51 = 15 := by kernel_rfl
set_option maxRecDepth 100000 in
set_option maxHeartbeats 2000000 in
theorem msg_of {H : Type} {enc : TypeId × Value → H} {W : World} {base : Nat} {v : Value} {d : DataW H} {p : List MemPlace} (hv : Value.okWide Tryz.prog W .any base 51 v)
    (h : DataW.Trod enc Tryz.prog W 0 (fun _ => true) true 51 v d p) (hlt : ∀ x ∈ p, x.block < W.heap.size) : ∃ (i0 i1 i2 i3 i4 i5 i6 i7 i8 i9 i10 i11 i12 : Int) (u0 u1 : Value) (l0 : List (Int × Int)) (l1 : List KD), v = .agg #[.int .i64 i0, .int .i64 i1, .int .i64 i2, .int .i64 i3, .int .i64 i4, .int .i64 i5, .int .i64 i6, .int .i64 i7, .int .i64 i8, .int .i64 i9, .int .i64 i10, .int .i64 i11, u0, u1, .int .i64 i12] ∧ RSMsg W u0 u1 l0 l1 := by
  obtain ⟨cs, rfl, hsz⟩ := okWide_struct Tryz.underlying51 hv
  rw [Tryz.cells_Msg] at hsz
  obtain ⟨z0, z1, z2, z3, z4, z5, z6, z7, z8, z9, z10, z11, z12, z13, z14, rfl⟩ : ∃ z0 z1 z2 z3 z4 z5 z6 z7 z8 z9 z10 z11 z12 z13 z14, cs = #[z0, z1, z2, z3, z4, z5, z6, z7, z8, z9, z10, z11, z12, z13, z14] := by
    obtain ⟨l⟩ := cs
    match l, hsz with
    | [z0, z1, z2, z3, z4, z5, z6, z7, z8, z9, z10, z11, z12, z13, z14], _ => exact ⟨z0, z1, z2, z3, z4, z5, z6, z7, z8, z9, z10, z11, z12, z13, z14, rfl⟩
  obtain ⟨fuel, hf⟩ := h
  obtain ⟨xs, n, _, hx, _, hxl, hff⟩ := DataW.trod_struct Tryz.underlying51 hf
  simp only [Prod.mk.injEq] at hx
  match xs, hxl, hx, hff with
  | [(d0, q0), (d1, q1), (d2, q2), (d3, q3), (d4, q4), (d5, q5), (d6, q6), (d7, q7), (d8, q8)], _, hx, hff =>
    have h0 := hff 0 _ rfl
    simp [Value.cells, Tryz.cells3] at h0
    obtain ⟨j0, hz0, _⟩ := DataW.trod_int Tryz.underlying3 h0
    have hz0' : z0 = .int .i64 j0 := by simpa using hz0
    have h1 := hff 1 _ rfl
    simp [Value.cells, Tryz.cells3] at h1
    obtain ⟨j1, hz1, _⟩ := DataW.trod_int Tryz.underlying3 h1
    have hz1' : z1 = .int .i64 j1 := by simpa using hz1
    have h2 := hff 2 _ rfl
    simp [Value.cells, Tryz.cells3] at h2
    obtain ⟨j2, hz2, _⟩ := DataW.trod_int Tryz.underlying3 h2
    have hz2' : z2 = .int .i64 j2 := by simpa using hz2
    have h3 := hff 3 _ rfl
    simp [Value.cells, Tryz.cells3] at h3
    obtain ⟨j3, hz3, _⟩ := DataW.trod_int Tryz.underlying3 h3
    have hz3' : z3 = .int .i64 j3 := by simpa using hz3
    have h4 := hff 4 _ rfl
    simp [Value.cells, Tryz.cells3] at h4
    obtain ⟨j4, hz4, _⟩ := DataW.trod_int Tryz.underlying3 h4
    have hz4' : z4 = .int .i64 j4 := by simpa using hz4
    have h5 := hff 5 _ rfl
    simp [Value.cells, Tryz.cells_Op] at h5
    obtain ⟨⟨xs5, l5⟩, hk5⟩ := elem_Op enc W _ _ _ _ h5 (fun x hx1 => hlt x (by rw [hx.2]; simp only [List.flatMap_cons, List.flatMap_nil, List.mem_append]; exact Or.inr (Or.inr (Or.inr (Or.inr (Or.inr (Or.inl hx1)))))))
    obtain ⟨e5, us5, hc5, _, hn5⟩ := hk5
    obtain ⟨rfl, _⟩ := hn5 rfl
    obtain ⟨p0, p1, p2, p3, rfl⟩ : ∃ a b c d, xs5 = [a, b, c, d] := by
      match xs5, e5 with
      | [a, b, c, d], _ => exact ⟨a, b, c, d, rfl⟩
    simp at hc5
    obtain ⟨hz5a, hz5b, hz5c, hz5d⟩ := hc5
    have h6 := hff 6 _ rfl
    simp [Value.cells, Tryz.cells_Item] at h6
    obtain ⟨⟨xs6, l6⟩, hk6⟩ := elem_Item enc W _ _ _ _ h6 (fun x hx1 => hlt x (by rw [hx.2]; simp only [List.flatMap_cons, List.flatMap_nil, List.mem_append]; exact Or.inr (Or.inr (Or.inr (Or.inr (Or.inr (Or.inr (Or.inl hx1))))))))
    obtain ⟨e6, us6, hc6, hu6, _⟩ := hk6
    obtain ⟨u6, hus6, hru6⟩ := hu6 rfl
    subst hus6
    obtain ⟨q0', q1', q2', rfl⟩ : ∃ a b c, xs6 = [a, b, c] := by
      match xs6, e6 with
      | [a, b, c], _ => exact ⟨a, b, c, rfl⟩
    simp at hc6
    obtain ⟨hz6a, hz6b, hz6c, hz6d⟩ := hc6
    have hu6' : Rd W u6 l6 := hru6
    have h7 := hff 7 _ rfl
    simp [Value.cells, Tryz.cellsL_int] at h7
    obtain ⟨l1, hl1⟩ := rdM_of_trod (sz := 1) (m := 1) (kn := false) Tryz.underlying30 Tryz.cells3 (by decide) (elem_int enc W) h7 (fun x hx1 => hlt x (by rw [hx.2]; simp only [List.flatMap_cons, List.flatMap_nil, List.mem_append]; exact Or.inr (Or.inr (Or.inr (Or.inr (Or.inr (Or.inr (Or.inr (Or.inl hx1)))))))))
    have h8 := hff 8 _ rfl
    simp [Value.cells, Tryz.cells3] at h8
    obtain ⟨j8, hz8, _⟩ := DataW.trod_int Tryz.underlying3 h8
    have hz8' : z14 = .int .i64 j8 := by simpa using hz8
    subst hz5a hz5b hz5c hz5d hz6a hz6b hz6c hz6d hz0' hz1' hz2' hz3' hz4' hz8'
    exact ⟨j0, j1, j2, j3, j4, p0, p1, p2, p3, q0', q1', q2', j8, _, z13, l6, l1, rfl, ⟨hu6', hl1⟩⟩
end Go.Proofs.YtfdcnolcjgjfjaaGreatDoor
