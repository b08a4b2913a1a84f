/- What each kind of message has: lemmas. Written by a program (gmk.py). -/
import Derived.Test.YtfdcnolcjgjfjaaGreatDoorMd
import Derived.Test.YtfdcnolcjgjfjaaGreatDoorOq
import Derived.Test.YtfdcnolcjgjfjaaGreatDoorPb
import Derived.Test.YtfdcnolcjgjfjaaGreatDoorLawOOther
import Derived.BigQuiet
import Derived.Deep.Cut
namespace Go.Proofs.YtfdcnolcjgjfjaaGreatDoor
open Go.RowKit
attribute [local go_sem ↓] Go.wp_at_zero Go.wp_at_succ

theorem body_1 (i1 i2 i3 i4 i5 i6 i7 i8 i9 i10 i11 i12 : Int) (L0 : List (Int × Int)) (L1 : List KD) : bodyM 1 i1 i2 i3 i4 i5 i6 i7 i8 i9 i10 i11 i12 L0 L1 = true ↔ (i5 = 0 ∧ i6 = 0 ∧ i7 = 0 ∧ i8 = 0) ∧ (partOf i9 = i2 ∧ i10 = 0 ∧ i11 = 0 ∧ L0 = []) ∧ (L1 = []) ∧ (i12 = 0) := by
  simp [bodyM]
theorem body_2 (i1 i2 i3 i4 i5 i6 i7 i8 i9 i10 i11 i12 : Int) (L0 : List (Int × Int)) (L1 : List KD) : bodyM 2 i1 i2 i3 i4 i5 i6 i7 i8 i9 i10 i11 i12 L0 L1 = true ↔ (i5 = 0 ∧ i6 = 0 ∧ i7 = 0 ∧ i8 = 0) ∧ (itR i9 i10 i11 L0 = true ∧ partOf i9 = i2) ∧ (L1 = []) ∧ (i12 = 0) := by
  simp [bodyM]
theorem body_3 (i1 i2 i3 i4 i5 i6 i7 i8 i9 i10 i11 i12 : Int) (L0 : List (Int × Int)) (L1 : List KD) : bodyM 3 i1 i2 i3 i4 i5 i6 i7 i8 i9 i10 i11 i12 L0 L1 = true ↔ (opOk i5 i6 i7 i8 = true) ∧ (partOf (opKey i5 i6 i7 i8) = i2) ∧ (i9 = 0 ∧ i10 = 0 ∧ i11 = 0 ∧ L0 = []) ∧ (L1 = []) ∧ (i12 = 0) := by
  simp [bodyM]
theorem body_4 (i1 i2 i3 i4 i5 i6 i7 i8 i9 i10 i11 i12 : Int) (L0 : List (Int × Int)) (L1 : List KD) : bodyM 4 i1 i2 i3 i4 i5 i6 i7 i8 i9 i10 i11 i12 L0 L1 = true ↔ (i5 = 0 ∧ i6 = 0 ∧ i7 = 0 ∧ i8 = 0) ∧ (itR i9 i10 i11 L0 = true ∧ partOf i9 = i2) ∧ (L1 = []) ∧ (0 ≤ i12) ∧ (i12 ≤ 5) := by
  simp [bodyM]
theorem body_5 (i1 i2 i3 i4 i5 i6 i7 i8 i9 i10 i11 i12 : Int) (L0 : List (Int × Int)) (L1 : List KD) : bodyM 5 i1 i2 i3 i4 i5 i6 i7 i8 i9 i10 i11 i12 L0 L1 = true ↔ (i5 = 0 ∧ i6 = 0 ∧ i7 = 0 ∧ i8 = 0) ∧ (itR i9 i10 i11 L0 = true ∧ partOf i9 = i2) ∧ (L1 = []) ∧ (i12 = 0) ∧ (i3 = 0) ∧ (i4 = 0) := by
  simp [bodyM]
theorem body_6 (i1 i2 i3 i4 i5 i6 i7 i8 i9 i10 i11 i12 : Int) (L0 : List (Int × Int)) (L1 : List KD) : bodyM 6 i1 i2 i3 i4 i5 i6 i7 i8 i9 i10 i11 i12 L0 L1 = true ↔ (i5 = 0 ∧ i6 = 0 ∧ i7 = 0 ∧ i8 = 0) ∧ (partOf i9 = i2) ∧ (0 ≤ i10) ∧ (i10 ≤ 60) ∧ (i11 = 0) ∧ (L0 = []) ∧ (L1 = []) ∧ (i12 = 0) ∧ (i3 = 0) ∧ (i4 = 0) := by
  simp [bodyM]
theorem body_7 (i1 i2 i3 i4 i5 i6 i7 i8 i9 i10 i11 i12 : Int) (L0 : List (Int × Int)) (L1 : List KD) : bodyM 7 i1 i2 i3 i4 i5 i6 i7 i8 i9 i10 i11 i12 L0 L1 = true ↔ (i5 = 0 ∧ i6 = 0 ∧ i7 = 0 ∧ i8 = 0) ∧ (i9 = 0 ∧ i10 = 0 ∧ i11 = 0 ∧ L0 = []) ∧ (L1 = []) ∧ (i12 = 0) ∧ (i4 = 0) := by
  simp [bodyM]
theorem body_8 (i1 i2 i3 i4 i5 i6 i7 i8 i9 i10 i11 i12 : Int) (L0 : List (Int × Int)) (L1 : List KD) : bodyM 8 i1 i2 i3 i4 i5 i6 i7 i8 i9 i10 i11 i12 L0 L1 = true ↔ (i5 = 0 ∧ i6 = 0 ∧ i7 = 0 ∧ i8 = 0) ∧ (i9 = 0 ∧ i10 = 0 ∧ i11 = 0 ∧ L0 = []) ∧ (vsR L1 = true) ∧ (i12 = 0) ∧ (i4 = 0) := by
  simp [bodyM]
theorem body_9 (i1 i2 i3 i4 i5 i6 i7 i8 i9 i10 i11 i12 : Int) (L0 : List (Int × Int)) (L1 : List KD) : bodyM 9 i1 i2 i3 i4 i5 i6 i7 i8 i9 i10 i11 i12 L0 L1 = true ↔ (opOk i5 i6 i7 i8 = true) ∧ (partOf (opOther i5 i6 i7 i8) = i2) ∧ (i9 = 0 ∧ i10 = 0 ∧ i11 = 0 ∧ L0 = []) ∧ (L1 = []) ∧ (i12 = 0) ∧ (i1 = 0) ∧ (i3 = 0) ∧ (1 ≤ i4) := by
  simp [bodyM]
theorem body_10 (i1 i2 i3 i4 i5 i6 i7 i8 i9 i10 i11 i12 : Int) (L0 : List (Int × Int)) (L1 : List KD) : bodyM 10 i1 i2 i3 i4 i5 i6 i7 i8 i9 i10 i11 i12 L0 L1 = true ↔ (i5 = 0 ∧ i6 = 0 ∧ i7 = 0 ∧ i8 = 0) ∧ (i9 = 0 ∧ i10 = 0 ∧ i11 = 0 ∧ L0 = []) ∧ (L1 = []) ∧ (i12 = 0) ∧ (i1 = 0) ∧ (i3 = 0) ∧ (1 ≤ i4) := by
  simp [bodyM]
end Go.Proofs.YtfdcnolcjgjfjaaGreatDoor
