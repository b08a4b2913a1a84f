/- Parts of what the last text proves: contracts and plain facts. -/
import Derived.Test.YtfdcnolcjgjfjaaGreatDoorMa
import Derived.Deep.Cut
import Derived.Test.YtfdcnolcjgjfjaaGreatDoorMb
import Derived.Test.YtfdcnolcjgjfjaaGreatDoorMd
import Derived.Test.YtfdcnolcjgjfjaaGreatDoorPb
import Derived.Test.YtfdcnolcjgjfjaaGreatDoorOz
import Derived.Test.YtfdcnolcjgjfjaaGreatDoorMh
import Derived.Test.YtfdcnolcjgjfjaaGreatDoorUf
import Derived.Test.YtfdcnolcjgjfjaaGreatDoorOq
import Derived.Test.YtfdcnolcjgjfjaaGreatDoorLawOOther
import Derived.BigQuiet
/- Part: What a message keeps of its kind. Written by a program (gme.py). -/
namespace Go.Proofs.YtfdcnolcjgjfjaaGreatDoor
open Go.RowKit
def opS (k n : Int) : Int := if k = 3 ∨ k = 9 then n else 0
def keyS (k n : Int) : Int := if k = 4 ∨ k = 2 ∨ k = 5 ∨ k = 6 ∨ k = 1 then n else 0
def verS (k n : Int) : Int := if k = 4 ∨ k = 2 ∨ k = 5 ∨ k = 6 then n else 0
def numS (k n : Int) : Int := if k = 4 ∨ k = 2 ∨ k = 5 then n else 0
def kinS (k : Int) (l : List (Int × Int)) : List (Int × Int) := if k = 4 ∨ k = 2 ∨ k = 5 then l else []
def codS (k n : Int) : Int := if k = 4 then n else 0
def versS (k : Int) (V : List KD) : List KD := if k = 8 then V else []
end Go.Proofs.YtfdcnolcjgjfjaaGreatDoor

/- Part: impl.msgAlone at some kinds: contracts. Written by a program (gme.py). -/
namespace Go.Proofs.YtfdcnolcjgjfjaaGreatDoor
open Go.RowKit
attribute [local go_sem ↓] Go.wp_at_zero Go.wp_at_succ

set_option maxRecDepth 100000 in
set_option maxHeartbeats 8000000 in
theorem msgAlone_1 (i1 i2 i3 i4 i5 i6 i7 i8 i9 i10 i11 i12 : Int) (va0 va1 : Value) (L0 : List (Int × Int)) (L1 : List KD) (w : World) (ha : RSMsg w va0 va1 L0 L1) :
    Calls Tryz.prog 72 #[.agg #[.int .i64 1, .int .i64 i1, .int .i64 i2, .int .i64 i3, .int .i64 i4, .int .i64 i5, .int .i64 i6, .int .i64 i7, .int .i64 i8, .int .i64 i9, .int .i64 i10, .int .i64 i11, va0, va1, .int .i64 i12]] w fun e w' => (∃ (u0 u1 : Value), e = .returned (.agg #[.int .i64 1, .int .i64 i1, .int .i64 i2, .int .i64 i3, .int .i64 i4, .int .i64 (opS 1 i5), .int .i64 (opS 1 i6), .int .i64 (opS 1 i7), .int .i64 (opS 1 i8), .int .i64 (keyS 1 i9), .int .i64 (verS 1 i10), .int .i64 (numS 1 i11), u0, u1, .int .i64 (codS 1 i12)]) ∧ RSMsg w' u0 u1 (kinS 1 L0) (versS 1 L1)) ∧ Below w.heap.size w w' := by
  have HA := hid ha
  obtain ⟨ao0, ao1, ac0, ac1, rfl, rfl⟩ := ha.open
  clear ha
  go_enter Tryz.func72, Tryz.ntmps72
  go_wp2
  refine bodyPost_ret (v := .agg #[.int .i64 1, .int .i64 i1, .int .i64 i2, .int .i64 i3, .int .i64 i4, .int .i64 0, .int .i64 0, .int .i64 0, .int .i64 0, .int .i64 i9, .int .i64 0, .int .i64 0, .slice none 0 0, .slice none 0 0, .int .i64 0]) (by simp [results, Tryz.results72, go_sem]) rfl ⟨⟨_, _, rfl, ?_, ?_⟩, ?_⟩
  · exact Rd.nil _ none 0
  · exact RdM.nil _ none 0
  · go_grown

set_option maxRecDepth 100000 in
set_option maxHeartbeats 8000000 in
theorem msgAlone_2 (i1 i2 i3 i4 i5 i6 i7 i8 i9 i10 i11 i12 : Int) (va0 va1 : Value) (L0 : List (Int × Int)) (L1 : List KD) (w : World) (ha : RSMsg w va0 va1 L0 L1) :
    Calls Tryz.prog 72 #[.agg #[.int .i64 2, .int .i64 i1, .int .i64 i2, .int .i64 i3, .int .i64 i4, .int .i64 i5, .int .i64 i6, .int .i64 i7, .int .i64 i8, .int .i64 i9, .int .i64 i10, .int .i64 i11, va0, va1, .int .i64 i12]] w fun e w' => (∃ (u0 u1 : Value), e = .returned (.agg #[.int .i64 2, .int .i64 i1, .int .i64 i2, .int .i64 i3, .int .i64 i4, .int .i64 (opS 2 i5), .int .i64 (opS 2 i6), .int .i64 (opS 2 i7), .int .i64 (opS 2 i8), .int .i64 (keyS 2 i9), .int .i64 (verS 2 i10), .int .i64 (numS 2 i11), u0, u1, .int .i64 (codS 2 i12)]) ∧ RSMsg w' u0 u1 (kinS 2 L0) (versS 2 L1)) ∧ Below w.heap.size w w' := by
  have HA := hid ha
  obtain ⟨ao0, ao1, ac0, ac1, rfl, rfl⟩ := ha.open
  clear ha
  go_enter Tryz.func72, Tryz.ntmps72
  go_wp2
  refine bodyPost_ret (v := .agg #[.int .i64 2, .int .i64 i1, .int .i64 i2, .int .i64 i3, .int .i64 i4, .int .i64 0, .int .i64 0, .int .i64 0, .int .i64 0, .int .i64 i9, .int .i64 i10, .int .i64 i11, .slice ao0 L0.length ac0, .slice none 0 0, .int .i64 0]) (by simp [results, Tryz.results72, go_sem]) rfl ⟨⟨_, _, rfl, ?_, ?_⟩, ?_⟩
  · exact HA.out.h0.later (by go_grown)
  · exact RdM.nil _ none 0
  · go_grown

set_option maxRecDepth 100000 in
set_option maxHeartbeats 8000000 in
theorem msgAlone_3 (i1 i2 i3 i4 i5 i6 i7 i8 i9 i10 i11 i12 : Int) (va0 va1 : Value) (L0 : List (Int × Int)) (L1 : List KD) (w : World) (ha : RSMsg w va0 va1 L0 L1) :
    Calls Tryz.prog 72 #[.agg #[.int .i64 3, .int .i64 i1, .int .i64 i2, .int .i64 i3, .int .i64 i4, .int .i64 i5, .int .i64 i6, .int .i64 i7, .int .i64 i8, .int .i64 i9, .int .i64 i10, .int .i64 i11, va0, va1, .int .i64 i12]] w fun e w' => (∃ (u0 u1 : Value), e = .returned (.agg #[.int .i64 3, .int .i64 i1, .int .i64 i2, .int .i64 i3, .int .i64 i4, .int .i64 (opS 3 i5), .int .i64 (opS 3 i6), .int .i64 (opS 3 i7), .int .i64 (opS 3 i8), .int .i64 (keyS 3 i9), .int .i64 (verS 3 i10), .int .i64 (numS 3 i11), u0, u1, .int .i64 (codS 3 i12)]) ∧ RSMsg w' u0 u1 (kinS 3 L0) (versS 3 L1)) ∧ Below w.heap.size w w' := by
  have HA := hid ha
  obtain ⟨ao0, ao1, ac0, ac1, rfl, rfl⟩ := ha.open
  clear ha
  go_enter Tryz.func72, Tryz.ntmps72
  go_wp2
  refine bodyPost_ret (v := .agg #[.int .i64 3, .int .i64 i1, .int .i64 i2, .int .i64 i3, .int .i64 i4, .int .i64 i5, .int .i64 i6, .int .i64 i7, .int .i64 i8, .int .i64 0, .int .i64 0, .int .i64 0, .slice none 0 0, .slice none 0 0, .int .i64 0]) (by simp [results, Tryz.results72, go_sem]) rfl ⟨⟨_, _, rfl, ?_, ?_⟩, ?_⟩
  · exact Rd.nil _ none 0
  · exact RdM.nil _ none 0
  · go_grown

end Go.Proofs.YtfdcnolcjgjfjaaGreatDoor

/- Part: impl.msgAlone at some kinds: contracts. Written by a program (gme.py). -/
namespace Go.Proofs.YtfdcnolcjgjfjaaGreatDoor
open Go.RowKit
attribute [local go_sem ↓] Go.wp_at_zero Go.wp_at_succ

set_option maxRecDepth 100000 in
set_option maxHeartbeats 8000000 in
theorem msgAlone_4 (i1 i2 i3 i4 i5 i6 i7 i8 i9 i10 i11 i12 : Int) (va0 va1 : Value) (L0 : List (Int × Int)) (L1 : List KD) (w : World) (ha : RSMsg w va0 va1 L0 L1) :
    Calls Tryz.prog 72 #[.agg #[.int .i64 4, .int .i64 i1, .int .i64 i2, .int .i64 i3, .int .i64 i4, .int .i64 i5, .int .i64 i6, .int .i64 i7, .int .i64 i8, .int .i64 i9, .int .i64 i10, .int .i64 i11, va0, va1, .int .i64 i12]] w fun e w' => (∃ (u0 u1 : Value), e = .returned (.agg #[.int .i64 4, .int .i64 i1, .int .i64 i2, .int .i64 i3, .int .i64 i4, .int .i64 (opS 4 i5), .int .i64 (opS 4 i6), .int .i64 (opS 4 i7), .int .i64 (opS 4 i8), .int .i64 (keyS 4 i9), .int .i64 (verS 4 i10), .int .i64 (numS 4 i11), u0, u1, .int .i64 (codS 4 i12)]) ∧ RSMsg w' u0 u1 (kinS 4 L0) (versS 4 L1)) ∧ Below w.heap.size w w' := by
  have HA := hid ha
  obtain ⟨ao0, ao1, ac0, ac1, rfl, rfl⟩ := ha.open
  clear ha
  go_enter Tryz.func72, Tryz.ntmps72
  go_wp2
  refine bodyPost_ret (v := .agg #[.int .i64 4, .int .i64 i1, .int .i64 i2, .int .i64 i3, .int .i64 i4, .int .i64 0, .int .i64 0, .int .i64 0, .int .i64 0, .int .i64 i9, .int .i64 i10, .int .i64 i11, .slice ao0 L0.length ac0, .slice none 0 0, .int .i64 i12]) (by simp [results, Tryz.results72, go_sem]) rfl ⟨⟨_, _, rfl, ?_, ?_⟩, ?_⟩
  · exact HA.out.h0.later (by go_grown)
  · exact RdM.nil _ none 0
  · go_grown

set_option maxRecDepth 100000 in
set_option maxHeartbeats 8000000 in
theorem msgAlone_5 (i1 i2 i3 i4 i5 i6 i7 i8 i9 i10 i11 i12 : Int) (va0 va1 : Value) (L0 : List (Int × Int)) (L1 : List KD) (w : World) (ha : RSMsg w va0 va1 L0 L1) :
    Calls Tryz.prog 72 #[.agg #[.int .i64 5, .int .i64 i1, .int .i64 i2, .int .i64 i3, .int .i64 i4, .int .i64 i5, .int .i64 i6, .int .i64 i7, .int .i64 i8, .int .i64 i9, .int .i64 i10, .int .i64 i11, va0, va1, .int .i64 i12]] w fun e w' => (∃ (u0 u1 : Value), e = .returned (.agg #[.int .i64 5, .int .i64 i1, .int .i64 i2, .int .i64 i3, .int .i64 i4, .int .i64 (opS 5 i5), .int .i64 (opS 5 i6), .int .i64 (opS 5 i7), .int .i64 (opS 5 i8), .int .i64 (keyS 5 i9), .int .i64 (verS 5 i10), .int .i64 (numS 5 i11), u0, u1, .int .i64 (codS 5 i12)]) ∧ RSMsg w' u0 u1 (kinS 5 L0) (versS 5 L1)) ∧ Below w.heap.size w w' := by
  have HA := hid ha
  obtain ⟨ao0, ao1, ac0, ac1, rfl, rfl⟩ := ha.open
  clear ha
  go_enter Tryz.func72, Tryz.ntmps72
  go_wp2
  refine bodyPost_ret (v := .agg #[.int .i64 5, .int .i64 i1, .int .i64 i2, .int .i64 i3, .int .i64 i4, .int .i64 0, .int .i64 0, .int .i64 0, .int .i64 0, .int .i64 i9, .int .i64 i10, .int .i64 i11, .slice ao0 L0.length ac0, .slice none 0 0, .int .i64 0]) (by simp [results, Tryz.results72, go_sem]) rfl ⟨⟨_, _, rfl, ?_, ?_⟩, ?_⟩
  · exact HA.out.h0.later (by go_grown)
  · exact RdM.nil _ none 0
  · go_grown

set_option maxRecDepth 100000 in
set_option maxHeartbeats 8000000 in
theorem msgAlone_6 (i1 i2 i3 i4 i5 i6 i7 i8 i9 i10 i11 i12 : Int) (va0 va1 : Value) (L0 : List (Int × Int)) (L1 : List KD) (w : World) (ha : RSMsg w va0 va1 L0 L1) :
    Calls Tryz.prog 72 #[.agg #[.int .i64 6, .int .i64 i1, .int .i64 i2, .int .i64 i3, .int .i64 i4, .int .i64 i5, .int .i64 i6, .int .i64 i7, .int .i64 i8, .int .i64 i9, .int .i64 i10, .int .i64 i11, va0, va1, .int .i64 i12]] w fun e w' => (∃ (u0 u1 : Value), e = .returned (.agg #[.int .i64 6, .int .i64 i1, .int .i64 i2, .int .i64 i3, .int .i64 i4, .int .i64 (opS 6 i5), .int .i64 (opS 6 i6), .int .i64 (opS 6 i7), .int .i64 (opS 6 i8), .int .i64 (keyS 6 i9), .int .i64 (verS 6 i10), .int .i64 (numS 6 i11), u0, u1, .int .i64 (codS 6 i12)]) ∧ RSMsg w' u0 u1 (kinS 6 L0) (versS 6 L1)) ∧ Below w.heap.size w w' := by
  have HA := hid ha
  obtain ⟨ao0, ao1, ac0, ac1, rfl, rfl⟩ := ha.open
  clear ha
  go_enter Tryz.func72, Tryz.ntmps72
  go_wp2
  refine bodyPost_ret (v := .agg #[.int .i64 6, .int .i64 i1, .int .i64 i2, .int .i64 i3, .int .i64 i4, .int .i64 0, .int .i64 0, .int .i64 0, .int .i64 0, .int .i64 i9, .int .i64 i10, .int .i64 0, .slice none 0 0, .slice none 0 0, .int .i64 0]) (by simp [results, Tryz.results72, go_sem]) rfl ⟨⟨_, _, rfl, ?_, ?_⟩, ?_⟩
  · exact Rd.nil _ none 0
  · exact RdM.nil _ none 0
  · go_grown

end Go.Proofs.YtfdcnolcjgjfjaaGreatDoor

/- Part: impl.msgAlone at some kinds: contracts. Written by a program (gme.py). -/
namespace Go.Proofs.YtfdcnolcjgjfjaaGreatDoor
open Go.RowKit
attribute [local go_sem ↓] Go.wp_at_zero Go.wp_at_succ

set_option maxRecDepth 100000 in
set_option maxHeartbeats 8000000 in
theorem msgAlone_8 (i1 i2 i3 i4 i5 i6 i7 i8 i9 i10 i11 i12 : Int) (va0 va1 : Value) (L0 : List (Int × Int)) (L1 : List KD) (w : World) (ha : RSMsg w va0 va1 L0 L1) :
    Calls Tryz.prog 72 #[.agg #[.int .i64 8, .int .i64 i1, .int .i64 i2, .int .i64 i3, .int .i64 i4, .int .i64 i5, .int .i64 i6, .int .i64 i7, .int .i64 i8, .int .i64 i9, .int .i64 i10, .int .i64 i11, va0, va1, .int .i64 i12]] w fun e w' => (∃ (u0 u1 : Value), e = .returned (.agg #[.int .i64 8, .int .i64 i1, .int .i64 i2, .int .i64 i3, .int .i64 i4, .int .i64 (opS 8 i5), .int .i64 (opS 8 i6), .int .i64 (opS 8 i7), .int .i64 (opS 8 i8), .int .i64 (keyS 8 i9), .int .i64 (verS 8 i10), .int .i64 (numS 8 i11), u0, u1, .int .i64 (codS 8 i12)]) ∧ RSMsg w' u0 u1 (kinS 8 L0) (versS 8 L1)) ∧ Below w.heap.size w w' := by
  have HA := hid ha
  obtain ⟨ao0, ao1, ac0, ac1, rfl, rfl⟩ := ha.open
  clear ha
  go_enter Tryz.func72, Tryz.ntmps72
  go_wp2
  refine bodyPost_ret (v := .agg #[.int .i64 8, .int .i64 i1, .int .i64 i2, .int .i64 i3, .int .i64 i4, .int .i64 0, .int .i64 0, .int .i64 0, .int .i64 0, .int .i64 0, .int .i64 0, .int .i64 0, .slice none 0 0, .slice ao1 L1.length ac1, .int .i64 0]) (by simp [results, Tryz.results72, go_sem]) rfl ⟨⟨_, _, rfl, ?_, ?_⟩, ?_⟩
  · exact Rd.nil _ none 0
  · exact HA.out.h1.later (by go_grown)
  · go_grown

set_option maxRecDepth 100000 in
set_option maxHeartbeats 8000000 in
theorem msgAlone_9 (i1 i2 i3 i4 i5 i6 i7 i8 i9 i10 i11 i12 : Int) (va0 va1 : Value) (L0 : List (Int × Int)) (L1 : List KD) (w : World) (ha : RSMsg w va0 va1 L0 L1) :
    Calls Tryz.prog 72 #[.agg #[.int .i64 9, .int .i64 i1, .int .i64 i2, .int .i64 i3, .int .i64 i4, .int .i64 i5, .int .i64 i6, .int .i64 i7, .int .i64 i8, .int .i64 i9, .int .i64 i10, .int .i64 i11, va0, va1, .int .i64 i12]] w fun e w' => (∃ (u0 u1 : Value), e = .returned (.agg #[.int .i64 9, .int .i64 i1, .int .i64 i2, .int .i64 i3, .int .i64 i4, .int .i64 (opS 9 i5), .int .i64 (opS 9 i6), .int .i64 (opS 9 i7), .int .i64 (opS 9 i8), .int .i64 (keyS 9 i9), .int .i64 (verS 9 i10), .int .i64 (numS 9 i11), u0, u1, .int .i64 (codS 9 i12)]) ∧ RSMsg w' u0 u1 (kinS 9 L0) (versS 9 L1)) ∧ Below w.heap.size w w' := by
  have HA := hid ha
  obtain ⟨ao0, ao1, ac0, ac1, rfl, rfl⟩ := ha.open
  clear ha
  go_enter Tryz.func72, Tryz.ntmps72
  go_wp2
  refine bodyPost_ret (v := .agg #[.int .i64 9, .int .i64 i1, .int .i64 i2, .int .i64 i3, .int .i64 i4, .int .i64 i5, .int .i64 i6, .int .i64 i7, .int .i64 i8, .int .i64 0, .int .i64 0, .int .i64 0, .slice none 0 0, .slice none 0 0, .int .i64 0]) (by simp [results, Tryz.results72, go_sem]) rfl ⟨⟨_, _, rfl, ?_, ?_⟩, ?_⟩
  · exact Rd.nil _ none 0
  · exact RdM.nil _ none 0
  · go_grown

set_option maxRecDepth 100000 in
set_option maxHeartbeats 8000000 in
theorem msgAlone_0 (i0 i1 i2 i3 i4 i5 i6 i7 i8 i9 i10 i11 i12 : Int) (va0 va1 : Value) (L0 : List (Int × Int)) (L1 : List KD) (w : World) (ha : RSMsg w va0 va1 L0 L1) (h1 : ¬ i0 = 1) (h2 : ¬ i0 = 2) (h3 : ¬ i0 = 3) (h4 : ¬ i0 = 4) (h5 : ¬ i0 = 5) (h6 : ¬ i0 = 6) (h8 : ¬ i0 = 8) (h9 : ¬ i0 = 9) :
    Calls Tryz.prog 72 #[.agg #[.int .i64 i0, .int .i64 i1, .int .i64 i2, .int .i64 i3, .int .i64 i4, .int .i64 i5, .int .i64 i6, .int .i64 i7, .int .i64 i8, .int .i64 i9, .int .i64 i10, .int .i64 i11, va0, va1, .int .i64 i12]] w fun e w' => (∃ (u0 u1 : Value), e = .returned (.agg #[.int .i64 i0, .int .i64 i1, .int .i64 i2, .int .i64 i3, .int .i64 i4, .int .i64 (opS i0 i5), .int .i64 (opS i0 i6), .int .i64 (opS i0 i7), .int .i64 (opS i0 i8), .int .i64 (keyS i0 i9), .int .i64 (verS i0 i10), .int .i64 (numS i0 i11), u0, u1, .int .i64 (codS i0 i12)]) ∧ RSMsg w' u0 u1 (kinS i0 L0) (versS i0 L1)) ∧ Below w.heap.size w w' := by
  have HA := hid ha
  obtain ⟨ao0, ao1, ac0, ac1, rfl, rfl⟩ := ha.open
  clear ha
  have e : opS i0 i5 = 0 ∧ opS i0 i6 = 0 ∧ opS i0 i7 = 0 ∧ opS i0 i8 = 0 ∧ keyS i0 i9 = 0 ∧ verS i0 i10 = 0 ∧ numS i0 i11 = 0 ∧ codS i0 i12 = 0 ∧ kinS i0 L0 = [] ∧ versS i0 L1 = [] := by
    simp [opS, keyS, verS, numS, codS, kinS, versS, h1, h2, h3, h4, h5, h6, h8, h9]
  obtain ⟨e1, e2, e3, e4, e5, e6, e7, e8, e9, e10⟩ := e
  rw [e1, e2, e3, e4, e5, e6, e7, e8, e9, e10]
  clear e1 e2 e3 e4 e5 e6 e7 e8 e9 e10
  have g1 : (i0 == 1) = false := by simpa using h1
  have g2 : (i0 == 2) = false := by simpa using h2
  have g3 : (i0 == 3) = false := by simpa using h3
  have g4 : (i0 == 4) = false := by simpa using h4
  have g5 : (i0 == 5) = false := by simpa using h5
  have g6 : (i0 == 6) = false := by simpa using h6
  have g8 : (i0 == 8) = false := by simpa using h8
  have g9 : (i0 == 9) = false := by simpa using h9
  clear h1 h2 h3 h4 h5 h6 h8 h9
  go_enter Tryz.func72, Tryz.ntmps72
  go_wp2
  refine bodyPost_ret (v := .agg #[.int .i64 i0, .int .i64 i1, .int .i64 i2, .int .i64 i3, .int .i64 i4, .int .i64 0, .int .i64 0, .int .i64 0, .int .i64 0, .int .i64 0, .int .i64 0, .int .i64 0, .slice none 0 0, .slice none 0 0, .int .i64 0]) (by simp [results, Tryz.results72, go_sem]) rfl ⟨⟨_, _, rfl, ?_, ?_⟩, ?_⟩
  · exact Rd.nil _ none 0
  · exact RdM.nil _ none 0
  · go_grown

end Go.Proofs.YtfdcnolcjgjfjaaGreatDoor

/- Part: impl.msgAlone: contract; what it leaves out. Written by a program (gme.py). -/
namespace Go.Proofs.YtfdcnolcjgjfjaaGreatDoor
open Go.RowKit

theorem same_alone (i0 i1 i2 i3 i4 i5 i6 i7 i8 i9 i10 i11 i12 : Int) (L0 : List (Int × Int)) (L1 : List KD) :
    sameM [i0, i1, i2, i3, i4, i5, i6, i7, i8, i9, i10, i11, i12] [i0, i1, i2, i3, i4, opS i0 i5, opS i0 i6, opS i0 i7, opS i0 i8, keyS i0 i9, verS i0 i10, numS i0 i11, codS i0 i12] L0 (kinS i0 L0) L1 (versS i0 L1) = aloneM i0 i5 i6 i7 i8 i9 i10 i11 i12 L0 L1 := by
  have e : ∀ (c : Prop) [Decidable c] (n : Int), (n = if c then n else 0) ↔ (c ∨ n = 0) := fun c _ n => by by_cases h : c <;> simp [h]
  have el : ∀ (c : Prop) [Decidable c] (l : List (Int × Int)), (l = if c then l else []) ↔ (c ∨ l = []) := fun c _ l => by by_cases h : c <;> simp [h]
  have ev : ∀ (c : Prop) [Decidable c] (l : List KD), (l = if c then l else []) ↔ (c ∨ l = []) := fun c _ l => by by_cases h : c <;> simp [h]
  rw [Bool.eq_iff_iff]
  simp only [sameM, aloneM, decide_eq_true_eq, List.cons.injEq, and_true, true_and, opS, keyS, verS, numS, kinS, codS, versS, e, el, ev]
  simp only [or_assoc]
  constructor
  · rintro ⟨⟨a5, a6, a7, a8, k9, v10, n11, c12⟩, l0, l1⟩
    refine ⟨?_, l1, c12, ?_, v10, k9⟩
    · clear e el ev l1 l0 k9 v10 n11 c12
      by_cases h3 : i0 = 3
      · exact .inl h3
      · by_cases h9 : i0 = 9
        · exact .inr (.inl h9)
        · simp only [h3, h9, false_or] at a5 a6 a7 a8
          exact .inr (.inr ⟨a5, a6, a7, a8⟩)
    · rcases n11 with h | h | h | h
      · exact .inl h
      · exact .inr (.inl h)
      · exact .inr (.inr (.inl h))
      · rcases l0 with g | g | g | g
        · exact .inl g
        · exact .inr (.inl g)
        · exact .inr (.inr (.inl g))
        · exact .inr (.inr (.inr ⟨h, g⟩))
  · rintro ⟨ho, l1, c12, hn, v10, k9⟩
    have w3 : ∀ (a b c d : Prop), (c → d) → (i0 = 3 ∨ i0 = 9 ∨ c) → (i0 = 3 ∨ i0 = 9 ∨ d) := fun _ _ _ _ f h => h.imp id (Or.imp id f)
    have w4 : ∀ (c d : Prop), (c → d) → (i0 = 4 ∨ i0 = 2 ∨ i0 = 5 ∨ c) → (i0 = 4 ∨ i0 = 2 ∨ i0 = 5 ∨ d) := fun _ _ f h => h.imp id (Or.imp id (Or.imp id f))
    exact ⟨⟨w3 True True _ _ (fun h => h.1) ho, w3 True True _ _ (fun h => h.2.1) ho, w3 True True _ _ (fun h => h.2.2.1) ho, w3 True True _ _ (fun h => h.2.2.2) ho, k9, v10, w4 _ _ (fun h => h.1) hn, c12⟩, w4 _ _ (fun h => h.2) hn, l1⟩

set_option maxRecDepth 100000 in
set_option maxHeartbeats 8000000 in
theorem msgAlone_any (i0 i1 i2 i3 i4 i5 i6 i7 i8 i9 i10 i11 i12 : Int) (va0 va1 : Value) (L0 : List (Int × Int)) (L1 : List KD) (w : World) (ha : RSMsg w va0 va1 L0 L1) :
    Calls Tryz.prog 72 #[.agg #[.int .i64 i0, .int .i64 i1, .int .i64 i2, .int .i64 i3, .int .i64 i4, .int .i64 i5, .int .i64 i6, .int .i64 i7, .int .i64 i8, .int .i64 i9, .int .i64 i10, .int .i64 i11, va0, va1, .int .i64 i12]] w fun e w' => (∃ (u0 u1 : Value), e = .returned (.agg #[.int .i64 i0, .int .i64 i1, .int .i64 i2, .int .i64 i3, .int .i64 i4, .int .i64 (opS i0 i5), .int .i64 (opS i0 i6), .int .i64 (opS i0 i7), .int .i64 (opS i0 i8), .int .i64 (keyS i0 i9), .int .i64 (verS i0 i10), .int .i64 (numS i0 i11), u0, u1, .int .i64 (codS i0 i12)]) ∧ RSMsg w' u0 u1 (kinS i0 L0) (versS i0 L1)) ∧ Below w.heap.size w w' := by
  by_cases h1 : i0 = 1
  case pos =>
    subst h1
    exact msgAlone_1 i1 i2 i3 i4 i5 i6 i7 i8 i9 i10 i11 i12 va0 va1 L0 L1 w ha
  by_cases h2 : i0 = 2
  case pos =>
    subst h2
    exact msgAlone_2 i1 i2 i3 i4 i5 i6 i7 i8 i9 i10 i11 i12 va0 va1 L0 L1 w ha
  by_cases h3 : i0 = 3
  case pos =>
    subst h3
    exact msgAlone_3 i1 i2 i3 i4 i5 i6 i7 i8 i9 i10 i11 i12 va0 va1 L0 L1 w ha
  by_cases h4 : i0 = 4
  case pos =>
    subst h4
    exact msgAlone_4 i1 i2 i3 i4 i5 i6 i7 i8 i9 i10 i11 i12 va0 va1 L0 L1 w ha
  by_cases h5 : i0 = 5
  case pos =>
    subst h5
    exact msgAlone_5 i1 i2 i3 i4 i5 i6 i7 i8 i9 i10 i11 i12 va0 va1 L0 L1 w ha
  by_cases h6 : i0 = 6
  case pos =>
    subst h6
    exact msgAlone_6 i1 i2 i3 i4 i5 i6 i7 i8 i9 i10 i11 i12 va0 va1 L0 L1 w ha
  by_cases h8 : i0 = 8
  case pos =>
    subst h8
    exact msgAlone_8 i1 i2 i3 i4 i5 i6 i7 i8 i9 i10 i11 i12 va0 va1 L0 L1 w ha
  by_cases h9 : i0 = 9
  case pos =>
    subst h9
    exact msgAlone_9 i1 i2 i3 i4 i5 i6 i7 i8 i9 i10 i11 i12 va0 va1 L0 L1 w ha
  exact msgAlone_0 i0 i1 i2 i3 i4 i5 i6 i7 i8 i9 i10 i11 i12 va0 va1 L0 L1 w ha h1 h2 h3 h4 h5 h6 h8 h9

end Go.Proofs.YtfdcnolcjgjfjaaGreatDoor

/- Part: impl.askNumbers: contract. Written by a program (gme.py). -/
namespace Go.Proofs.YtfdcnolcjgjfjaaGreatDoor
open Go.RowKit
attribute [local go_sem ↓] Go.wp_at_zero Go.wp_at_succ

set_option maxRecDepth 100000 in
set_option maxHeartbeats 4000000 in
theorem askNumbers_any (i0 i1 i2 i3 i4 i5 i6 i7 i8 i9 i10 i11 i12 : Int) (va0 va1 : Value) (L0 : List (Int × Int)) (L1 : List KD) (w : World) (ha : RSMsg w va0 va1 L0 L1) (hE : ErrM w) :
    Calls Tryz.prog 73 #[.agg #[.int .i64 i0, .int .i64 i1, .int .i64 i2, .int .i64 i3, .int .i64 i4, .int .i64 i5, .int .i64 i6, .int .i64 i7, .int .i64 i8, .int .i64 i9, .int .i64 i10, .int .i64 i11, va0, va1, .int .i64 i12]] w fun e w' => Asked (numsM i0 i1 i3 i4) e ∧ Below w.heap.size w w' := by
  have HE := hid hE
  clear hE
  have HA := hid ha
  obtain ⟨ao0, ao1, ac0, ac1, rfl, rfl⟩ := ha.open
  clear ha
  by_cases h5 : i0 = 5
  case pos =>
    subst h5
    by_cases hi : i3 = 0
    · subst hi
      by_cases hs : i4 = 0
      · subst hs
        go_enter Tryz.func73, Tryz.ntmps73
        go_wp2_with fail
        have a0_1 : (w.alloc (.cells #[.int .i64 5, .int .i64 i1, .int .i64 i2, .int .i64 0, .int .i64 0, .int .i64 i5, .int .i64 i6, .int .i64 i7, .int .i64 i8, .int .i64 i9, .int .i64 i10, .int .i64 i11, .slice ao0 L0.length ac0, .slice ao1 L1.length ac1, .int .i64 i12] 32)).cell? ⟨w.heap.size, 0, none⟩ = some (.int .i64 5) := by go_cell
        have a1_1 : (w.alloc (.cells #[.int .i64 5, .int .i64 i1, .int .i64 i2, .int .i64 0, .int .i64 0, .int .i64 i5, .int .i64 i6, .int .i64 i7, .int .i64 i8, .int .i64 i9, .int .i64 i10, .int .i64 i11, .slice ao0 L0.length ac0, .slice ao1 L1.length ac1, .int .i64 i12] 32)).cell? ⟨w.heap.size, 1, none⟩ = some (.int .i64 i1) := by go_cell
        have a2_1 : (w.alloc (.cells #[.int .i64 5, .int .i64 i1, .int .i64 i2, .int .i64 0, .int .i64 0, .int .i64 i5, .int .i64 i6, .int .i64 i7, .int .i64 i8, .int .i64 i9, .int .i64 i10, .int .i64 i11, .slice ao0 L0.length ac0, .slice ao1 L1.length ac1, .int .i64 i12] 32)).cell? ⟨w.heap.size, 2, none⟩ = some (.int .i64 i2) := by go_cell
        have a3_1 : (w.alloc (.cells #[.int .i64 5, .int .i64 i1, .int .i64 i2, .int .i64 0, .int .i64 0, .int .i64 i5, .int .i64 i6, .int .i64 i7, .int .i64 i8, .int .i64 i9, .int .i64 i10, .int .i64 i11, .slice ao0 L0.length ac0, .slice ao1 L1.length ac1, .int .i64 i12] 32)).cell? ⟨w.heap.size, 3, none⟩ = some (.int .i64 0) := by go_cell
        have a4_1 : (w.alloc (.cells #[.int .i64 5, .int .i64 i1, .int .i64 i2, .int .i64 0, .int .i64 0, .int .i64 i5, .int .i64 i6, .int .i64 i7, .int .i64 i8, .int .i64 i9, .int .i64 i10, .int .i64 i11, .slice ao0 L0.length ac0, .slice ao1 L1.length ac1, .int .i64 i12] 32)).cell? ⟨w.heap.size, 4, none⟩ = some (.int .i64 0) := by go_cell
        have a5_1 : (w.alloc (.cells #[.int .i64 5, .int .i64 i1, .int .i64 i2, .int .i64 0, .int .i64 0, .int .i64 i5, .int .i64 i6, .int .i64 i7, .int .i64 i8, .int .i64 i9, .int .i64 i10, .int .i64 i11, .slice ao0 L0.length ac0, .slice ao1 L1.length ac1, .int .i64 i12] 32)).cell? ⟨w.heap.size, 5, none⟩ = some (.int .i64 i5) := by go_cell
        have a6_1 : (w.alloc (.cells #[.int .i64 5, .int .i64 i1, .int .i64 i2, .int .i64 0, .int .i64 0, .int .i64 i5, .int .i64 i6, .int .i64 i7, .int .i64 i8, .int .i64 i9, .int .i64 i10, .int .i64 i11, .slice ao0 L0.length ac0, .slice ao1 L1.length ac1, .int .i64 i12] 32)).cell? ⟨w.heap.size, 6, none⟩ = some (.int .i64 i6) := by go_cell
        have a7_1 : (w.alloc (.cells #[.int .i64 5, .int .i64 i1, .int .i64 i2, .int .i64 0, .int .i64 0, .int .i64 i5, .int .i64 i6, .int .i64 i7, .int .i64 i8, .int .i64 i9, .int .i64 i10, .int .i64 i11, .slice ao0 L0.length ac0, .slice ao1 L1.length ac1, .int .i64 i12] 32)).cell? ⟨w.heap.size, 7, none⟩ = some (.int .i64 i7) := by go_cell
        have a8_1 : (w.alloc (.cells #[.int .i64 5, .int .i64 i1, .int .i64 i2, .int .i64 0, .int .i64 0, .int .i64 i5, .int .i64 i6, .int .i64 i7, .int .i64 i8, .int .i64 i9, .int .i64 i10, .int .i64 i11, .slice ao0 L0.length ac0, .slice ao1 L1.length ac1, .int .i64 i12] 32)).cell? ⟨w.heap.size, 8, none⟩ = some (.int .i64 i8) := by go_cell
        have a9_1 : (w.alloc (.cells #[.int .i64 5, .int .i64 i1, .int .i64 i2, .int .i64 0, .int .i64 0, .int .i64 i5, .int .i64 i6, .int .i64 i7, .int .i64 i8, .int .i64 i9, .int .i64 i10, .int .i64 i11, .slice ao0 L0.length ac0, .slice ao1 L1.length ac1, .int .i64 i12] 32)).cell? ⟨w.heap.size, 9, none⟩ = some (.int .i64 i9) := by go_cell
        have a10_1 : (w.alloc (.cells #[.int .i64 5, .int .i64 i1, .int .i64 i2, .int .i64 0, .int .i64 0, .int .i64 i5, .int .i64 i6, .int .i64 i7, .int .i64 i8, .int .i64 i9, .int .i64 i10, .int .i64 i11, .slice ao0 L0.length ac0, .slice ao1 L1.length ac1, .int .i64 i12] 32)).cell? ⟨w.heap.size, 10, none⟩ = some (.int .i64 i10) := by go_cell
        have a11_1 : (w.alloc (.cells #[.int .i64 5, .int .i64 i1, .int .i64 i2, .int .i64 0, .int .i64 0, .int .i64 i5, .int .i64 i6, .int .i64 i7, .int .i64 i8, .int .i64 i9, .int .i64 i10, .int .i64 i11, .slice ao0 L0.length ac0, .slice ao1 L1.length ac1, .int .i64 i12] 32)).cell? ⟨w.heap.size, 11, none⟩ = some (.int .i64 i11) := by go_cell
        have a12_1 : (w.alloc (.cells #[.int .i64 5, .int .i64 i1, .int .i64 i2, .int .i64 0, .int .i64 0, .int .i64 i5, .int .i64 i6, .int .i64 i7, .int .i64 i8, .int .i64 i9, .int .i64 i10, .int .i64 i11, .slice ao0 L0.length ac0, .slice ao1 L1.length ac1, .int .i64 i12] 32)).cell? ⟨w.heap.size, 12, none⟩ = some (.slice ao0 L0.length ac0) := by go_cell
        have a13_1 : (w.alloc (.cells #[.int .i64 5, .int .i64 i1, .int .i64 i2, .int .i64 0, .int .i64 0, .int .i64 i5, .int .i64 i6, .int .i64 i7, .int .i64 i8, .int .i64 i9, .int .i64 i10, .int .i64 i11, .slice ao0 L0.length ac0, .slice ao1 L1.length ac1, .int .i64 i12] 32)).cell? ⟨w.heap.size, 13, none⟩ = some (.slice ao1 L1.length ac1) := by go_cell
        have a14_1 : (w.alloc (.cells #[.int .i64 5, .int .i64 i1, .int .i64 i2, .int .i64 0, .int .i64 0, .int .i64 i5, .int .i64 i6, .int .i64 i7, .int .i64 i8, .int .i64 i9, .int .i64 i10, .int .i64 i11, .slice ao0 L0.length ac0, .slice ao1 L1.length ac1, .int .i64 i12] 32)).cell? ⟨w.heap.size, 14, none⟩ = some (.int .i64 i12) := by go_cell
        have al_1 : w.heap.size < (w.alloc (.cells #[.int .i64 5, .int .i64 i1, .int .i64 i2, .int .i64 0, .int .i64 0, .int .i64 i5, .int .i64 i6, .int .i64 i7, .int .i64 i8, .int .i64 i9, .int .i64 i10, .int .i64 i11, .slice ao0 L0.length ac0, .slice ao1 L1.length ac1, .int .i64 i12] 32)).heap.size := by first | (simp; done) | (simp; omega)
        have c1 : Below w.heap.size w (w.alloc (.cells #[.int .i64 5, .int .i64 i1, .int .i64 i2, .int .i64 0, .int .i64 0, .int .i64 i5, .int .i64 i6, .int .i64 i7, .int .i64 i8, .int .i64 i9, .int .i64 i10, .int .i64 i11, .slice ao0 L0.length ac0, .slice ao1 L1.length ac1, .int .i64 i12] 32)) := by go_grown
        have s1 : (w.alloc (.cells #[.int .i64 5, .int .i64 i1, .int .i64 i2, .int .i64 0, .int .i64 0, .int .i64 i5, .int .i64 i6, .int .i64 i7, .int .i64 i8, .int .i64 i9, .int .i64 i10, .int .i64 i11, .slice ao0 L0.length ac0, .slice ao1 L1.length ac1, .int .i64 i12] 32)).heap.size = w.heap.size + 1 := by simp
        generalize (w.alloc (.cells #[.int .i64 5, .int .i64 i1, .int .i64 i2, .int .i64 0, .int .i64 0, .int .i64 i5, .int .i64 i6, .int .i64 i7, .int .i64 i8, .int .i64 i9, .int .i64 i10, .int .i64 i11, .slice ao0 L0.length ac0, .slice ao1 L1.length ac1, .int .i64 i12] 32)) = w1 at a0_1 a1_1 a2_1 a3_1 a4_1 a5_1 a6_1 a7_1 a8_1 a9_1 a10_1 a11_1 a12_1 a13_1 a14_1 al_1 c1 s1 ⊢
        have qa0_1 := cell_regrown a0_1
        have qa1_1 := cell_regrown a1_1
        have qa2_1 := cell_regrown a2_1
        have qa3_1 := cell_regrown a3_1
        have qa4_1 := cell_regrown a4_1
        have qa5_1 := cell_regrown a5_1
        have qa6_1 := cell_regrown a6_1
        have qa7_1 := cell_regrown a7_1
        have qa8_1 := cell_regrown a8_1
        have qa9_1 := cell_regrown a9_1
        have qa10_1 := cell_regrown a10_1
        have qa11_1 := cell_regrown a11_1
        have qa12_1 := cell_regrown a12_1
        have qa13_1 := cell_regrown a13_1
        have qa14_1 := cell_regrown a14_1
        refine (need_yes _).mono ?_
        rintro e wz ⟨rfl, hz⟩
        obtain rfl := hz.symm
        clear hz
        go_wp2_with fail
        refine (need_yes _).mono ?_
        rintro e wz ⟨rfl, hz⟩
        obtain rfl := hz.symm
        clear hz
        go_wp2_with fail
        exact ⟨rfl, .tuple #[], by simp [results, Tryz.results73, go_sem], Or.inl ⟨(by first | (simp [numsM]; done) | (simp_all [numsM]; done) | (simp [numsM]; omega) | (simp_all [numsM]; omega)), rfl⟩, c1⟩
      · have hn : (i4 == 0) = false := by simpa using hs
        go_enter Tryz.func73, Tryz.ntmps73
        go_wp2_with fail
        have a0_1 : (w.alloc (.cells #[.int .i64 5, .int .i64 i1, .int .i64 i2, .int .i64 0, .int .i64 i4, .int .i64 i5, .int .i64 i6, .int .i64 i7, .int .i64 i8, .int .i64 i9, .int .i64 i10, .int .i64 i11, .slice ao0 L0.length ac0, .slice ao1 L1.length ac1, .int .i64 i12] 32)).cell? ⟨w.heap.size, 0, none⟩ = some (.int .i64 5) := by go_cell
        have a1_1 : (w.alloc (.cells #[.int .i64 5, .int .i64 i1, .int .i64 i2, .int .i64 0, .int .i64 i4, .int .i64 i5, .int .i64 i6, .int .i64 i7, .int .i64 i8, .int .i64 i9, .int .i64 i10, .int .i64 i11, .slice ao0 L0.length ac0, .slice ao1 L1.length ac1, .int .i64 i12] 32)).cell? ⟨w.heap.size, 1, none⟩ = some (.int .i64 i1) := by go_cell
        have a2_1 : (w.alloc (.cells #[.int .i64 5, .int .i64 i1, .int .i64 i2, .int .i64 0, .int .i64 i4, .int .i64 i5, .int .i64 i6, .int .i64 i7, .int .i64 i8, .int .i64 i9, .int .i64 i10, .int .i64 i11, .slice ao0 L0.length ac0, .slice ao1 L1.length ac1, .int .i64 i12] 32)).cell? ⟨w.heap.size, 2, none⟩ = some (.int .i64 i2) := by go_cell
        have a3_1 : (w.alloc (.cells #[.int .i64 5, .int .i64 i1, .int .i64 i2, .int .i64 0, .int .i64 i4, .int .i64 i5, .int .i64 i6, .int .i64 i7, .int .i64 i8, .int .i64 i9, .int .i64 i10, .int .i64 i11, .slice ao0 L0.length ac0, .slice ao1 L1.length ac1, .int .i64 i12] 32)).cell? ⟨w.heap.size, 3, none⟩ = some (.int .i64 0) := by go_cell
        have a4_1 : (w.alloc (.cells #[.int .i64 5, .int .i64 i1, .int .i64 i2, .int .i64 0, .int .i64 i4, .int .i64 i5, .int .i64 i6, .int .i64 i7, .int .i64 i8, .int .i64 i9, .int .i64 i10, .int .i64 i11, .slice ao0 L0.length ac0, .slice ao1 L1.length ac1, .int .i64 i12] 32)).cell? ⟨w.heap.size, 4, none⟩ = some (.int .i64 i4) := by go_cell
        have a5_1 : (w.alloc (.cells #[.int .i64 5, .int .i64 i1, .int .i64 i2, .int .i64 0, .int .i64 i4, .int .i64 i5, .int .i64 i6, .int .i64 i7, .int .i64 i8, .int .i64 i9, .int .i64 i10, .int .i64 i11, .slice ao0 L0.length ac0, .slice ao1 L1.length ac1, .int .i64 i12] 32)).cell? ⟨w.heap.size, 5, none⟩ = some (.int .i64 i5) := by go_cell
        have a6_1 : (w.alloc (.cells #[.int .i64 5, .int .i64 i1, .int .i64 i2, .int .i64 0, .int .i64 i4, .int .i64 i5, .int .i64 i6, .int .i64 i7, .int .i64 i8, .int .i64 i9, .int .i64 i10, .int .i64 i11, .slice ao0 L0.length ac0, .slice ao1 L1.length ac1, .int .i64 i12] 32)).cell? ⟨w.heap.size, 6, none⟩ = some (.int .i64 i6) := by go_cell
        have a7_1 : (w.alloc (.cells #[.int .i64 5, .int .i64 i1, .int .i64 i2, .int .i64 0, .int .i64 i4, .int .i64 i5, .int .i64 i6, .int .i64 i7, .int .i64 i8, .int .i64 i9, .int .i64 i10, .int .i64 i11, .slice ao0 L0.length ac0, .slice ao1 L1.length ac1, .int .i64 i12] 32)).cell? ⟨w.heap.size, 7, none⟩ = some (.int .i64 i7) := by go_cell
        have a8_1 : (w.alloc (.cells #[.int .i64 5, .int .i64 i1, .int .i64 i2, .int .i64 0, .int .i64 i4, .int .i64 i5, .int .i64 i6, .int .i64 i7, .int .i64 i8, .int .i64 i9, .int .i64 i10, .int .i64 i11, .slice ao0 L0.length ac0, .slice ao1 L1.length ac1, .int .i64 i12] 32)).cell? ⟨w.heap.size, 8, none⟩ = some (.int .i64 i8) := by go_cell
        have a9_1 : (w.alloc (.cells #[.int .i64 5, .int .i64 i1, .int .i64 i2, .int .i64 0, .int .i64 i4, .int .i64 i5, .int .i64 i6, .int .i64 i7, .int .i64 i8, .int .i64 i9, .int .i64 i10, .int .i64 i11, .slice ao0 L0.length ac0, .slice ao1 L1.length ac1, .int .i64 i12] 32)).cell? ⟨w.heap.size, 9, none⟩ = some (.int .i64 i9) := by go_cell
        have a10_1 : (w.alloc (.cells #[.int .i64 5, .int .i64 i1, .int .i64 i2, .int .i64 0, .int .i64 i4, .int .i64 i5, .int .i64 i6, .int .i64 i7, .int .i64 i8, .int .i64 i9, .int .i64 i10, .int .i64 i11, .slice ao0 L0.length ac0, .slice ao1 L1.length ac1, .int .i64 i12] 32)).cell? ⟨w.heap.size, 10, none⟩ = some (.int .i64 i10) := by go_cell
        have a11_1 : (w.alloc (.cells #[.int .i64 5, .int .i64 i1, .int .i64 i2, .int .i64 0, .int .i64 i4, .int .i64 i5, .int .i64 i6, .int .i64 i7, .int .i64 i8, .int .i64 i9, .int .i64 i10, .int .i64 i11, .slice ao0 L0.length ac0, .slice ao1 L1.length ac1, .int .i64 i12] 32)).cell? ⟨w.heap.size, 11, none⟩ = some (.int .i64 i11) := by go_cell
        have a12_1 : (w.alloc (.cells #[.int .i64 5, .int .i64 i1, .int .i64 i2, .int .i64 0, .int .i64 i4, .int .i64 i5, .int .i64 i6, .int .i64 i7, .int .i64 i8, .int .i64 i9, .int .i64 i10, .int .i64 i11, .slice ao0 L0.length ac0, .slice ao1 L1.length ac1, .int .i64 i12] 32)).cell? ⟨w.heap.size, 12, none⟩ = some (.slice ao0 L0.length ac0) := by go_cell
        have a13_1 : (w.alloc (.cells #[.int .i64 5, .int .i64 i1, .int .i64 i2, .int .i64 0, .int .i64 i4, .int .i64 i5, .int .i64 i6, .int .i64 i7, .int .i64 i8, .int .i64 i9, .int .i64 i10, .int .i64 i11, .slice ao0 L0.length ac0, .slice ao1 L1.length ac1, .int .i64 i12] 32)).cell? ⟨w.heap.size, 13, none⟩ = some (.slice ao1 L1.length ac1) := by go_cell
        have a14_1 : (w.alloc (.cells #[.int .i64 5, .int .i64 i1, .int .i64 i2, .int .i64 0, .int .i64 i4, .int .i64 i5, .int .i64 i6, .int .i64 i7, .int .i64 i8, .int .i64 i9, .int .i64 i10, .int .i64 i11, .slice ao0 L0.length ac0, .slice ao1 L1.length ac1, .int .i64 i12] 32)).cell? ⟨w.heap.size, 14, none⟩ = some (.int .i64 i12) := by go_cell
        have al_1 : w.heap.size < (w.alloc (.cells #[.int .i64 5, .int .i64 i1, .int .i64 i2, .int .i64 0, .int .i64 i4, .int .i64 i5, .int .i64 i6, .int .i64 i7, .int .i64 i8, .int .i64 i9, .int .i64 i10, .int .i64 i11, .slice ao0 L0.length ac0, .slice ao1 L1.length ac1, .int .i64 i12] 32)).heap.size := by first | (simp; done) | (simp; omega)
        have c1 : Below w.heap.size w (w.alloc (.cells #[.int .i64 5, .int .i64 i1, .int .i64 i2, .int .i64 0, .int .i64 i4, .int .i64 i5, .int .i64 i6, .int .i64 i7, .int .i64 i8, .int .i64 i9, .int .i64 i10, .int .i64 i11, .slice ao0 L0.length ac0, .slice ao1 L1.length ac1, .int .i64 i12] 32)) := by go_grown
        have s1 : (w.alloc (.cells #[.int .i64 5, .int .i64 i1, .int .i64 i2, .int .i64 0, .int .i64 i4, .int .i64 i5, .int .i64 i6, .int .i64 i7, .int .i64 i8, .int .i64 i9, .int .i64 i10, .int .i64 i11, .slice ao0 L0.length ac0, .slice ao1 L1.length ac1, .int .i64 i12] 32)).heap.size = w.heap.size + 1 := by simp
        generalize (w.alloc (.cells #[.int .i64 5, .int .i64 i1, .int .i64 i2, .int .i64 0, .int .i64 i4, .int .i64 i5, .int .i64 i6, .int .i64 i7, .int .i64 i8, .int .i64 i9, .int .i64 i10, .int .i64 i11, .slice ao0 L0.length ac0, .slice ao1 L1.length ac1, .int .i64 i12] 32)) = w1 at a0_1 a1_1 a2_1 a3_1 a4_1 a5_1 a6_1 a7_1 a8_1 a9_1 a10_1 a11_1 a12_1 a13_1 a14_1 al_1 c1 s1 ⊢
        have qa0_1 := cell_regrown a0_1
        have qa1_1 := cell_regrown a1_1
        have qa2_1 := cell_regrown a2_1
        have qa3_1 := cell_regrown a3_1
        have qa4_1 := cell_regrown a4_1
        have qa5_1 := cell_regrown a5_1
        have qa6_1 := cell_regrown a6_1
        have qa7_1 := cell_regrown a7_1
        have qa8_1 := cell_regrown a8_1
        have qa9_1 := cell_regrown a9_1
        have qa10_1 := cell_regrown a10_1
        have qa11_1 := cell_regrown a11_1
        have qa12_1 := cell_regrown a12_1
        have qa13_1 := cell_regrown a13_1
        have qa14_1 := cell_regrown a14_1
        refine (need_yes _).mono ?_
        rintro e wz ⟨rfl, hz⟩
        obtain rfl := hz.symm
        clear hz
        go_wp2_with fail
        refine (need_no _ (HE.out.later c1)).mono ?_
        rintro e wz ⟨⟨t, v, rfl⟩, rfl⟩
        exact ⟨rfl, Or.inr ⟨(by first | (simp [numsM]; done) | (simp_all [numsM]; done) | (simp [numsM]; omega) | (simp_all [numsM]; omega)), t, v, rfl⟩, c1⟩
    · have hn : (i3 == 0) = false := by simpa using hi
      go_enter Tryz.func73, Tryz.ntmps73
      go_wp2_with fail
      have a0_1 : (w.alloc (.cells #[.int .i64 5, .int .i64 i1, .int .i64 i2, .int .i64 i3, .int .i64 i4, .int .i64 i5, .int .i64 i6, .int .i64 i7, .int .i64 i8, .int .i64 i9, .int .i64 i10, .int .i64 i11, .slice ao0 L0.length ac0, .slice ao1 L1.length ac1, .int .i64 i12] 32)).cell? ⟨w.heap.size, 0, none⟩ = some (.int .i64 5) := by go_cell
      have a1_1 : (w.alloc (.cells #[.int .i64 5, .int .i64 i1, .int .i64 i2, .int .i64 i3, .int .i64 i4, .int .i64 i5, .int .i64 i6, .int .i64 i7, .int .i64 i8, .int .i64 i9, .int .i64 i10, .int .i64 i11, .slice ao0 L0.length ac0, .slice ao1 L1.length ac1, .int .i64 i12] 32)).cell? ⟨w.heap.size, 1, none⟩ = some (.int .i64 i1) := by go_cell
      have a2_1 : (w.alloc (.cells #[.int .i64 5, .int .i64 i1, .int .i64 i2, .int .i64 i3, .int .i64 i4, .int .i64 i5, .int .i64 i6, .int .i64 i7, .int .i64 i8, .int .i64 i9, .int .i64 i10, .int .i64 i11, .slice ao0 L0.length ac0, .slice ao1 L1.length ac1, .int .i64 i12] 32)).cell? ⟨w.heap.size, 2, none⟩ = some (.int .i64 i2) := by go_cell
      have a3_1 : (w.alloc (.cells #[.int .i64 5, .int .i64 i1, .int .i64 i2, .int .i64 i3, .int .i64 i4, .int .i64 i5, .int .i64 i6, .int .i64 i7, .int .i64 i8, .int .i64 i9, .int .i64 i10, .int .i64 i11, .slice ao0 L0.length ac0, .slice ao1 L1.length ac1, .int .i64 i12] 32)).cell? ⟨w.heap.size, 3, none⟩ = some (.int .i64 i3) := by go_cell
      have a4_1 : (w.alloc (.cells #[.int .i64 5, .int .i64 i1, .int .i64 i2, .int .i64 i3, .int .i64 i4, .int .i64 i5, .int .i64 i6, .int .i64 i7, .int .i64 i8, .int .i64 i9, .int .i64 i10, .int .i64 i11, .slice ao0 L0.length ac0, .slice ao1 L1.length ac1, .int .i64 i12] 32)).cell? ⟨w.heap.size, 4, none⟩ = some (.int .i64 i4) := by go_cell
      have a5_1 : (w.alloc (.cells #[.int .i64 5, .int .i64 i1, .int .i64 i2, .int .i64 i3, .int .i64 i4, .int .i64 i5, .int .i64 i6, .int .i64 i7, .int .i64 i8, .int .i64 i9, .int .i64 i10, .int .i64 i11, .slice ao0 L0.length ac0, .slice ao1 L1.length ac1, .int .i64 i12] 32)).cell? ⟨w.heap.size, 5, none⟩ = some (.int .i64 i5) := by go_cell
      have a6_1 : (w.alloc (.cells #[.int .i64 5, .int .i64 i1, .int .i64 i2, .int .i64 i3, .int .i64 i4, .int .i64 i5, .int .i64 i6, .int .i64 i7, .int .i64 i8, .int .i64 i9, .int .i64 i10, .int .i64 i11, .slice ao0 L0.length ac0, .slice ao1 L1.length ac1, .int .i64 i12] 32)).cell? ⟨w.heap.size, 6, none⟩ = some (.int .i64 i6) := by go_cell
      have a7_1 : (w.alloc (.cells #[.int .i64 5, .int .i64 i1, .int .i64 i2, .int .i64 i3, .int .i64 i4, .int .i64 i5, .int .i64 i6, .int .i64 i7, .int .i64 i8, .int .i64 i9, .int .i64 i10, .int .i64 i11, .slice ao0 L0.length ac0, .slice ao1 L1.length ac1, .int .i64 i12] 32)).cell? ⟨w.heap.size, 7, none⟩ = some (.int .i64 i7) := by go_cell
      have a8_1 : (w.alloc (.cells #[.int .i64 5, .int .i64 i1, .int .i64 i2, .int .i64 i3, .int .i64 i4, .int .i64 i5, .int .i64 i6, .int .i64 i7, .int .i64 i8, .int .i64 i9, .int .i64 i10, .int .i64 i11, .slice ao0 L0.length ac0, .slice ao1 L1.length ac1, .int .i64 i12] 32)).cell? ⟨w.heap.size, 8, none⟩ = some (.int .i64 i8) := by go_cell
      have a9_1 : (w.alloc (.cells #[.int .i64 5, .int .i64 i1, .int .i64 i2, .int .i64 i3, .int .i64 i4, .int .i64 i5, .int .i64 i6, .int .i64 i7, .int .i64 i8, .int .i64 i9, .int .i64 i10, .int .i64 i11, .slice ao0 L0.length ac0, .slice ao1 L1.length ac1, .int .i64 i12] 32)).cell? ⟨w.heap.size, 9, none⟩ = some (.int .i64 i9) := by go_cell
      have a10_1 : (w.alloc (.cells #[.int .i64 5, .int .i64 i1, .int .i64 i2, .int .i64 i3, .int .i64 i4, .int .i64 i5, .int .i64 i6, .int .i64 i7, .int .i64 i8, .int .i64 i9, .int .i64 i10, .int .i64 i11, .slice ao0 L0.length ac0, .slice ao1 L1.length ac1, .int .i64 i12] 32)).cell? ⟨w.heap.size, 10, none⟩ = some (.int .i64 i10) := by go_cell
      have a11_1 : (w.alloc (.cells #[.int .i64 5, .int .i64 i1, .int .i64 i2, .int .i64 i3, .int .i64 i4, .int .i64 i5, .int .i64 i6, .int .i64 i7, .int .i64 i8, .int .i64 i9, .int .i64 i10, .int .i64 i11, .slice ao0 L0.length ac0, .slice ao1 L1.length ac1, .int .i64 i12] 32)).cell? ⟨w.heap.size, 11, none⟩ = some (.int .i64 i11) := by go_cell
      have a12_1 : (w.alloc (.cells #[.int .i64 5, .int .i64 i1, .int .i64 i2, .int .i64 i3, .int .i64 i4, .int .i64 i5, .int .i64 i6, .int .i64 i7, .int .i64 i8, .int .i64 i9, .int .i64 i10, .int .i64 i11, .slice ao0 L0.length ac0, .slice ao1 L1.length ac1, .int .i64 i12] 32)).cell? ⟨w.heap.size, 12, none⟩ = some (.slice ao0 L0.length ac0) := by go_cell
      have a13_1 : (w.alloc (.cells #[.int .i64 5, .int .i64 i1, .int .i64 i2, .int .i64 i3, .int .i64 i4, .int .i64 i5, .int .i64 i6, .int .i64 i7, .int .i64 i8, .int .i64 i9, .int .i64 i10, .int .i64 i11, .slice ao0 L0.length ac0, .slice ao1 L1.length ac1, .int .i64 i12] 32)).cell? ⟨w.heap.size, 13, none⟩ = some (.slice ao1 L1.length ac1) := by go_cell
      have a14_1 : (w.alloc (.cells #[.int .i64 5, .int .i64 i1, .int .i64 i2, .int .i64 i3, .int .i64 i4, .int .i64 i5, .int .i64 i6, .int .i64 i7, .int .i64 i8, .int .i64 i9, .int .i64 i10, .int .i64 i11, .slice ao0 L0.length ac0, .slice ao1 L1.length ac1, .int .i64 i12] 32)).cell? ⟨w.heap.size, 14, none⟩ = some (.int .i64 i12) := by go_cell
      have al_1 : w.heap.size < (w.alloc (.cells #[.int .i64 5, .int .i64 i1, .int .i64 i2, .int .i64 i3, .int .i64 i4, .int .i64 i5, .int .i64 i6, .int .i64 i7, .int .i64 i8, .int .i64 i9, .int .i64 i10, .int .i64 i11, .slice ao0 L0.length ac0, .slice ao1 L1.length ac1, .int .i64 i12] 32)).heap.size := by first | (simp; done) | (simp; omega)
      have c1 : Below w.heap.size w (w.alloc (.cells #[.int .i64 5, .int .i64 i1, .int .i64 i2, .int .i64 i3, .int .i64 i4, .int .i64 i5, .int .i64 i6, .int .i64 i7, .int .i64 i8, .int .i64 i9, .int .i64 i10, .int .i64 i11, .slice ao0 L0.length ac0, .slice ao1 L1.length ac1, .int .i64 i12] 32)) := by go_grown
      have s1 : (w.alloc (.cells #[.int .i64 5, .int .i64 i1, .int .i64 i2, .int .i64 i3, .int .i64 i4, .int .i64 i5, .int .i64 i6, .int .i64 i7, .int .i64 i8, .int .i64 i9, .int .i64 i10, .int .i64 i11, .slice ao0 L0.length ac0, .slice ao1 L1.length ac1, .int .i64 i12] 32)).heap.size = w.heap.size + 1 := by simp
      generalize (w.alloc (.cells #[.int .i64 5, .int .i64 i1, .int .i64 i2, .int .i64 i3, .int .i64 i4, .int .i64 i5, .int .i64 i6, .int .i64 i7, .int .i64 i8, .int .i64 i9, .int .i64 i10, .int .i64 i11, .slice ao0 L0.length ac0, .slice ao1 L1.length ac1, .int .i64 i12] 32)) = w1 at a0_1 a1_1 a2_1 a3_1 a4_1 a5_1 a6_1 a7_1 a8_1 a9_1 a10_1 a11_1 a12_1 a13_1 a14_1 al_1 c1 s1 ⊢
      have qa0_1 := cell_regrown a0_1
      have qa1_1 := cell_regrown a1_1
      have qa2_1 := cell_regrown a2_1
      have qa3_1 := cell_regrown a3_1
      have qa4_1 := cell_regrown a4_1
      have qa5_1 := cell_regrown a5_1
      have qa6_1 := cell_regrown a6_1
      have qa7_1 := cell_regrown a7_1
      have qa8_1 := cell_regrown a8_1
      have qa9_1 := cell_regrown a9_1
      have qa10_1 := cell_regrown a10_1
      have qa11_1 := cell_regrown a11_1
      have qa12_1 := cell_regrown a12_1
      have qa13_1 := cell_regrown a13_1
      have qa14_1 := cell_regrown a14_1
      refine (need_no _ (HE.out.later c1)).mono ?_
      rintro e wz ⟨⟨t, v, rfl⟩, rfl⟩
      exact ⟨rfl, Or.inr ⟨(by first | (simp [numsM]; done) | (simp_all [numsM]; done) | (simp [numsM]; omega) | (simp_all [numsM]; omega)), t, v, rfl⟩, c1⟩
  by_cases h6 : i0 = 6
  case pos =>
    subst h6
    by_cases hi : i3 = 0
    · subst hi
      by_cases hs : i4 = 0
      · subst hs
        go_enter Tryz.func73, Tryz.ntmps73
        go_wp2_with fail
        have a0_1 : (w.alloc (.cells #[.int .i64 6, .int .i64 i1, .int .i64 i2, .int .i64 0, .int .i64 0, .int .i64 i5, .int .i64 i6, .int .i64 i7, .int .i64 i8, .int .i64 i9, .int .i64 i10, .int .i64 i11, .slice ao0 L0.length ac0, .slice ao1 L1.length ac1, .int .i64 i12] 32)).cell? ⟨w.heap.size, 0, none⟩ = some (.int .i64 6) := by go_cell
        have a1_1 : (w.alloc (.cells #[.int .i64 6, .int .i64 i1, .int .i64 i2, .int .i64 0, .int .i64 0, .int .i64 i5, .int .i64 i6, .int .i64 i7, .int .i64 i8, .int .i64 i9, .int .i64 i10, .int .i64 i11, .slice ao0 L0.length ac0, .slice ao1 L1.length ac1, .int .i64 i12] 32)).cell? ⟨w.heap.size, 1, none⟩ = some (.int .i64 i1) := by go_cell
        have a2_1 : (w.alloc (.cells #[.int .i64 6, .int .i64 i1, .int .i64 i2, .int .i64 0, .int .i64 0, .int .i64 i5, .int .i64 i6, .int .i64 i7, .int .i64 i8, .int .i64 i9, .int .i64 i10, .int .i64 i11, .slice ao0 L0.length ac0, .slice ao1 L1.length ac1, .int .i64 i12] 32)).cell? ⟨w.heap.size, 2, none⟩ = some (.int .i64 i2) := by go_cell
        have a3_1 : (w.alloc (.cells #[.int .i64 6, .int .i64 i1, .int .i64 i2, .int .i64 0, .int .i64 0, .int .i64 i5, .int .i64 i6, .int .i64 i7, .int .i64 i8, .int .i64 i9, .int .i64 i10, .int .i64 i11, .slice ao0 L0.length ac0, .slice ao1 L1.length ac1, .int .i64 i12] 32)).cell? ⟨w.heap.size, 3, none⟩ = some (.int .i64 0) := by go_cell
        have a4_1 : (w.alloc (.cells #[.int .i64 6, .int .i64 i1, .int .i64 i2, .int .i64 0, .int .i64 0, .int .i64 i5, .int .i64 i6, .int .i64 i7, .int .i64 i8, .int .i64 i9, .int .i64 i10, .int .i64 i11, .slice ao0 L0.length ac0, .slice ao1 L1.length ac1, .int .i64 i12] 32)).cell? ⟨w.heap.size, 4, none⟩ = some (.int .i64 0) := by go_cell
        have a5_1 : (w.alloc (.cells #[.int .i64 6, .int .i64 i1, .int .i64 i2, .int .i64 0, .int .i64 0, .int .i64 i5, .int .i64 i6, .int .i64 i7, .int .i64 i8, .int .i64 i9, .int .i64 i10, .int .i64 i11, .slice ao0 L0.length ac0, .slice ao1 L1.length ac1, .int .i64 i12] 32)).cell? ⟨w.heap.size, 5, none⟩ = some (.int .i64 i5) := by go_cell
        have a6_1 : (w.alloc (.cells #[.int .i64 6, .int .i64 i1, .int .i64 i2, .int .i64 0, .int .i64 0, .int .i64 i5, .int .i64 i6, .int .i64 i7, .int .i64 i8, .int .i64 i9, .int .i64 i10, .int .i64 i11, .slice ao0 L0.length ac0, .slice ao1 L1.length ac1, .int .i64 i12] 32)).cell? ⟨w.heap.size, 6, none⟩ = some (.int .i64 i6) := by go_cell
        have a7_1 : (w.alloc (.cells #[.int .i64 6, .int .i64 i1, .int .i64 i2, .int .i64 0, .int .i64 0, .int .i64 i5, .int .i64 i6, .int .i64 i7, .int .i64 i8, .int .i64 i9, .int .i64 i10, .int .i64 i11, .slice ao0 L0.length ac0, .slice ao1 L1.length ac1, .int .i64 i12] 32)).cell? ⟨w.heap.size, 7, none⟩ = some (.int .i64 i7) := by go_cell
        have a8_1 : (w.alloc (.cells #[.int .i64 6, .int .i64 i1, .int .i64 i2, .int .i64 0, .int .i64 0, .int .i64 i5, .int .i64 i6, .int .i64 i7, .int .i64 i8, .int .i64 i9, .int .i64 i10, .int .i64 i11, .slice ao0 L0.length ac0, .slice ao1 L1.length ac1, .int .i64 i12] 32)).cell? ⟨w.heap.size, 8, none⟩ = some (.int .i64 i8) := by go_cell
        have a9_1 : (w.alloc (.cells #[.int .i64 6, .int .i64 i1, .int .i64 i2, .int .i64 0, .int .i64 0, .int .i64 i5, .int .i64 i6, .int .i64 i7, .int .i64 i8, .int .i64 i9, .int .i64 i10, .int .i64 i11, .slice ao0 L0.length ac0, .slice ao1 L1.length ac1, .int .i64 i12] 32)).cell? ⟨w.heap.size, 9, none⟩ = some (.int .i64 i9) := by go_cell
        have a10_1 : (w.alloc (.cells #[.int .i64 6, .int .i64 i1, .int .i64 i2, .int .i64 0, .int .i64 0, .int .i64 i5, .int .i64 i6, .int .i64 i7, .int .i64 i8, .int .i64 i9, .int .i64 i10, .int .i64 i11, .slice ao0 L0.length ac0, .slice ao1 L1.length ac1, .int .i64 i12] 32)).cell? ⟨w.heap.size, 10, none⟩ = some (.int .i64 i10) := by go_cell
        have a11_1 : (w.alloc (.cells #[.int .i64 6, .int .i64 i1, .int .i64 i2, .int .i64 0, .int .i64 0, .int .i64 i5, .int .i64 i6, .int .i64 i7, .int .i64 i8, .int .i64 i9, .int .i64 i10, .int .i64 i11, .slice ao0 L0.length ac0, .slice ao1 L1.length ac1, .int .i64 i12] 32)).cell? ⟨w.heap.size, 11, none⟩ = some (.int .i64 i11) := by go_cell
        have a12_1 : (w.alloc (.cells #[.int .i64 6, .int .i64 i1, .int .i64 i2, .int .i64 0, .int .i64 0, .int .i64 i5, .int .i64 i6, .int .i64 i7, .int .i64 i8, .int .i64 i9, .int .i64 i10, .int .i64 i11, .slice ao0 L0.length ac0, .slice ao1 L1.length ac1, .int .i64 i12] 32)).cell? ⟨w.heap.size, 12, none⟩ = some (.slice ao0 L0.length ac0) := by go_cell
        have a13_1 : (w.alloc (.cells #[.int .i64 6, .int .i64 i1, .int .i64 i2, .int .i64 0, .int .i64 0, .int .i64 i5, .int .i64 i6, .int .i64 i7, .int .i64 i8, .int .i64 i9, .int .i64 i10, .int .i64 i11, .slice ao0 L0.length ac0, .slice ao1 L1.length ac1, .int .i64 i12] 32)).cell? ⟨w.heap.size, 13, none⟩ = some (.slice ao1 L1.length ac1) := by go_cell
        have a14_1 : (w.alloc (.cells #[.int .i64 6, .int .i64 i1, .int .i64 i2, .int .i64 0, .int .i64 0, .int .i64 i5, .int .i64 i6, .int .i64 i7, .int .i64 i8, .int .i64 i9, .int .i64 i10, .int .i64 i11, .slice ao0 L0.length ac0, .slice ao1 L1.length ac1, .int .i64 i12] 32)).cell? ⟨w.heap.size, 14, none⟩ = some (.int .i64 i12) := by go_cell
        have al_1 : w.heap.size < (w.alloc (.cells #[.int .i64 6, .int .i64 i1, .int .i64 i2, .int .i64 0, .int .i64 0, .int .i64 i5, .int .i64 i6, .int .i64 i7, .int .i64 i8, .int .i64 i9, .int .i64 i10, .int .i64 i11, .slice ao0 L0.length ac0, .slice ao1 L1.length ac1, .int .i64 i12] 32)).heap.size := by first | (simp; done) | (simp; omega)
        have c1 : Below w.heap.size w (w.alloc (.cells #[.int .i64 6, .int .i64 i1, .int .i64 i2, .int .i64 0, .int .i64 0, .int .i64 i5, .int .i64 i6, .int .i64 i7, .int .i64 i8, .int .i64 i9, .int .i64 i10, .int .i64 i11, .slice ao0 L0.length ac0, .slice ao1 L1.length ac1, .int .i64 i12] 32)) := by go_grown
        have s1 : (w.alloc (.cells #[.int .i64 6, .int .i64 i1, .int .i64 i2, .int .i64 0, .int .i64 0, .int .i64 i5, .int .i64 i6, .int .i64 i7, .int .i64 i8, .int .i64 i9, .int .i64 i10, .int .i64 i11, .slice ao0 L0.length ac0, .slice ao1 L1.length ac1, .int .i64 i12] 32)).heap.size = w.heap.size + 1 := by simp
        generalize (w.alloc (.cells #[.int .i64 6, .int .i64 i1, .int .i64 i2, .int .i64 0, .int .i64 0, .int .i64 i5, .int .i64 i6, .int .i64 i7, .int .i64 i8, .int .i64 i9, .int .i64 i10, .int .i64 i11, .slice ao0 L0.length ac0, .slice ao1 L1.length ac1, .int .i64 i12] 32)) = w1 at a0_1 a1_1 a2_1 a3_1 a4_1 a5_1 a6_1 a7_1 a8_1 a9_1 a10_1 a11_1 a12_1 a13_1 a14_1 al_1 c1 s1 ⊢
        have qa0_1 := cell_regrown a0_1
        have qa1_1 := cell_regrown a1_1
        have qa2_1 := cell_regrown a2_1
        have qa3_1 := cell_regrown a3_1
        have qa4_1 := cell_regrown a4_1
        have qa5_1 := cell_regrown a5_1
        have qa6_1 := cell_regrown a6_1
        have qa7_1 := cell_regrown a7_1
        have qa8_1 := cell_regrown a8_1
        have qa9_1 := cell_regrown a9_1
        have qa10_1 := cell_regrown a10_1
        have qa11_1 := cell_regrown a11_1
        have qa12_1 := cell_regrown a12_1
        have qa13_1 := cell_regrown a13_1
        have qa14_1 := cell_regrown a14_1
        refine (need_yes _).mono ?_
        rintro e wz ⟨rfl, hz⟩
        obtain rfl := hz.symm
        clear hz
        go_wp2_with fail
        refine (need_yes _).mono ?_
        rintro e wz ⟨rfl, hz⟩
        obtain rfl := hz.symm
        clear hz
        go_wp2_with fail
        exact ⟨rfl, .tuple #[], by simp [results, Tryz.results73, go_sem], Or.inl ⟨(by first | (simp [numsM]; done) | (simp_all [numsM]; done) | (simp [numsM]; omega) | (simp_all [numsM]; omega)), rfl⟩, c1⟩
      · have hn : (i4 == 0) = false := by simpa using hs
        go_enter Tryz.func73, Tryz.ntmps73
        go_wp2_with fail
        have a0_1 : (w.alloc (.cells #[.int .i64 6, .int .i64 i1, .int .i64 i2, .int .i64 0, .int .i64 i4, .int .i64 i5, .int .i64 i6, .int .i64 i7, .int .i64 i8, .int .i64 i9, .int .i64 i10, .int .i64 i11, .slice ao0 L0.length ac0, .slice ao1 L1.length ac1, .int .i64 i12] 32)).cell? ⟨w.heap.size, 0, none⟩ = some (.int .i64 6) := by go_cell
        have a1_1 : (w.alloc (.cells #[.int .i64 6, .int .i64 i1, .int .i64 i2, .int .i64 0, .int .i64 i4, .int .i64 i5, .int .i64 i6, .int .i64 i7, .int .i64 i8, .int .i64 i9, .int .i64 i10, .int .i64 i11, .slice ao0 L0.length ac0, .slice ao1 L1.length ac1, .int .i64 i12] 32)).cell? ⟨w.heap.size, 1, none⟩ = some (.int .i64 i1) := by go_cell
        have a2_1 : (w.alloc (.cells #[.int .i64 6, .int .i64 i1, .int .i64 i2, .int .i64 0, .int .i64 i4, .int .i64 i5, .int .i64 i6, .int .i64 i7, .int .i64 i8, .int .i64 i9, .int .i64 i10, .int .i64 i11, .slice ao0 L0.length ac0, .slice ao1 L1.length ac1, .int .i64 i12] 32)).cell? ⟨w.heap.size, 2, none⟩ = some (.int .i64 i2) := by go_cell
        have a3_1 : (w.alloc (.cells #[.int .i64 6, .int .i64 i1, .int .i64 i2, .int .i64 0, .int .i64 i4, .int .i64 i5, .int .i64 i6, .int .i64 i7, .int .i64 i8, .int .i64 i9, .int .i64 i10, .int .i64 i11, .slice ao0 L0.length ac0, .slice ao1 L1.length ac1, .int .i64 i12] 32)).cell? ⟨w.heap.size, 3, none⟩ = some (.int .i64 0) := by go_cell
        have a4_1 : (w.alloc (.cells #[.int .i64 6, .int .i64 i1, .int .i64 i2, .int .i64 0, .int .i64 i4, .int .i64 i5, .int .i64 i6, .int .i64 i7, .int .i64 i8, .int .i64 i9, .int .i64 i10, .int .i64 i11, .slice ao0 L0.length ac0, .slice ao1 L1.length ac1, .int .i64 i12] 32)).cell? ⟨w.heap.size, 4, none⟩ = some (.int .i64 i4) := by go_cell
        have a5_1 : (w.alloc (.cells #[.int .i64 6, .int .i64 i1, .int .i64 i2, .int .i64 0, .int .i64 i4, .int .i64 i5, .int .i64 i6, .int .i64 i7, .int .i64 i8, .int .i64 i9, .int .i64 i10, .int .i64 i11, .slice ao0 L0.length ac0, .slice ao1 L1.length ac1, .int .i64 i12] 32)).cell? ⟨w.heap.size, 5, none⟩ = some (.int .i64 i5) := by go_cell
        have a6_1 : (w.alloc (.cells #[.int .i64 6, .int .i64 i1, .int .i64 i2, .int .i64 0, .int .i64 i4, .int .i64 i5, .int .i64 i6, .int .i64 i7, .int .i64 i8, .int .i64 i9, .int .i64 i10, .int .i64 i11, .slice ao0 L0.length ac0, .slice ao1 L1.length ac1, .int .i64 i12] 32)).cell? ⟨w.heap.size, 6, none⟩ = some (.int .i64 i6) := by go_cell
        have a7_1 : (w.alloc (.cells #[.int .i64 6, .int .i64 i1, .int .i64 i2, .int .i64 0, .int .i64 i4, .int .i64 i5, .int .i64 i6, .int .i64 i7, .int .i64 i8, .int .i64 i9, .int .i64 i10, .int .i64 i11, .slice ao0 L0.length ac0, .slice ao1 L1.length ac1, .int .i64 i12] 32)).cell? ⟨w.heap.size, 7, none⟩ = some (.int .i64 i7) := by go_cell
        have a8_1 : (w.alloc (.cells #[.int .i64 6, .int .i64 i1, .int .i64 i2, .int .i64 0, .int .i64 i4, .int .i64 i5, .int .i64 i6, .int .i64 i7, .int .i64 i8, .int .i64 i9, .int .i64 i10, .int .i64 i11, .slice ao0 L0.length ac0, .slice ao1 L1.length ac1, .int .i64 i12] 32)).cell? ⟨w.heap.size, 8, none⟩ = some (.int .i64 i8) := by go_cell
        have a9_1 : (w.alloc (.cells #[.int .i64 6, .int .i64 i1, .int .i64 i2, .int .i64 0, .int .i64 i4, .int .i64 i5, .int .i64 i6, .int .i64 i7, .int .i64 i8, .int .i64 i9, .int .i64 i10, .int .i64 i11, .slice ao0 L0.length ac0, .slice ao1 L1.length ac1, .int .i64 i12] 32)).cell? ⟨w.heap.size, 9, none⟩ = some (.int .i64 i9) := by go_cell
        have a10_1 : (w.alloc (.cells #[.int .i64 6, .int .i64 i1, .int .i64 i2, .int .i64 0, .int .i64 i4, .int .i64 i5, .int .i64 i6, .int .i64 i7, .int .i64 i8, .int .i64 i9, .int .i64 i10, .int .i64 i11, .slice ao0 L0.length ac0, .slice ao1 L1.length ac1, .int .i64 i12] 32)).cell? ⟨w.heap.size, 10, none⟩ = some (.int .i64 i10) := by go_cell
        have a11_1 : (w.alloc (.cells #[.int .i64 6, .int .i64 i1, .int .i64 i2, .int .i64 0, .int .i64 i4, .int .i64 i5, .int .i64 i6, .int .i64 i7, .int .i64 i8, .int .i64 i9, .int .i64 i10, .int .i64 i11, .slice ao0 L0.length ac0, .slice ao1 L1.length ac1, .int .i64 i12] 32)).cell? ⟨w.heap.size, 11, none⟩ = some (.int .i64 i11) := by go_cell
        have a12_1 : (w.alloc (.cells #[.int .i64 6, .int .i64 i1, .int .i64 i2, .int .i64 0, .int .i64 i4, .int .i64 i5, .int .i64 i6, .int .i64 i7, .int .i64 i8, .int .i64 i9, .int .i64 i10, .int .i64 i11, .slice ao0 L0.length ac0, .slice ao1 L1.length ac1, .int .i64 i12] 32)).cell? ⟨w.heap.size, 12, none⟩ = some (.slice ao0 L0.length ac0) := by go_cell
        have a13_1 : (w.alloc (.cells #[.int .i64 6, .int .i64 i1, .int .i64 i2, .int .i64 0, .int .i64 i4, .int .i64 i5, .int .i64 i6, .int .i64 i7, .int .i64 i8, .int .i64 i9, .int .i64 i10, .int .i64 i11, .slice ao0 L0.length ac0, .slice ao1 L1.length ac1, .int .i64 i12] 32)).cell? ⟨w.heap.size, 13, none⟩ = some (.slice ao1 L1.length ac1) := by go_cell
        have a14_1 : (w.alloc (.cells #[.int .i64 6, .int .i64 i1, .int .i64 i2, .int .i64 0, .int .i64 i4, .int .i64 i5, .int .i64 i6, .int .i64 i7, .int .i64 i8, .int .i64 i9, .int .i64 i10, .int .i64 i11, .slice ao0 L0.length ac0, .slice ao1 L1.length ac1, .int .i64 i12] 32)).cell? ⟨w.heap.size, 14, none⟩ = some (.int .i64 i12) := by go_cell
        have al_1 : w.heap.size < (w.alloc (.cells #[.int .i64 6, .int .i64 i1, .int .i64 i2, .int .i64 0, .int .i64 i4, .int .i64 i5, .int .i64 i6, .int .i64 i7, .int .i64 i8, .int .i64 i9, .int .i64 i10, .int .i64 i11, .slice ao0 L0.length ac0, .slice ao1 L1.length ac1, .int .i64 i12] 32)).heap.size := by first | (simp; done) | (simp; omega)
        have c1 : Below w.heap.size w (w.alloc (.cells #[.int .i64 6, .int .i64 i1, .int .i64 i2, .int .i64 0, .int .i64 i4, .int .i64 i5, .int .i64 i6, .int .i64 i7, .int .i64 i8, .int .i64 i9, .int .i64 i10, .int .i64 i11, .slice ao0 L0.length ac0, .slice ao1 L1.length ac1, .int .i64 i12] 32)) := by go_grown
        have s1 : (w.alloc (.cells #[.int .i64 6, .int .i64 i1, .int .i64 i2, .int .i64 0, .int .i64 i4, .int .i64 i5, .int .i64 i6, .int .i64 i7, .int .i64 i8, .int .i64 i9, .int .i64 i10, .int .i64 i11, .slice ao0 L0.length ac0, .slice ao1 L1.length ac1, .int .i64 i12] 32)).heap.size = w.heap.size + 1 := by simp
        generalize (w.alloc (.cells #[.int .i64 6, .int .i64 i1, .int .i64 i2, .int .i64 0, .int .i64 i4, .int .i64 i5, .int .i64 i6, .int .i64 i7, .int .i64 i8, .int .i64 i9, .int .i64 i10, .int .i64 i11, .slice ao0 L0.length ac0, .slice ao1 L1.length ac1, .int .i64 i12] 32)) = w1 at a0_1 a1_1 a2_1 a3_1 a4_1 a5_1 a6_1 a7_1 a8_1 a9_1 a10_1 a11_1 a12_1 a13_1 a14_1 al_1 c1 s1 ⊢
        have qa0_1 := cell_regrown a0_1
        have qa1_1 := cell_regrown a1_1
        have qa2_1 := cell_regrown a2_1
        have qa3_1 := cell_regrown a3_1
        have qa4_1 := cell_regrown a4_1
        have qa5_1 := cell_regrown a5_1
        have qa6_1 := cell_regrown a6_1
        have qa7_1 := cell_regrown a7_1
        have qa8_1 := cell_regrown a8_1
        have qa9_1 := cell_regrown a9_1
        have qa10_1 := cell_regrown a10_1
        have qa11_1 := cell_regrown a11_1
        have qa12_1 := cell_regrown a12_1
        have qa13_1 := cell_regrown a13_1
        have qa14_1 := cell_regrown a14_1
        refine (need_yes _).mono ?_
        rintro e wz ⟨rfl, hz⟩
        obtain rfl := hz.symm
        clear hz
        go_wp2_with fail
        refine (need_no _ (HE.out.later c1)).mono ?_
        rintro e wz ⟨⟨t, v, rfl⟩, rfl⟩
        exact ⟨rfl, Or.inr ⟨(by first | (simp [numsM]; done) | (simp_all [numsM]; done) | (simp [numsM]; omega) | (simp_all [numsM]; omega)), t, v, rfl⟩, c1⟩
    · have hn : (i3 == 0) = false := by simpa using hi
      go_enter Tryz.func73, Tryz.ntmps73
      go_wp2_with fail
      have a0_1 : (w.alloc (.cells #[.int .i64 6, .int .i64 i1, .int .i64 i2, .int .i64 i3, .int .i64 i4, .int .i64 i5, .int .i64 i6, .int .i64 i7, .int .i64 i8, .int .i64 i9, .int .i64 i10, .int .i64 i11, .slice ao0 L0.length ac0, .slice ao1 L1.length ac1, .int .i64 i12] 32)).cell? ⟨w.heap.size, 0, none⟩ = some (.int .i64 6) := by go_cell
      have a1_1 : (w.alloc (.cells #[.int .i64 6, .int .i64 i1, .int .i64 i2, .int .i64 i3, .int .i64 i4, .int .i64 i5, .int .i64 i6, .int .i64 i7, .int .i64 i8, .int .i64 i9, .int .i64 i10, .int .i64 i11, .slice ao0 L0.length ac0, .slice ao1 L1.length ac1, .int .i64 i12] 32)).cell? ⟨w.heap.size, 1, none⟩ = some (.int .i64 i1) := by go_cell
      have a2_1 : (w.alloc (.cells #[.int .i64 6, .int .i64 i1, .int .i64 i2, .int .i64 i3, .int .i64 i4, .int .i64 i5, .int .i64 i6, .int .i64 i7, .int .i64 i8, .int .i64 i9, .int .i64 i10, .int .i64 i11, .slice ao0 L0.length ac0, .slice ao1 L1.length ac1, .int .i64 i12] 32)).cell? ⟨w.heap.size, 2, none⟩ = some (.int .i64 i2) := by go_cell
      have a3_1 : (w.alloc (.cells #[.int .i64 6, .int .i64 i1, .int .i64 i2, .int .i64 i3, .int .i64 i4, .int .i64 i5, .int .i64 i6, .int .i64 i7, .int .i64 i8, .int .i64 i9, .int .i64 i10, .int .i64 i11, .slice ao0 L0.length ac0, .slice ao1 L1.length ac1, .int .i64 i12] 32)).cell? ⟨w.heap.size, 3, none⟩ = some (.int .i64 i3) := by go_cell
      have a4_1 : (w.alloc (.cells #[.int .i64 6, .int .i64 i1, .int .i64 i2, .int .i64 i3, .int .i64 i4, .int .i64 i5, .int .i64 i6, .int .i64 i7, .int .i64 i8, .int .i64 i9, .int .i64 i10, .int .i64 i11, .slice ao0 L0.length ac0, .slice ao1 L1.length ac1, .int .i64 i12] 32)).cell? ⟨w.heap.size, 4, none⟩ = some (.int .i64 i4) := by go_cell
      have a5_1 : (w.alloc (.cells #[.int .i64 6, .int .i64 i1, .int .i64 i2, .int .i64 i3, .int .i64 i4, .int .i64 i5, .int .i64 i6, .int .i64 i7, .int .i64 i8, .int .i64 i9, .int .i64 i10, .int .i64 i11, .slice ao0 L0.length ac0, .slice ao1 L1.length ac1, .int .i64 i12] 32)).cell? ⟨w.heap.size, 5, none⟩ = some (.int .i64 i5) := by go_cell
      have a6_1 : (w.alloc (.cells #[.int .i64 6, .int .i64 i1, .int .i64 i2, .int .i64 i3, .int .i64 i4, .int .i64 i5, .int .i64 i6, .int .i64 i7, .int .i64 i8, .int .i64 i9, .int .i64 i10, .int .i64 i11, .slice ao0 L0.length ac0, .slice ao1 L1.length ac1, .int .i64 i12] 32)).cell? ⟨w.heap.size, 6, none⟩ = some (.int .i64 i6) := by go_cell
      have a7_1 : (w.alloc (.cells #[.int .i64 6, .int .i64 i1, .int .i64 i2, .int .i64 i3, .int .i64 i4, .int .i64 i5, .int .i64 i6, .int .i64 i7, .int .i64 i8, .int .i64 i9, .int .i64 i10, .int .i64 i11, .slice ao0 L0.length ac0, .slice ao1 L1.length ac1, .int .i64 i12] 32)).cell? ⟨w.heap.size, 7, none⟩ = some (.int .i64 i7) := by go_cell
      have a8_1 : (w.alloc (.cells #[.int .i64 6, .int .i64 i1, .int .i64 i2, .int .i64 i3, .int .i64 i4, .int .i64 i5, .int .i64 i6, .int .i64 i7, .int .i64 i8, .int .i64 i9, .int .i64 i10, .int .i64 i11, .slice ao0 L0.length ac0, .slice ao1 L1.length ac1, .int .i64 i12] 32)).cell? ⟨w.heap.size, 8, none⟩ = some (.int .i64 i8) := by go_cell
      have a9_1 : (w.alloc (.cells #[.int .i64 6, .int .i64 i1, .int .i64 i2, .int .i64 i3, .int .i64 i4, .int .i64 i5, .int .i64 i6, .int .i64 i7, .int .i64 i8, .int .i64 i9, .int .i64 i10, .int .i64 i11, .slice ao0 L0.length ac0, .slice ao1 L1.length ac1, .int .i64 i12] 32)).cell? ⟨w.heap.size, 9, none⟩ = some (.int .i64 i9) := by go_cell
      have a10_1 : (w.alloc (.cells #[.int .i64 6, .int .i64 i1, .int .i64 i2, .int .i64 i3, .int .i64 i4, .int .i64 i5, .int .i64 i6, .int .i64 i7, .int .i64 i8, .int .i64 i9, .int .i64 i10, .int .i64 i11, .slice ao0 L0.length ac0, .slice ao1 L1.length ac1, .int .i64 i12] 32)).cell? ⟨w.heap.size, 10, none⟩ = some (.int .i64 i10) := by go_cell
      have a11_1 : (w.alloc (.cells #[.int .i64 6, .int .i64 i1, .int .i64 i2, .int .i64 i3, .int .i64 i4, .int .i64 i5, .int .i64 i6, .int .i64 i7, .int .i64 i8, .int .i64 i9, .int .i64 i10, .int .i64 i11, .slice ao0 L0.length ac0, .slice ao1 L1.length ac1, .int .i64 i12] 32)).cell? ⟨w.heap.size, 11, none⟩ = some (.int .i64 i11) := by go_cell
      have a12_1 : (w.alloc (.cells #[.int .i64 6, .int .i64 i1, .int .i64 i2, .int .i64 i3, .int .i64 i4, .int .i64 i5, .int .i64 i6, .int .i64 i7, .int .i64 i8, .int .i64 i9, .int .i64 i10, .int .i64 i11, .slice ao0 L0.length ac0, .slice ao1 L1.length ac1, .int .i64 i12] 32)).cell? ⟨w.heap.size, 12, none⟩ = some (.slice ao0 L0.length ac0) := by go_cell
      have a13_1 : (w.alloc (.cells #[.int .i64 6, .int .i64 i1, .int .i64 i2, .int .i64 i3, .int .i64 i4, .int .i64 i5, .int .i64 i6, .int .i64 i7, .int .i64 i8, .int .i64 i9, .int .i64 i10, .int .i64 i11, .slice ao0 L0.length ac0, .slice ao1 L1.length ac1, .int .i64 i12] 32)).cell? ⟨w.heap.size, 13, none⟩ = some (.slice ao1 L1.length ac1) := by go_cell
      have a14_1 : (w.alloc (.cells #[.int .i64 6, .int .i64 i1, .int .i64 i2, .int .i64 i3, .int .i64 i4, .int .i64 i5, .int .i64 i6, .int .i64 i7, .int .i64 i8, .int .i64 i9, .int .i64 i10, .int .i64 i11, .slice ao0 L0.length ac0, .slice ao1 L1.length ac1, .int .i64 i12] 32)).cell? ⟨w.heap.size, 14, none⟩ = some (.int .i64 i12) := by go_cell
      have al_1 : w.heap.size < (w.alloc (.cells #[.int .i64 6, .int .i64 i1, .int .i64 i2, .int .i64 i3, .int .i64 i4, .int .i64 i5, .int .i64 i6, .int .i64 i7, .int .i64 i8, .int .i64 i9, .int .i64 i10, .int .i64 i11, .slice ao0 L0.length ac0, .slice ao1 L1.length ac1, .int .i64 i12] 32)).heap.size := by first | (simp; done) | (simp; omega)
      have c1 : Below w.heap.size w (w.alloc (.cells #[.int .i64 6, .int .i64 i1, .int .i64 i2, .int .i64 i3, .int .i64 i4, .int .i64 i5, .int .i64 i6, .int .i64 i7, .int .i64 i8, .int .i64 i9, .int .i64 i10, .int .i64 i11, .slice ao0 L0.length ac0, .slice ao1 L1.length ac1, .int .i64 i12] 32)) := by go_grown
      have s1 : (w.alloc (.cells #[.int .i64 6, .int .i64 i1, .int .i64 i2, .int .i64 i3, .int .i64 i4, .int .i64 i5, .int .i64 i6, .int .i64 i7, .int .i64 i8, .int .i64 i9, .int .i64 i10, .int .i64 i11, .slice ao0 L0.length ac0, .slice ao1 L1.length ac1, .int .i64 i12] 32)).heap.size = w.heap.size + 1 := by simp
      generalize (w.alloc (.cells #[.int .i64 6, .int .i64 i1, .int .i64 i2, .int .i64 i3, .int .i64 i4, .int .i64 i5, .int .i64 i6, .int .i64 i7, .int .i64 i8, .int .i64 i9, .int .i64 i10, .int .i64 i11, .slice ao0 L0.length ac0, .slice ao1 L1.length ac1, .int .i64 i12] 32)) = w1 at a0_1 a1_1 a2_1 a3_1 a4_1 a5_1 a6_1 a7_1 a8_1 a9_1 a10_1 a11_1 a12_1 a13_1 a14_1 al_1 c1 s1 ⊢
      have qa0_1 := cell_regrown a0_1
      have qa1_1 := cell_regrown a1_1
      have qa2_1 := cell_regrown a2_1
      have qa3_1 := cell_regrown a3_1
      have qa4_1 := cell_regrown a4_1
      have qa5_1 := cell_regrown a5_1
      have qa6_1 := cell_regrown a6_1
      have qa7_1 := cell_regrown a7_1
      have qa8_1 := cell_regrown a8_1
      have qa9_1 := cell_regrown a9_1
      have qa10_1 := cell_regrown a10_1
      have qa11_1 := cell_regrown a11_1
      have qa12_1 := cell_regrown a12_1
      have qa13_1 := cell_regrown a13_1
      have qa14_1 := cell_regrown a14_1
      refine (need_no _ (HE.out.later c1)).mono ?_
      rintro e wz ⟨⟨t, v, rfl⟩, rfl⟩
      exact ⟨rfl, Or.inr ⟨(by first | (simp [numsM]; done) | (simp_all [numsM]; done) | (simp [numsM]; omega) | (simp_all [numsM]; omega)), t, v, rfl⟩, c1⟩
  by_cases h7 : i0 = 7
  case pos =>
    subst h7
    by_cases hs : i4 = 0
    · subst hs
      go_enter Tryz.func73, Tryz.ntmps73
      go_wp2_with fail
      have a0_1 : (w.alloc (.cells #[.int .i64 7, .int .i64 i1, .int .i64 i2, .int .i64 i3, .int .i64 0, .int .i64 i5, .int .i64 i6, .int .i64 i7, .int .i64 i8, .int .i64 i9, .int .i64 i10, .int .i64 i11, .slice ao0 L0.length ac0, .slice ao1 L1.length ac1, .int .i64 i12] 32)).cell? ⟨w.heap.size, 0, none⟩ = some (.int .i64 7) := by go_cell
      have a1_1 : (w.alloc (.cells #[.int .i64 7, .int .i64 i1, .int .i64 i2, .int .i64 i3, .int .i64 0, .int .i64 i5, .int .i64 i6, .int .i64 i7, .int .i64 i8, .int .i64 i9, .int .i64 i10, .int .i64 i11, .slice ao0 L0.length ac0, .slice ao1 L1.length ac1, .int .i64 i12] 32)).cell? ⟨w.heap.size, 1, none⟩ = some (.int .i64 i1) := by go_cell
      have a2_1 : (w.alloc (.cells #[.int .i64 7, .int .i64 i1, .int .i64 i2, .int .i64 i3, .int .i64 0, .int .i64 i5, .int .i64 i6, .int .i64 i7, .int .i64 i8, .int .i64 i9, .int .i64 i10, .int .i64 i11, .slice ao0 L0.length ac0, .slice ao1 L1.length ac1, .int .i64 i12] 32)).cell? ⟨w.heap.size, 2, none⟩ = some (.int .i64 i2) := by go_cell
      have a3_1 : (w.alloc (.cells #[.int .i64 7, .int .i64 i1, .int .i64 i2, .int .i64 i3, .int .i64 0, .int .i64 i5, .int .i64 i6, .int .i64 i7, .int .i64 i8, .int .i64 i9, .int .i64 i10, .int .i64 i11, .slice ao0 L0.length ac0, .slice ao1 L1.length ac1, .int .i64 i12] 32)).cell? ⟨w.heap.size, 3, none⟩ = some (.int .i64 i3) := by go_cell
      have a4_1 : (w.alloc (.cells #[.int .i64 7, .int .i64 i1, .int .i64 i2, .int .i64 i3, .int .i64 0, .int .i64 i5, .int .i64 i6, .int .i64 i7, .int .i64 i8, .int .i64 i9, .int .i64 i10, .int .i64 i11, .slice ao0 L0.length ac0, .slice ao1 L1.length ac1, .int .i64 i12] 32)).cell? ⟨w.heap.size, 4, none⟩ = some (.int .i64 0) := by go_cell
      have a5_1 : (w.alloc (.cells #[.int .i64 7, .int .i64 i1, .int .i64 i2, .int .i64 i3, .int .i64 0, .int .i64 i5, .int .i64 i6, .int .i64 i7, .int .i64 i8, .int .i64 i9, .int .i64 i10, .int .i64 i11, .slice ao0 L0.length ac0, .slice ao1 L1.length ac1, .int .i64 i12] 32)).cell? ⟨w.heap.size, 5, none⟩ = some (.int .i64 i5) := by go_cell
      have a6_1 : (w.alloc (.cells #[.int .i64 7, .int .i64 i1, .int .i64 i2, .int .i64 i3, .int .i64 0, .int .i64 i5, .int .i64 i6, .int .i64 i7, .int .i64 i8, .int .i64 i9, .int .i64 i10, .int .i64 i11, .slice ao0 L0.length ac0, .slice ao1 L1.length ac1, .int .i64 i12] 32)).cell? ⟨w.heap.size, 6, none⟩ = some (.int .i64 i6) := by go_cell
      have a7_1 : (w.alloc (.cells #[.int .i64 7, .int .i64 i1, .int .i64 i2, .int .i64 i3, .int .i64 0, .int .i64 i5, .int .i64 i6, .int .i64 i7, .int .i64 i8, .int .i64 i9, .int .i64 i10, .int .i64 i11, .slice ao0 L0.length ac0, .slice ao1 L1.length ac1, .int .i64 i12] 32)).cell? ⟨w.heap.size, 7, none⟩ = some (.int .i64 i7) := by go_cell
      have a8_1 : (w.alloc (.cells #[.int .i64 7, .int .i64 i1, .int .i64 i2, .int .i64 i3, .int .i64 0, .int .i64 i5, .int .i64 i6, .int .i64 i7, .int .i64 i8, .int .i64 i9, .int .i64 i10, .int .i64 i11, .slice ao0 L0.length ac0, .slice ao1 L1.length ac1, .int .i64 i12] 32)).cell? ⟨w.heap.size, 8, none⟩ = some (.int .i64 i8) := by go_cell
      have a9_1 : (w.alloc (.cells #[.int .i64 7, .int .i64 i1, .int .i64 i2, .int .i64 i3, .int .i64 0, .int .i64 i5, .int .i64 i6, .int .i64 i7, .int .i64 i8, .int .i64 i9, .int .i64 i10, .int .i64 i11, .slice ao0 L0.length ac0, .slice ao1 L1.length ac1, .int .i64 i12] 32)).cell? ⟨w.heap.size, 9, none⟩ = some (.int .i64 i9) := by go_cell
      have a10_1 : (w.alloc (.cells #[.int .i64 7, .int .i64 i1, .int .i64 i2, .int .i64 i3, .int .i64 0, .int .i64 i5, .int .i64 i6, .int .i64 i7, .int .i64 i8, .int .i64 i9, .int .i64 i10, .int .i64 i11, .slice ao0 L0.length ac0, .slice ao1 L1.length ac1, .int .i64 i12] 32)).cell? ⟨w.heap.size, 10, none⟩ = some (.int .i64 i10) := by go_cell
      have a11_1 : (w.alloc (.cells #[.int .i64 7, .int .i64 i1, .int .i64 i2, .int .i64 i3, .int .i64 0, .int .i64 i5, .int .i64 i6, .int .i64 i7, .int .i64 i8, .int .i64 i9, .int .i64 i10, .int .i64 i11, .slice ao0 L0.length ac0, .slice ao1 L1.length ac1, .int .i64 i12] 32)).cell? ⟨w.heap.size, 11, none⟩ = some (.int .i64 i11) := by go_cell
      have a12_1 : (w.alloc (.cells #[.int .i64 7, .int .i64 i1, .int .i64 i2, .int .i64 i3, .int .i64 0, .int .i64 i5, .int .i64 i6, .int .i64 i7, .int .i64 i8, .int .i64 i9, .int .i64 i10, .int .i64 i11, .slice ao0 L0.length ac0, .slice ao1 L1.length ac1, .int .i64 i12] 32)).cell? ⟨w.heap.size, 12, none⟩ = some (.slice ao0 L0.length ac0) := by go_cell
      have a13_1 : (w.alloc (.cells #[.int .i64 7, .int .i64 i1, .int .i64 i2, .int .i64 i3, .int .i64 0, .int .i64 i5, .int .i64 i6, .int .i64 i7, .int .i64 i8, .int .i64 i9, .int .i64 i10, .int .i64 i11, .slice ao0 L0.length ac0, .slice ao1 L1.length ac1, .int .i64 i12] 32)).cell? ⟨w.heap.size, 13, none⟩ = some (.slice ao1 L1.length ac1) := by go_cell
      have a14_1 : (w.alloc (.cells #[.int .i64 7, .int .i64 i1, .int .i64 i2, .int .i64 i3, .int .i64 0, .int .i64 i5, .int .i64 i6, .int .i64 i7, .int .i64 i8, .int .i64 i9, .int .i64 i10, .int .i64 i11, .slice ao0 L0.length ac0, .slice ao1 L1.length ac1, .int .i64 i12] 32)).cell? ⟨w.heap.size, 14, none⟩ = some (.int .i64 i12) := by go_cell
      have al_1 : w.heap.size < (w.alloc (.cells #[.int .i64 7, .int .i64 i1, .int .i64 i2, .int .i64 i3, .int .i64 0, .int .i64 i5, .int .i64 i6, .int .i64 i7, .int .i64 i8, .int .i64 i9, .int .i64 i10, .int .i64 i11, .slice ao0 L0.length ac0, .slice ao1 L1.length ac1, .int .i64 i12] 32)).heap.size := by first | (simp; done) | (simp; omega)
      have c1 : Below w.heap.size w (w.alloc (.cells #[.int .i64 7, .int .i64 i1, .int .i64 i2, .int .i64 i3, .int .i64 0, .int .i64 i5, .int .i64 i6, .int .i64 i7, .int .i64 i8, .int .i64 i9, .int .i64 i10, .int .i64 i11, .slice ao0 L0.length ac0, .slice ao1 L1.length ac1, .int .i64 i12] 32)) := by go_grown
      have s1 : (w.alloc (.cells #[.int .i64 7, .int .i64 i1, .int .i64 i2, .int .i64 i3, .int .i64 0, .int .i64 i5, .int .i64 i6, .int .i64 i7, .int .i64 i8, .int .i64 i9, .int .i64 i10, .int .i64 i11, .slice ao0 L0.length ac0, .slice ao1 L1.length ac1, .int .i64 i12] 32)).heap.size = w.heap.size + 1 := by simp
      generalize (w.alloc (.cells #[.int .i64 7, .int .i64 i1, .int .i64 i2, .int .i64 i3, .int .i64 0, .int .i64 i5, .int .i64 i6, .int .i64 i7, .int .i64 i8, .int .i64 i9, .int .i64 i10, .int .i64 i11, .slice ao0 L0.length ac0, .slice ao1 L1.length ac1, .int .i64 i12] 32)) = w1 at a0_1 a1_1 a2_1 a3_1 a4_1 a5_1 a6_1 a7_1 a8_1 a9_1 a10_1 a11_1 a12_1 a13_1 a14_1 al_1 c1 s1 ⊢
      have qa0_1 := cell_regrown a0_1
      have qa1_1 := cell_regrown a1_1
      have qa2_1 := cell_regrown a2_1
      have qa3_1 := cell_regrown a3_1
      have qa4_1 := cell_regrown a4_1
      have qa5_1 := cell_regrown a5_1
      have qa6_1 := cell_regrown a6_1
      have qa7_1 := cell_regrown a7_1
      have qa8_1 := cell_regrown a8_1
      have qa9_1 := cell_regrown a9_1
      have qa10_1 := cell_regrown a10_1
      have qa11_1 := cell_regrown a11_1
      have qa12_1 := cell_regrown a12_1
      have qa13_1 := cell_regrown a13_1
      have qa14_1 := cell_regrown a14_1
      refine (need_yes _).mono ?_
      rintro e wz ⟨rfl, hz⟩
      obtain rfl := hz.symm
      clear hz
      go_wp2_with fail
      exact ⟨rfl, .tuple #[], by simp [results, Tryz.results73, go_sem], Or.inl ⟨(by first | (simp [numsM]; done) | (simp_all [numsM]; done) | (simp [numsM]; omega) | (simp_all [numsM]; omega)), rfl⟩, c1⟩
    · have hn : (i4 == 0) = false := by simpa using hs
      go_enter Tryz.func73, Tryz.ntmps73
      go_wp2_with fail
      have a0_1 : (w.alloc (.cells #[.int .i64 7, .int .i64 i1, .int .i64 i2, .int .i64 i3, .int .i64 i4, .int .i64 i5, .int .i64 i6, .int .i64 i7, .int .i64 i8, .int .i64 i9, .int .i64 i10, .int .i64 i11, .slice ao0 L0.length ac0, .slice ao1 L1.length ac1, .int .i64 i12] 32)).cell? ⟨w.heap.size, 0, none⟩ = some (.int .i64 7) := by go_cell
      have a1_1 : (w.alloc (.cells #[.int .i64 7, .int .i64 i1, .int .i64 i2, .int .i64 i3, .int .i64 i4, .int .i64 i5, .int .i64 i6, .int .i64 i7, .int .i64 i8, .int .i64 i9, .int .i64 i10, .int .i64 i11, .slice ao0 L0.length ac0, .slice ao1 L1.length ac1, .int .i64 i12] 32)).cell? ⟨w.heap.size, 1, none⟩ = some (.int .i64 i1) := by go_cell
      have a2_1 : (w.alloc (.cells #[.int .i64 7, .int .i64 i1, .int .i64 i2, .int .i64 i3, .int .i64 i4, .int .i64 i5, .int .i64 i6, .int .i64 i7, .int .i64 i8, .int .i64 i9, .int .i64 i10, .int .i64 i11, .slice ao0 L0.length ac0, .slice ao1 L1.length ac1, .int .i64 i12] 32)).cell? ⟨w.heap.size, 2, none⟩ = some (.int .i64 i2) := by go_cell
      have a3_1 : (w.alloc (.cells #[.int .i64 7, .int .i64 i1, .int .i64 i2, .int .i64 i3, .int .i64 i4, .int .i64 i5, .int .i64 i6, .int .i64 i7, .int .i64 i8, .int .i64 i9, .int .i64 i10, .int .i64 i11, .slice ao0 L0.length ac0, .slice ao1 L1.length ac1, .int .i64 i12] 32)).cell? ⟨w.heap.size, 3, none⟩ = some (.int .i64 i3) := by go_cell
      have a4_1 : (w.alloc (.cells #[.int .i64 7, .int .i64 i1, .int .i64 i2, .int .i64 i3, .int .i64 i4, .int .i64 i5, .int .i64 i6, .int .i64 i7, .int .i64 i8, .int .i64 i9, .int .i64 i10, .int .i64 i11, .slice ao0 L0.length ac0, .slice ao1 L1.length ac1, .int .i64 i12] 32)).cell? ⟨w.heap.size, 4, none⟩ = some (.int .i64 i4) := by go_cell
      have a5_1 : (w.alloc (.cells #[.int .i64 7, .int .i64 i1, .int .i64 i2, .int .i64 i3, .int .i64 i4, .int .i64 i5, .int .i64 i6, .int .i64 i7, .int .i64 i8, .int .i64 i9, .int .i64 i10, .int .i64 i11, .slice ao0 L0.length ac0, .slice ao1 L1.length ac1, .int .i64 i12] 32)).cell? ⟨w.heap.size, 5, none⟩ = some (.int .i64 i5) := by go_cell
      have a6_1 : (w.alloc (.cells #[.int .i64 7, .int .i64 i1, .int .i64 i2, .int .i64 i3, .int .i64 i4, .int .i64 i5, .int .i64 i6, .int .i64 i7, .int .i64 i8, .int .i64 i9, .int .i64 i10, .int .i64 i11, .slice ao0 L0.length ac0, .slice ao1 L1.length ac1, .int .i64 i12] 32)).cell? ⟨w.heap.size, 6, none⟩ = some (.int .i64 i6) := by go_cell
      have a7_1 : (w.alloc (.cells #[.int .i64 7, .int .i64 i1, .int .i64 i2, .int .i64 i3, .int .i64 i4, .int .i64 i5, .int .i64 i6, .int .i64 i7, .int .i64 i8, .int .i64 i9, .int .i64 i10, .int .i64 i11, .slice ao0 L0.length ac0, .slice ao1 L1.length ac1, .int .i64 i12] 32)).cell? ⟨w.heap.size, 7, none⟩ = some (.int .i64 i7) := by go_cell
      have a8_1 : (w.alloc (.cells #[.int .i64 7, .int .i64 i1, .int .i64 i2, .int .i64 i3, .int .i64 i4, .int .i64 i5, .int .i64 i6, .int .i64 i7, .int .i64 i8, .int .i64 i9, .int .i64 i10, .int .i64 i11, .slice ao0 L0.length ac0, .slice ao1 L1.length ac1, .int .i64 i12] 32)).cell? ⟨w.heap.size, 8, none⟩ = some (.int .i64 i8) := by go_cell
      have a9_1 : (w.alloc (.cells #[.int .i64 7, .int .i64 i1, .int .i64 i2, .int .i64 i3, .int .i64 i4, .int .i64 i5, .int .i64 i6, .int .i64 i7, .int .i64 i8, .int .i64 i9, .int .i64 i10, .int .i64 i11, .slice ao0 L0.length ac0, .slice ao1 L1.length ac1, .int .i64 i12] 32)).cell? ⟨w.heap.size, 9, none⟩ = some (.int .i64 i9) := by go_cell
      have a10_1 : (w.alloc (.cells #[.int .i64 7, .int .i64 i1, .int .i64 i2, .int .i64 i3, .int .i64 i4, .int .i64 i5, .int .i64 i6, .int .i64 i7, .int .i64 i8, .int .i64 i9, .int .i64 i10, .int .i64 i11, .slice ao0 L0.length ac0, .slice ao1 L1.length ac1, .int .i64 i12] 32)).cell? ⟨w.heap.size, 10, none⟩ = some (.int .i64 i10) := by go_cell
      have a11_1 : (w.alloc (.cells #[.int .i64 7, .int .i64 i1, .int .i64 i2, .int .i64 i3, .int .i64 i4, .int .i64 i5, .int .i64 i6, .int .i64 i7, .int .i64 i8, .int .i64 i9, .int .i64 i10, .int .i64 i11, .slice ao0 L0.length ac0, .slice ao1 L1.length ac1, .int .i64 i12] 32)).cell? ⟨w.heap.size, 11, none⟩ = some (.int .i64 i11) := by go_cell
      have a12_1 : (w.alloc (.cells #[.int .i64 7, .int .i64 i1, .int .i64 i2, .int .i64 i3, .int .i64 i4, .int .i64 i5, .int .i64 i6, .int .i64 i7, .int .i64 i8, .int .i64 i9, .int .i64 i10, .int .i64 i11, .slice ao0 L0.length ac0, .slice ao1 L1.length ac1, .int .i64 i12] 32)).cell? ⟨w.heap.size, 12, none⟩ = some (.slice ao0 L0.length ac0) := by go_cell
      have a13_1 : (w.alloc (.cells #[.int .i64 7, .int .i64 i1, .int .i64 i2, .int .i64 i3, .int .i64 i4, .int .i64 i5, .int .i64 i6, .int .i64 i7, .int .i64 i8, .int .i64 i9, .int .i64 i10, .int .i64 i11, .slice ao0 L0.length ac0, .slice ao1 L1.length ac1, .int .i64 i12] 32)).cell? ⟨w.heap.size, 13, none⟩ = some (.slice ao1 L1.length ac1) := by go_cell
      have a14_1 : (w.alloc (.cells #[.int .i64 7, .int .i64 i1, .int .i64 i2, .int .i64 i3, .int .i64 i4, .int .i64 i5, .int .i64 i6, .int .i64 i7, .int .i64 i8, .int .i64 i9, .int .i64 i10, .int .i64 i11, .slice ao0 L0.length ac0, .slice ao1 L1.length ac1, .int .i64 i12] 32)).cell? ⟨w.heap.size, 14, none⟩ = some (.int .i64 i12) := by go_cell
      have al_1 : w.heap.size < (w.alloc (.cells #[.int .i64 7, .int .i64 i1, .int .i64 i2, .int .i64 i3, .int .i64 i4, .int .i64 i5, .int .i64 i6, .int .i64 i7, .int .i64 i8, .int .i64 i9, .int .i64 i10, .int .i64 i11, .slice ao0 L0.length ac0, .slice ao1 L1.length ac1, .int .i64 i12] 32)).heap.size := by first | (simp; done) | (simp; omega)
      have c1 : Below w.heap.size w (w.alloc (.cells #[.int .i64 7, .int .i64 i1, .int .i64 i2, .int .i64 i3, .int .i64 i4, .int .i64 i5, .int .i64 i6, .int .i64 i7, .int .i64 i8, .int .i64 i9, .int .i64 i10, .int .i64 i11, .slice ao0 L0.length ac0, .slice ao1 L1.length ac1, .int .i64 i12] 32)) := by go_grown
      have s1 : (w.alloc (.cells #[.int .i64 7, .int .i64 i1, .int .i64 i2, .int .i64 i3, .int .i64 i4, .int .i64 i5, .int .i64 i6, .int .i64 i7, .int .i64 i8, .int .i64 i9, .int .i64 i10, .int .i64 i11, .slice ao0 L0.length ac0, .slice ao1 L1.length ac1, .int .i64 i12] 32)).heap.size = w.heap.size + 1 := by simp
      generalize (w.alloc (.cells #[.int .i64 7, .int .i64 i1, .int .i64 i2, .int .i64 i3, .int .i64 i4, .int .i64 i5, .int .i64 i6, .int .i64 i7, .int .i64 i8, .int .i64 i9, .int .i64 i10, .int .i64 i11, .slice ao0 L0.length ac0, .slice ao1 L1.length ac1, .int .i64 i12] 32)) = w1 at a0_1 a1_1 a2_1 a3_1 a4_1 a5_1 a6_1 a7_1 a8_1 a9_1 a10_1 a11_1 a12_1 a13_1 a14_1 al_1 c1 s1 ⊢
      have qa0_1 := cell_regrown a0_1
      have qa1_1 := cell_regrown a1_1
      have qa2_1 := cell_regrown a2_1
      have qa3_1 := cell_regrown a3_1
      have qa4_1 := cell_regrown a4_1
      have qa5_1 := cell_regrown a5_1
      have qa6_1 := cell_regrown a6_1
      have qa7_1 := cell_regrown a7_1
      have qa8_1 := cell_regrown a8_1
      have qa9_1 := cell_regrown a9_1
      have qa10_1 := cell_regrown a10_1
      have qa11_1 := cell_regrown a11_1
      have qa12_1 := cell_regrown a12_1
      have qa13_1 := cell_regrown a13_1
      have qa14_1 := cell_regrown a14_1
      refine (need_no _ (HE.out.later c1)).mono ?_
      rintro e wz ⟨⟨t, v, rfl⟩, rfl⟩
      exact ⟨rfl, Or.inr ⟨(by first | (simp [numsM]; done) | (simp_all [numsM]; done) | (simp [numsM]; omega) | (simp_all [numsM]; omega)), t, v, rfl⟩, c1⟩
  by_cases h8 : i0 = 8
  case pos =>
    subst h8
    by_cases hs : i4 = 0
    · subst hs
      go_enter Tryz.func73, Tryz.ntmps73
      go_wp2_with fail
      have a0_1 : (w.alloc (.cells #[.int .i64 8, .int .i64 i1, .int .i64 i2, .int .i64 i3, .int .i64 0, .int .i64 i5, .int .i64 i6, .int .i64 i7, .int .i64 i8, .int .i64 i9, .int .i64 i10, .int .i64 i11, .slice ao0 L0.length ac0, .slice ao1 L1.length ac1, .int .i64 i12] 32)).cell? ⟨w.heap.size, 0, none⟩ = some (.int .i64 8) := by go_cell
      have a1_1 : (w.alloc (.cells #[.int .i64 8, .int .i64 i1, .int .i64 i2, .int .i64 i3, .int .i64 0, .int .i64 i5, .int .i64 i6, .int .i64 i7, .int .i64 i8, .int .i64 i9, .int .i64 i10, .int .i64 i11, .slice ao0 L0.length ac0, .slice ao1 L1.length ac1, .int .i64 i12] 32)).cell? ⟨w.heap.size, 1, none⟩ = some (.int .i64 i1) := by go_cell
      have a2_1 : (w.alloc (.cells #[.int .i64 8, .int .i64 i1, .int .i64 i2, .int .i64 i3, .int .i64 0, .int .i64 i5, .int .i64 i6, .int .i64 i7, .int .i64 i8, .int .i64 i9, .int .i64 i10, .int .i64 i11, .slice ao0 L0.length ac0, .slice ao1 L1.length ac1, .int .i64 i12] 32)).cell? ⟨w.heap.size, 2, none⟩ = some (.int .i64 i2) := by go_cell
      have a3_1 : (w.alloc (.cells #[.int .i64 8, .int .i64 i1, .int .i64 i2, .int .i64 i3, .int .i64 0, .int .i64 i5, .int .i64 i6, .int .i64 i7, .int .i64 i8, .int .i64 i9, .int .i64 i10, .int .i64 i11, .slice ao0 L0.length ac0, .slice ao1 L1.length ac1, .int .i64 i12] 32)).cell? ⟨w.heap.size, 3, none⟩ = some (.int .i64 i3) := by go_cell
      have a4_1 : (w.alloc (.cells #[.int .i64 8, .int .i64 i1, .int .i64 i2, .int .i64 i3, .int .i64 0, .int .i64 i5, .int .i64 i6, .int .i64 i7, .int .i64 i8, .int .i64 i9, .int .i64 i10, .int .i64 i11, .slice ao0 L0.length ac0, .slice ao1 L1.length ac1, .int .i64 i12] 32)).cell? ⟨w.heap.size, 4, none⟩ = some (.int .i64 0) := by go_cell
      have a5_1 : (w.alloc (.cells #[.int .i64 8, .int .i64 i1, .int .i64 i2, .int .i64 i3, .int .i64 0, .int .i64 i5, .int .i64 i6, .int .i64 i7, .int .i64 i8, .int .i64 i9, .int .i64 i10, .int .i64 i11, .slice ao0 L0.length ac0, .slice ao1 L1.length ac1, .int .i64 i12] 32)).cell? ⟨w.heap.size, 5, none⟩ = some (.int .i64 i5) := by go_cell
      have a6_1 : (w.alloc (.cells #[.int .i64 8, .int .i64 i1, .int .i64 i2, .int .i64 i3, .int .i64 0, .int .i64 i5, .int .i64 i6, .int .i64 i7, .int .i64 i8, .int .i64 i9, .int .i64 i10, .int .i64 i11, .slice ao0 L0.length ac0, .slice ao1 L1.length ac1, .int .i64 i12] 32)).cell? ⟨w.heap.size, 6, none⟩ = some (.int .i64 i6) := by go_cell
      have a7_1 : (w.alloc (.cells #[.int .i64 8, .int .i64 i1, .int .i64 i2, .int .i64 i3, .int .i64 0, .int .i64 i5, .int .i64 i6, .int .i64 i7, .int .i64 i8, .int .i64 i9, .int .i64 i10, .int .i64 i11, .slice ao0 L0.length ac0, .slice ao1 L1.length ac1, .int .i64 i12] 32)).cell? ⟨w.heap.size, 7, none⟩ = some (.int .i64 i7) := by go_cell
      have a8_1 : (w.alloc (.cells #[.int .i64 8, .int .i64 i1, .int .i64 i2, .int .i64 i3, .int .i64 0, .int .i64 i5, .int .i64 i6, .int .i64 i7, .int .i64 i8, .int .i64 i9, .int .i64 i10, .int .i64 i11, .slice ao0 L0.length ac0, .slice ao1 L1.length ac1, .int .i64 i12] 32)).cell? ⟨w.heap.size, 8, none⟩ = some (.int .i64 i8) := by go_cell
      have a9_1 : (w.alloc (.cells #[.int .i64 8, .int .i64 i1, .int .i64 i2, .int .i64 i3, .int .i64 0, .int .i64 i5, .int .i64 i6, .int .i64 i7, .int .i64 i8, .int .i64 i9, .int .i64 i10, .int .i64 i11, .slice ao0 L0.length ac0, .slice ao1 L1.length ac1, .int .i64 i12] 32)).cell? ⟨w.heap.size, 9, none⟩ = some (.int .i64 i9) := by go_cell
      have a10_1 : (w.alloc (.cells #[.int .i64 8, .int .i64 i1, .int .i64 i2, .int .i64 i3, .int .i64 0, .int .i64 i5, .int .i64 i6, .int .i64 i7, .int .i64 i8, .int .i64 i9, .int .i64 i10, .int .i64 i11, .slice ao0 L0.length ac0, .slice ao1 L1.length ac1, .int .i64 i12] 32)).cell? ⟨w.heap.size, 10, none⟩ = some (.int .i64 i10) := by go_cell
      have a11_1 : (w.alloc (.cells #[.int .i64 8, .int .i64 i1, .int .i64 i2, .int .i64 i3, .int .i64 0, .int .i64 i5, .int .i64 i6, .int .i64 i7, .int .i64 i8, .int .i64 i9, .int .i64 i10, .int .i64 i11, .slice ao0 L0.length ac0, .slice ao1 L1.length ac1, .int .i64 i12] 32)).cell? ⟨w.heap.size, 11, none⟩ = some (.int .i64 i11) := by go_cell
      have a12_1 : (w.alloc (.cells #[.int .i64 8, .int .i64 i1, .int .i64 i2, .int .i64 i3, .int .i64 0, .int .i64 i5, .int .i64 i6, .int .i64 i7, .int .i64 i8, .int .i64 i9, .int .i64 i10, .int .i64 i11, .slice ao0 L0.length ac0, .slice ao1 L1.length ac1, .int .i64 i12] 32)).cell? ⟨w.heap.size, 12, none⟩ = some (.slice ao0 L0.length ac0) := by go_cell
      have a13_1 : (w.alloc (.cells #[.int .i64 8, .int .i64 i1, .int .i64 i2, .int .i64 i3, .int .i64 0, .int .i64 i5, .int .i64 i6, .int .i64 i7, .int .i64 i8, .int .i64 i9, .int .i64 i10, .int .i64 i11, .slice ao0 L0.length ac0, .slice ao1 L1.length ac1, .int .i64 i12] 32)).cell? ⟨w.heap.size, 13, none⟩ = some (.slice ao1 L1.length ac1) := by go_cell
      have a14_1 : (w.alloc (.cells #[.int .i64 8, .int .i64 i1, .int .i64 i2, .int .i64 i3, .int .i64 0, .int .i64 i5, .int .i64 i6, .int .i64 i7, .int .i64 i8, .int .i64 i9, .int .i64 i10, .int .i64 i11, .slice ao0 L0.length ac0, .slice ao1 L1.length ac1, .int .i64 i12] 32)).cell? ⟨w.heap.size, 14, none⟩ = some (.int .i64 i12) := by go_cell
      have al_1 : w.heap.size < (w.alloc (.cells #[.int .i64 8, .int .i64 i1, .int .i64 i2, .int .i64 i3, .int .i64 0, .int .i64 i5, .int .i64 i6, .int .i64 i7, .int .i64 i8, .int .i64 i9, .int .i64 i10, .int .i64 i11, .slice ao0 L0.length ac0, .slice ao1 L1.length ac1, .int .i64 i12] 32)).heap.size := by first | (simp; done) | (simp; omega)
      have c1 : Below w.heap.size w (w.alloc (.cells #[.int .i64 8, .int .i64 i1, .int .i64 i2, .int .i64 i3, .int .i64 0, .int .i64 i5, .int .i64 i6, .int .i64 i7, .int .i64 i8, .int .i64 i9, .int .i64 i10, .int .i64 i11, .slice ao0 L0.length ac0, .slice ao1 L1.length ac1, .int .i64 i12] 32)) := by go_grown
      have s1 : (w.alloc (.cells #[.int .i64 8, .int .i64 i1, .int .i64 i2, .int .i64 i3, .int .i64 0, .int .i64 i5, .int .i64 i6, .int .i64 i7, .int .i64 i8, .int .i64 i9, .int .i64 i10, .int .i64 i11, .slice ao0 L0.length ac0, .slice ao1 L1.length ac1, .int .i64 i12] 32)).heap.size = w.heap.size + 1 := by simp
      generalize (w.alloc (.cells #[.int .i64 8, .int .i64 i1, .int .i64 i2, .int .i64 i3, .int .i64 0, .int .i64 i5, .int .i64 i6, .int .i64 i7, .int .i64 i8, .int .i64 i9, .int .i64 i10, .int .i64 i11, .slice ao0 L0.length ac0, .slice ao1 L1.length ac1, .int .i64 i12] 32)) = w1 at a0_1 a1_1 a2_1 a3_1 a4_1 a5_1 a6_1 a7_1 a8_1 a9_1 a10_1 a11_1 a12_1 a13_1 a14_1 al_1 c1 s1 ⊢
      have qa0_1 := cell_regrown a0_1
      have qa1_1 := cell_regrown a1_1
      have qa2_1 := cell_regrown a2_1
      have qa3_1 := cell_regrown a3_1
      have qa4_1 := cell_regrown a4_1
      have qa5_1 := cell_regrown a5_1
      have qa6_1 := cell_regrown a6_1
      have qa7_1 := cell_regrown a7_1
      have qa8_1 := cell_regrown a8_1
      have qa9_1 := cell_regrown a9_1
      have qa10_1 := cell_regrown a10_1
      have qa11_1 := cell_regrown a11_1
      have qa12_1 := cell_regrown a12_1
      have qa13_1 := cell_regrown a13_1
      have qa14_1 := cell_regrown a14_1
      refine (need_yes _).mono ?_
      rintro e wz ⟨rfl, hz⟩
      obtain rfl := hz.symm
      clear hz
      go_wp2_with fail
      exact ⟨rfl, .tuple #[], by simp [results, Tryz.results73, go_sem], Or.inl ⟨(by first | (simp [numsM]; done) | (simp_all [numsM]; done) | (simp [numsM]; omega) | (simp_all [numsM]; omega)), rfl⟩, c1⟩
    · have hn : (i4 == 0) = false := by simpa using hs
      go_enter Tryz.func73, Tryz.ntmps73
      go_wp2_with fail
      have a0_1 : (w.alloc (.cells #[.int .i64 8, .int .i64 i1, .int .i64 i2, .int .i64 i3, .int .i64 i4, .int .i64 i5, .int .i64 i6, .int .i64 i7, .int .i64 i8, .int .i64 i9, .int .i64 i10, .int .i64 i11, .slice ao0 L0.length ac0, .slice ao1 L1.length ac1, .int .i64 i12] 32)).cell? ⟨w.heap.size, 0, none⟩ = some (.int .i64 8) := by go_cell
      have a1_1 : (w.alloc (.cells #[.int .i64 8, .int .i64 i1, .int .i64 i2, .int .i64 i3, .int .i64 i4, .int .i64 i5, .int .i64 i6, .int .i64 i7, .int .i64 i8, .int .i64 i9, .int .i64 i10, .int .i64 i11, .slice ao0 L0.length ac0, .slice ao1 L1.length ac1, .int .i64 i12] 32)).cell? ⟨w.heap.size, 1, none⟩ = some (.int .i64 i1) := by go_cell
      have a2_1 : (w.alloc (.cells #[.int .i64 8, .int .i64 i1, .int .i64 i2, .int .i64 i3, .int .i64 i4, .int .i64 i5, .int .i64 i6, .int .i64 i7, .int .i64 i8, .int .i64 i9, .int .i64 i10, .int .i64 i11, .slice ao0 L0.length ac0, .slice ao1 L1.length ac1, .int .i64 i12] 32)).cell? ⟨w.heap.size, 2, none⟩ = some (.int .i64 i2) := by go_cell
      have a3_1 : (w.alloc (.cells #[.int .i64 8, .int .i64 i1, .int .i64 i2, .int .i64 i3, .int .i64 i4, .int .i64 i5, .int .i64 i6, .int .i64 i7, .int .i64 i8, .int .i64 i9, .int .i64 i10, .int .i64 i11, .slice ao0 L0.length ac0, .slice ao1 L1.length ac1, .int .i64 i12] 32)).cell? ⟨w.heap.size, 3, none⟩ = some (.int .i64 i3) := by go_cell
      have a4_1 : (w.alloc (.cells #[.int .i64 8, .int .i64 i1, .int .i64 i2, .int .i64 i3, .int .i64 i4, .int .i64 i5, .int .i64 i6, .int .i64 i7, .int .i64 i8, .int .i64 i9, .int .i64 i10, .int .i64 i11, .slice ao0 L0.length ac0, .slice ao1 L1.length ac1, .int .i64 i12] 32)).cell? ⟨w.heap.size, 4, none⟩ = some (.int .i64 i4) := by go_cell
      have a5_1 : (w.alloc (.cells #[.int .i64 8, .int .i64 i1, .int .i64 i2, .int .i64 i3, .int .i64 i4, .int .i64 i5, .int .i64 i6, .int .i64 i7, .int .i64 i8, .int .i64 i9, .int .i64 i10, .int .i64 i11, .slice ao0 L0.length ac0, .slice ao1 L1.length ac1, .int .i64 i12] 32)).cell? ⟨w.heap.size, 5, none⟩ = some (.int .i64 i5) := by go_cell
      have a6_1 : (w.alloc (.cells #[.int .i64 8, .int .i64 i1, .int .i64 i2, .int .i64 i3, .int .i64 i4, .int .i64 i5, .int .i64 i6, .int .i64 i7, .int .i64 i8, .int .i64 i9, .int .i64 i10, .int .i64 i11, .slice ao0 L0.length ac0, .slice ao1 L1.length ac1, .int .i64 i12] 32)).cell? ⟨w.heap.size, 6, none⟩ = some (.int .i64 i6) := by go_cell
      have a7_1 : (w.alloc (.cells #[.int .i64 8, .int .i64 i1, .int .i64 i2, .int .i64 i3, .int .i64 i4, .int .i64 i5, .int .i64 i6, .int .i64 i7, .int .i64 i8, .int .i64 i9, .int .i64 i10, .int .i64 i11, .slice ao0 L0.length ac0, .slice ao1 L1.length ac1, .int .i64 i12] 32)).cell? ⟨w.heap.size, 7, none⟩ = some (.int .i64 i7) := by go_cell
      have a8_1 : (w.alloc (.cells #[.int .i64 8, .int .i64 i1, .int .i64 i2, .int .i64 i3, .int .i64 i4, .int .i64 i5, .int .i64 i6, .int .i64 i7, .int .i64 i8, .int .i64 i9, .int .i64 i10, .int .i64 i11, .slice ao0 L0.length ac0, .slice ao1 L1.length ac1, .int .i64 i12] 32)).cell? ⟨w.heap.size, 8, none⟩ = some (.int .i64 i8) := by go_cell
      have a9_1 : (w.alloc (.cells #[.int .i64 8, .int .i64 i1, .int .i64 i2, .int .i64 i3, .int .i64 i4, .int .i64 i5, .int .i64 i6, .int .i64 i7, .int .i64 i8, .int .i64 i9, .int .i64 i10, .int .i64 i11, .slice ao0 L0.length ac0, .slice ao1 L1.length ac1, .int .i64 i12] 32)).cell? ⟨w.heap.size, 9, none⟩ = some (.int .i64 i9) := by go_cell
      have a10_1 : (w.alloc (.cells #[.int .i64 8, .int .i64 i1, .int .i64 i2, .int .i64 i3, .int .i64 i4, .int .i64 i5, .int .i64 i6, .int .i64 i7, .int .i64 i8, .int .i64 i9, .int .i64 i10, .int .i64 i11, .slice ao0 L0.length ac0, .slice ao1 L1.length ac1, .int .i64 i12] 32)).cell? ⟨w.heap.size, 10, none⟩ = some (.int .i64 i10) := by go_cell
      have a11_1 : (w.alloc (.cells #[.int .i64 8, .int .i64 i1, .int .i64 i2, .int .i64 i3, .int .i64 i4, .int .i64 i5, .int .i64 i6, .int .i64 i7, .int .i64 i8, .int .i64 i9, .int .i64 i10, .int .i64 i11, .slice ao0 L0.length ac0, .slice ao1 L1.length ac1, .int .i64 i12] 32)).cell? ⟨w.heap.size, 11, none⟩ = some (.int .i64 i11) := by go_cell
      have a12_1 : (w.alloc (.cells #[.int .i64 8, .int .i64 i1, .int .i64 i2, .int .i64 i3, .int .i64 i4, .int .i64 i5, .int .i64 i6, .int .i64 i7, .int .i64 i8, .int .i64 i9, .int .i64 i10, .int .i64 i11, .slice ao0 L0.length ac0, .slice ao1 L1.length ac1, .int .i64 i12] 32)).cell? ⟨w.heap.size, 12, none⟩ = some (.slice ao0 L0.length ac0) := by go_cell
      have a13_1 : (w.alloc (.cells #[.int .i64 8, .int .i64 i1, .int .i64 i2, .int .i64 i3, .int .i64 i4, .int .i64 i5, .int .i64 i6, .int .i64 i7, .int .i64 i8, .int .i64 i9, .int .i64 i10, .int .i64 i11, .slice ao0 L0.length ac0, .slice ao1 L1.length ac1, .int .i64 i12] 32)).cell? ⟨w.heap.size, 13, none⟩ = some (.slice ao1 L1.length ac1) := by go_cell
      have a14_1 : (w.alloc (.cells #[.int .i64 8, .int .i64 i1, .int .i64 i2, .int .i64 i3, .int .i64 i4, .int .i64 i5, .int .i64 i6, .int .i64 i7, .int .i64 i8, .int .i64 i9, .int .i64 i10, .int .i64 i11, .slice ao0 L0.length ac0, .slice ao1 L1.length ac1, .int .i64 i12] 32)).cell? ⟨w.heap.size, 14, none⟩ = some (.int .i64 i12) := by go_cell
      have al_1 : w.heap.size < (w.alloc (.cells #[.int .i64 8, .int .i64 i1, .int .i64 i2, .int .i64 i3, .int .i64 i4, .int .i64 i5, .int .i64 i6, .int .i64 i7, .int .i64 i8, .int .i64 i9, .int .i64 i10, .int .i64 i11, .slice ao0 L0.length ac0, .slice ao1 L1.length ac1, .int .i64 i12] 32)).heap.size := by first | (simp; done) | (simp; omega)
      have c1 : Below w.heap.size w (w.alloc (.cells #[.int .i64 8, .int .i64 i1, .int .i64 i2, .int .i64 i3, .int .i64 i4, .int .i64 i5, .int .i64 i6, .int .i64 i7, .int .i64 i8, .int .i64 i9, .int .i64 i10, .int .i64 i11, .slice ao0 L0.length ac0, .slice ao1 L1.length ac1, .int .i64 i12] 32)) := by go_grown
      have s1 : (w.alloc (.cells #[.int .i64 8, .int .i64 i1, .int .i64 i2, .int .i64 i3, .int .i64 i4, .int .i64 i5, .int .i64 i6, .int .i64 i7, .int .i64 i8, .int .i64 i9, .int .i64 i10, .int .i64 i11, .slice ao0 L0.length ac0, .slice ao1 L1.length ac1, .int .i64 i12] 32)).heap.size = w.heap.size + 1 := by simp
      generalize (w.alloc (.cells #[.int .i64 8, .int .i64 i1, .int .i64 i2, .int .i64 i3, .int .i64 i4, .int .i64 i5, .int .i64 i6, .int .i64 i7, .int .i64 i8, .int .i64 i9, .int .i64 i10, .int .i64 i11, .slice ao0 L0.length ac0, .slice ao1 L1.length ac1, .int .i64 i12] 32)) = w1 at a0_1 a1_1 a2_1 a3_1 a4_1 a5_1 a6_1 a7_1 a8_1 a9_1 a10_1 a11_1 a12_1 a13_1 a14_1 al_1 c1 s1 ⊢
      have qa0_1 := cell_regrown a0_1
      have qa1_1 := cell_regrown a1_1
      have qa2_1 := cell_regrown a2_1
      have qa3_1 := cell_regrown a3_1
      have qa4_1 := cell_regrown a4_1
      have qa5_1 := cell_regrown a5_1
      have qa6_1 := cell_regrown a6_1
      have qa7_1 := cell_regrown a7_1
      have qa8_1 := cell_regrown a8_1
      have qa9_1 := cell_regrown a9_1
      have qa10_1 := cell_regrown a10_1
      have qa11_1 := cell_regrown a11_1
      have qa12_1 := cell_regrown a12_1
      have qa13_1 := cell_regrown a13_1
      have qa14_1 := cell_regrown a14_1
      refine (need_no _ (HE.out.later c1)).mono ?_
      rintro e wz ⟨⟨t, v, rfl⟩, rfl⟩
      exact ⟨rfl, Or.inr ⟨(by first | (simp [numsM]; done) | (simp_all [numsM]; done) | (simp [numsM]; omega) | (simp_all [numsM]; omega)), t, v, rfl⟩, c1⟩
  by_cases h9 : i0 = 9
  case pos =>
    subst h9
    by_cases ht : i1 = 0
    · subst ht
      by_cases hi : i3 = 0
      · subst hi
        by_cases hs : 1 ≤ i4
        · have hn : decide (i4 ≥ 1) = true := by simpa using hs
          go_enter Tryz.func73, Tryz.ntmps73
          go_wp2_with fail
          have a0_1 : (w.alloc (.cells #[.int .i64 9, .int .i64 0, .int .i64 i2, .int .i64 0, .int .i64 i4, .int .i64 i5, .int .i64 i6, .int .i64 i7, .int .i64 i8, .int .i64 i9, .int .i64 i10, .int .i64 i11, .slice ao0 L0.length ac0, .slice ao1 L1.length ac1, .int .i64 i12] 32)).cell? ⟨w.heap.size, 0, none⟩ = some (.int .i64 9) := by go_cell
          have a1_1 : (w.alloc (.cells #[.int .i64 9, .int .i64 0, .int .i64 i2, .int .i64 0, .int .i64 i4, .int .i64 i5, .int .i64 i6, .int .i64 i7, .int .i64 i8, .int .i64 i9, .int .i64 i10, .int .i64 i11, .slice ao0 L0.length ac0, .slice ao1 L1.length ac1, .int .i64 i12] 32)).cell? ⟨w.heap.size, 1, none⟩ = some (.int .i64 0) := by go_cell
          have a2_1 : (w.alloc (.cells #[.int .i64 9, .int .i64 0, .int .i64 i2, .int .i64 0, .int .i64 i4, .int .i64 i5, .int .i64 i6, .int .i64 i7, .int .i64 i8, .int .i64 i9, .int .i64 i10, .int .i64 i11, .slice ao0 L0.length ac0, .slice ao1 L1.length ac1, .int .i64 i12] 32)).cell? ⟨w.heap.size, 2, none⟩ = some (.int .i64 i2) := by go_cell
          have a3_1 : (w.alloc (.cells #[.int .i64 9, .int .i64 0, .int .i64 i2, .int .i64 0, .int .i64 i4, .int .i64 i5, .int .i64 i6, .int .i64 i7, .int .i64 i8, .int .i64 i9, .int .i64 i10, .int .i64 i11, .slice ao0 L0.length ac0, .slice ao1 L1.length ac1, .int .i64 i12] 32)).cell? ⟨w.heap.size, 3, none⟩ = some (.int .i64 0) := by go_cell
          have a4_1 : (w.alloc (.cells #[.int .i64 9, .int .i64 0, .int .i64 i2, .int .i64 0, .int .i64 i4, .int .i64 i5, .int .i64 i6, .int .i64 i7, .int .i64 i8, .int .i64 i9, .int .i64 i10, .int .i64 i11, .slice ao0 L0.length ac0, .slice ao1 L1.length ac1, .int .i64 i12] 32)).cell? ⟨w.heap.size, 4, none⟩ = some (.int .i64 i4) := by go_cell
          have a5_1 : (w.alloc (.cells #[.int .i64 9, .int .i64 0, .int .i64 i2, .int .i64 0, .int .i64 i4, .int .i64 i5, .int .i64 i6, .int .i64 i7, .int .i64 i8, .int .i64 i9, .int .i64 i10, .int .i64 i11, .slice ao0 L0.length ac0, .slice ao1 L1.length ac1, .int .i64 i12] 32)).cell? ⟨w.heap.size, 5, none⟩ = some (.int .i64 i5) := by go_cell
          have a6_1 : (w.alloc (.cells #[.int .i64 9, .int .i64 0, .int .i64 i2, .int .i64 0, .int .i64 i4, .int .i64 i5, .int .i64 i6, .int .i64 i7, .int .i64 i8, .int .i64 i9, .int .i64 i10, .int .i64 i11, .slice ao0 L0.length ac0, .slice ao1 L1.length ac1, .int .i64 i12] 32)).cell? ⟨w.heap.size, 6, none⟩ = some (.int .i64 i6) := by go_cell
          have a7_1 : (w.alloc (.cells #[.int .i64 9, .int .i64 0, .int .i64 i2, .int .i64 0, .int .i64 i4, .int .i64 i5, .int .i64 i6, .int .i64 i7, .int .i64 i8, .int .i64 i9, .int .i64 i10, .int .i64 i11, .slice ao0 L0.length ac0, .slice ao1 L1.length ac1, .int .i64 i12] 32)).cell? ⟨w.heap.size, 7, none⟩ = some (.int .i64 i7) := by go_cell
          have a8_1 : (w.alloc (.cells #[.int .i64 9, .int .i64 0, .int .i64 i2, .int .i64 0, .int .i64 i4, .int .i64 i5, .int .i64 i6, .int .i64 i7, .int .i64 i8, .int .i64 i9, .int .i64 i10, .int .i64 i11, .slice ao0 L0.length ac0, .slice ao1 L1.length ac1, .int .i64 i12] 32)).cell? ⟨w.heap.size, 8, none⟩ = some (.int .i64 i8) := by go_cell
          have a9_1 : (w.alloc (.cells #[.int .i64 9, .int .i64 0, .int .i64 i2, .int .i64 0, .int .i64 i4, .int .i64 i5, .int .i64 i6, .int .i64 i7, .int .i64 i8, .int .i64 i9, .int .i64 i10, .int .i64 i11, .slice ao0 L0.length ac0, .slice ao1 L1.length ac1, .int .i64 i12] 32)).cell? ⟨w.heap.size, 9, none⟩ = some (.int .i64 i9) := by go_cell
          have a10_1 : (w.alloc (.cells #[.int .i64 9, .int .i64 0, .int .i64 i2, .int .i64 0, .int .i64 i4, .int .i64 i5, .int .i64 i6, .int .i64 i7, .int .i64 i8, .int .i64 i9, .int .i64 i10, .int .i64 i11, .slice ao0 L0.length ac0, .slice ao1 L1.length ac1, .int .i64 i12] 32)).cell? ⟨w.heap.size, 10, none⟩ = some (.int .i64 i10) := by go_cell
          have a11_1 : (w.alloc (.cells #[.int .i64 9, .int .i64 0, .int .i64 i2, .int .i64 0, .int .i64 i4, .int .i64 i5, .int .i64 i6, .int .i64 i7, .int .i64 i8, .int .i64 i9, .int .i64 i10, .int .i64 i11, .slice ao0 L0.length ac0, .slice ao1 L1.length ac1, .int .i64 i12] 32)).cell? ⟨w.heap.size, 11, none⟩ = some (.int .i64 i11) := by go_cell
          have a12_1 : (w.alloc (.cells #[.int .i64 9, .int .i64 0, .int .i64 i2, .int .i64 0, .int .i64 i4, .int .i64 i5, .int .i64 i6, .int .i64 i7, .int .i64 i8, .int .i64 i9, .int .i64 i10, .int .i64 i11, .slice ao0 L0.length ac0, .slice ao1 L1.length ac1, .int .i64 i12] 32)).cell? ⟨w.heap.size, 12, none⟩ = some (.slice ao0 L0.length ac0) := by go_cell
          have a13_1 : (w.alloc (.cells #[.int .i64 9, .int .i64 0, .int .i64 i2, .int .i64 0, .int .i64 i4, .int .i64 i5, .int .i64 i6, .int .i64 i7, .int .i64 i8, .int .i64 i9, .int .i64 i10, .int .i64 i11, .slice ao0 L0.length ac0, .slice ao1 L1.length ac1, .int .i64 i12] 32)).cell? ⟨w.heap.size, 13, none⟩ = some (.slice ao1 L1.length ac1) := by go_cell
          have a14_1 : (w.alloc (.cells #[.int .i64 9, .int .i64 0, .int .i64 i2, .int .i64 0, .int .i64 i4, .int .i64 i5, .int .i64 i6, .int .i64 i7, .int .i64 i8, .int .i64 i9, .int .i64 i10, .int .i64 i11, .slice ao0 L0.length ac0, .slice ao1 L1.length ac1, .int .i64 i12] 32)).cell? ⟨w.heap.size, 14, none⟩ = some (.int .i64 i12) := by go_cell
          have al_1 : w.heap.size < (w.alloc (.cells #[.int .i64 9, .int .i64 0, .int .i64 i2, .int .i64 0, .int .i64 i4, .int .i64 i5, .int .i64 i6, .int .i64 i7, .int .i64 i8, .int .i64 i9, .int .i64 i10, .int .i64 i11, .slice ao0 L0.length ac0, .slice ao1 L1.length ac1, .int .i64 i12] 32)).heap.size := by first | (simp; done) | (simp; omega)
          have c1 : Below w.heap.size w (w.alloc (.cells #[.int .i64 9, .int .i64 0, .int .i64 i2, .int .i64 0, .int .i64 i4, .int .i64 i5, .int .i64 i6, .int .i64 i7, .int .i64 i8, .int .i64 i9, .int .i64 i10, .int .i64 i11, .slice ao0 L0.length ac0, .slice ao1 L1.length ac1, .int .i64 i12] 32)) := by go_grown
          have s1 : (w.alloc (.cells #[.int .i64 9, .int .i64 0, .int .i64 i2, .int .i64 0, .int .i64 i4, .int .i64 i5, .int .i64 i6, .int .i64 i7, .int .i64 i8, .int .i64 i9, .int .i64 i10, .int .i64 i11, .slice ao0 L0.length ac0, .slice ao1 L1.length ac1, .int .i64 i12] 32)).heap.size = w.heap.size + 1 := by simp
          generalize (w.alloc (.cells #[.int .i64 9, .int .i64 0, .int .i64 i2, .int .i64 0, .int .i64 i4, .int .i64 i5, .int .i64 i6, .int .i64 i7, .int .i64 i8, .int .i64 i9, .int .i64 i10, .int .i64 i11, .slice ao0 L0.length ac0, .slice ao1 L1.length ac1, .int .i64 i12] 32)) = w1 at a0_1 a1_1 a2_1 a3_1 a4_1 a5_1 a6_1 a7_1 a8_1 a9_1 a10_1 a11_1 a12_1 a13_1 a14_1 al_1 c1 s1 ⊢
          have qa0_1 := cell_regrown a0_1
          have qa1_1 := cell_regrown a1_1
          have qa2_1 := cell_regrown a2_1
          have qa3_1 := cell_regrown a3_1
          have qa4_1 := cell_regrown a4_1
          have qa5_1 := cell_regrown a5_1
          have qa6_1 := cell_regrown a6_1
          have qa7_1 := cell_regrown a7_1
          have qa8_1 := cell_regrown a8_1
          have qa9_1 := cell_regrown a9_1
          have qa10_1 := cell_regrown a10_1
          have qa11_1 := cell_regrown a11_1
          have qa12_1 := cell_regrown a12_1
          have qa13_1 := cell_regrown a13_1
          have qa14_1 := cell_regrown a14_1
          refine (need_yes _).mono ?_
          rintro e wz ⟨rfl, hz⟩
          obtain rfl := hz.symm
          clear hz
          go_wp2_with fail
          exact ⟨rfl, .tuple #[], by simp [results, Tryz.results73, go_sem], Or.inl ⟨(by first | (simp [numsM]; done) | (simp_all [numsM]; done) | (simp [numsM]; omega) | (simp_all [numsM]; omega)), rfl⟩, c1⟩
        · have hn : decide (i4 ≥ 1) = false := by simpa using hs
          go_enter Tryz.func73, Tryz.ntmps73
          go_wp2_with fail
          have a0_1 : (w.alloc (.cells #[.int .i64 9, .int .i64 0, .int .i64 i2, .int .i64 0, .int .i64 i4, .int .i64 i5, .int .i64 i6, .int .i64 i7, .int .i64 i8, .int .i64 i9, .int .i64 i10, .int .i64 i11, .slice ao0 L0.length ac0, .slice ao1 L1.length ac1, .int .i64 i12] 32)).cell? ⟨w.heap.size, 0, none⟩ = some (.int .i64 9) := by go_cell
          have a1_1 : (w.alloc (.cells #[.int .i64 9, .int .i64 0, .int .i64 i2, .int .i64 0, .int .i64 i4, .int .i64 i5, .int .i64 i6, .int .i64 i7, .int .i64 i8, .int .i64 i9, .int .i64 i10, .int .i64 i11, .slice ao0 L0.length ac0, .slice ao1 L1.length ac1, .int .i64 i12] 32)).cell? ⟨w.heap.size, 1, none⟩ = some (.int .i64 0) := by go_cell
          have a2_1 : (w.alloc (.cells #[.int .i64 9, .int .i64 0, .int .i64 i2, .int .i64 0, .int .i64 i4, .int .i64 i5, .int .i64 i6, .int .i64 i7, .int .i64 i8, .int .i64 i9, .int .i64 i10, .int .i64 i11, .slice ao0 L0.length ac0, .slice ao1 L1.length ac1, .int .i64 i12] 32)).cell? ⟨w.heap.size, 2, none⟩ = some (.int .i64 i2) := by go_cell
          have a3_1 : (w.alloc (.cells #[.int .i64 9, .int .i64 0, .int .i64 i2, .int .i64 0, .int .i64 i4, .int .i64 i5, .int .i64 i6, .int .i64 i7, .int .i64 i8, .int .i64 i9, .int .i64 i10, .int .i64 i11, .slice ao0 L0.length ac0, .slice ao1 L1.length ac1, .int .i64 i12] 32)).cell? ⟨w.heap.size, 3, none⟩ = some (.int .i64 0) := by go_cell
          have a4_1 : (w.alloc (.cells #[.int .i64 9, .int .i64 0, .int .i64 i2, .int .i64 0, .int .i64 i4, .int .i64 i5, .int .i64 i6, .int .i64 i7, .int .i64 i8, .int .i64 i9, .int .i64 i10, .int .i64 i11, .slice ao0 L0.length ac0, .slice ao1 L1.length ac1, .int .i64 i12] 32)).cell? ⟨w.heap.size, 4, none⟩ = some (.int .i64 i4) := by go_cell
          have a5_1 : (w.alloc (.cells #[.int .i64 9, .int .i64 0, .int .i64 i2, .int .i64 0, .int .i64 i4, .int .i64 i5, .int .i64 i6, .int .i64 i7, .int .i64 i8, .int .i64 i9, .int .i64 i10, .int .i64 i11, .slice ao0 L0.length ac0, .slice ao1 L1.length ac1, .int .i64 i12] 32)).cell? ⟨w.heap.size, 5, none⟩ = some (.int .i64 i5) := by go_cell
          have a6_1 : (w.alloc (.cells #[.int .i64 9, .int .i64 0, .int .i64 i2, .int .i64 0, .int .i64 i4, .int .i64 i5, .int .i64 i6, .int .i64 i7, .int .i64 i8, .int .i64 i9, .int .i64 i10, .int .i64 i11, .slice ao0 L0.length ac0, .slice ao1 L1.length ac1, .int .i64 i12] 32)).cell? ⟨w.heap.size, 6, none⟩ = some (.int .i64 i6) := by go_cell
          have a7_1 : (w.alloc (.cells #[.int .i64 9, .int .i64 0, .int .i64 i2, .int .i64 0, .int .i64 i4, .int .i64 i5, .int .i64 i6, .int .i64 i7, .int .i64 i8, .int .i64 i9, .int .i64 i10, .int .i64 i11, .slice ao0 L0.length ac0, .slice ao1 L1.length ac1, .int .i64 i12] 32)).cell? ⟨w.heap.size, 7, none⟩ = some (.int .i64 i7) := by go_cell
          have a8_1 : (w.alloc (.cells #[.int .i64 9, .int .i64 0, .int .i64 i2, .int .i64 0, .int .i64 i4, .int .i64 i5, .int .i64 i6, .int .i64 i7, .int .i64 i8, .int .i64 i9, .int .i64 i10, .int .i64 i11, .slice ao0 L0.length ac0, .slice ao1 L1.length ac1, .int .i64 i12] 32)).cell? ⟨w.heap.size, 8, none⟩ = some (.int .i64 i8) := by go_cell
          have a9_1 : (w.alloc (.cells #[.int .i64 9, .int .i64 0, .int .i64 i2, .int .i64 0, .int .i64 i4, .int .i64 i5, .int .i64 i6, .int .i64 i7, .int .i64 i8, .int .i64 i9, .int .i64 i10, .int .i64 i11, .slice ao0 L0.length ac0, .slice ao1 L1.length ac1, .int .i64 i12] 32)).cell? ⟨w.heap.size, 9, none⟩ = some (.int .i64 i9) := by go_cell
          have a10_1 : (w.alloc (.cells #[.int .i64 9, .int .i64 0, .int .i64 i2, .int .i64 0, .int .i64 i4, .int .i64 i5, .int .i64 i6, .int .i64 i7, .int .i64 i8, .int .i64 i9, .int .i64 i10, .int .i64 i11, .slice ao0 L0.length ac0, .slice ao1 L1.length ac1, .int .i64 i12] 32)).cell? ⟨w.heap.size, 10, none⟩ = some (.int .i64 i10) := by go_cell
          have a11_1 : (w.alloc (.cells #[.int .i64 9, .int .i64 0, .int .i64 i2, .int .i64 0, .int .i64 i4, .int .i64 i5, .int .i64 i6, .int .i64 i7, .int .i64 i8, .int .i64 i9, .int .i64 i10, .int .i64 i11, .slice ao0 L0.length ac0, .slice ao1 L1.length ac1, .int .i64 i12] 32)).cell? ⟨w.heap.size, 11, none⟩ = some (.int .i64 i11) := by go_cell
          have a12_1 : (w.alloc (.cells #[.int .i64 9, .int .i64 0, .int .i64 i2, .int .i64 0, .int .i64 i4, .int .i64 i5, .int .i64 i6, .int .i64 i7, .int .i64 i8, .int .i64 i9, .int .i64 i10, .int .i64 i11, .slice ao0 L0.length ac0, .slice ao1 L1.length ac1, .int .i64 i12] 32)).cell? ⟨w.heap.size, 12, none⟩ = some (.slice ao0 L0.length ac0) := by go_cell
          have a13_1 : (w.alloc (.cells #[.int .i64 9, .int .i64 0, .int .i64 i2, .int .i64 0, .int .i64 i4, .int .i64 i5, .int .i64 i6, .int .i64 i7, .int .i64 i8, .int .i64 i9, .int .i64 i10, .int .i64 i11, .slice ao0 L0.length ac0, .slice ao1 L1.length ac1, .int .i64 i12] 32)).cell? ⟨w.heap.size, 13, none⟩ = some (.slice ao1 L1.length ac1) := by go_cell
          have a14_1 : (w.alloc (.cells #[.int .i64 9, .int .i64 0, .int .i64 i2, .int .i64 0, .int .i64 i4, .int .i64 i5, .int .i64 i6, .int .i64 i7, .int .i64 i8, .int .i64 i9, .int .i64 i10, .int .i64 i11, .slice ao0 L0.length ac0, .slice ao1 L1.length ac1, .int .i64 i12] 32)).cell? ⟨w.heap.size, 14, none⟩ = some (.int .i64 i12) := by go_cell
          have al_1 : w.heap.size < (w.alloc (.cells #[.int .i64 9, .int .i64 0, .int .i64 i2, .int .i64 0, .int .i64 i4, .int .i64 i5, .int .i64 i6, .int .i64 i7, .int .i64 i8, .int .i64 i9, .int .i64 i10, .int .i64 i11, .slice ao0 L0.length ac0, .slice ao1 L1.length ac1, .int .i64 i12] 32)).heap.size := by first | (simp; done) | (simp; omega)
          have c1 : Below w.heap.size w (w.alloc (.cells #[.int .i64 9, .int .i64 0, .int .i64 i2, .int .i64 0, .int .i64 i4, .int .i64 i5, .int .i64 i6, .int .i64 i7, .int .i64 i8, .int .i64 i9, .int .i64 i10, .int .i64 i11, .slice ao0 L0.length ac0, .slice ao1 L1.length ac1, .int .i64 i12] 32)) := by go_grown
          have s1 : (w.alloc (.cells #[.int .i64 9, .int .i64 0, .int .i64 i2, .int .i64 0, .int .i64 i4, .int .i64 i5, .int .i64 i6, .int .i64 i7, .int .i64 i8, .int .i64 i9, .int .i64 i10, .int .i64 i11, .slice ao0 L0.length ac0, .slice ao1 L1.length ac1, .int .i64 i12] 32)).heap.size = w.heap.size + 1 := by simp
          generalize (w.alloc (.cells #[.int .i64 9, .int .i64 0, .int .i64 i2, .int .i64 0, .int .i64 i4, .int .i64 i5, .int .i64 i6, .int .i64 i7, .int .i64 i8, .int .i64 i9, .int .i64 i10, .int .i64 i11, .slice ao0 L0.length ac0, .slice ao1 L1.length ac1, .int .i64 i12] 32)) = w1 at a0_1 a1_1 a2_1 a3_1 a4_1 a5_1 a6_1 a7_1 a8_1 a9_1 a10_1 a11_1 a12_1 a13_1 a14_1 al_1 c1 s1 ⊢
          have qa0_1 := cell_regrown a0_1
          have qa1_1 := cell_regrown a1_1
          have qa2_1 := cell_regrown a2_1
          have qa3_1 := cell_regrown a3_1
          have qa4_1 := cell_regrown a4_1
          have qa5_1 := cell_regrown a5_1
          have qa6_1 := cell_regrown a6_1
          have qa7_1 := cell_regrown a7_1
          have qa8_1 := cell_regrown a8_1
          have qa9_1 := cell_regrown a9_1
          have qa10_1 := cell_regrown a10_1
          have qa11_1 := cell_regrown a11_1
          have qa12_1 := cell_regrown a12_1
          have qa13_1 := cell_regrown a13_1
          have qa14_1 := cell_regrown a14_1
          refine (need_no _ (HE.out.later c1)).mono ?_
          rintro e wz ⟨⟨t, v, rfl⟩, rfl⟩
          exact ⟨rfl, Or.inr ⟨(by first | (simp [numsM]; done) | (simp_all [numsM]; done) | (simp [numsM]; omega) | (simp_all [numsM]; omega)), t, v, rfl⟩, c1⟩
      · have hn : (i3 == 0) = false := by simpa using hi
        go_enter Tryz.func73, Tryz.ntmps73
        go_wp2_with fail
        have a0_1 : (w.alloc (.cells #[.int .i64 9, .int .i64 0, .int .i64 i2, .int .i64 i3, .int .i64 i4, .int .i64 i5, .int .i64 i6, .int .i64 i7, .int .i64 i8, .int .i64 i9, .int .i64 i10, .int .i64 i11, .slice ao0 L0.length ac0, .slice ao1 L1.length ac1, .int .i64 i12] 32)).cell? ⟨w.heap.size, 0, none⟩ = some (.int .i64 9) := by go_cell
        have a1_1 : (w.alloc (.cells #[.int .i64 9, .int .i64 0, .int .i64 i2, .int .i64 i3, .int .i64 i4, .int .i64 i5, .int .i64 i6, .int .i64 i7, .int .i64 i8, .int .i64 i9, .int .i64 i10, .int .i64 i11, .slice ao0 L0.length ac0, .slice ao1 L1.length ac1, .int .i64 i12] 32)).cell? ⟨w.heap.size, 1, none⟩ = some (.int .i64 0) := by go_cell
        have a2_1 : (w.alloc (.cells #[.int .i64 9, .int .i64 0, .int .i64 i2, .int .i64 i3, .int .i64 i4, .int .i64 i5, .int .i64 i6, .int .i64 i7, .int .i64 i8, .int .i64 i9, .int .i64 i10, .int .i64 i11, .slice ao0 L0.length ac0, .slice ao1 L1.length ac1, .int .i64 i12] 32)).cell? ⟨w.heap.size, 2, none⟩ = some (.int .i64 i2) := by go_cell
        have a3_1 : (w.alloc (.cells #[.int .i64 9, .int .i64 0, .int .i64 i2, .int .i64 i3, .int .i64 i4, .int .i64 i5, .int .i64 i6, .int .i64 i7, .int .i64 i8, .int .i64 i9, .int .i64 i10, .int .i64 i11, .slice ao0 L0.length ac0, .slice ao1 L1.length ac1, .int .i64 i12] 32)).cell? ⟨w.heap.size, 3, none⟩ = some (.int .i64 i3) := by go_cell
        have a4_1 : (w.alloc (.cells #[.int .i64 9, .int .i64 0, .int .i64 i2, .int .i64 i3, .int .i64 i4, .int .i64 i5, .int .i64 i6, .int .i64 i7, .int .i64 i8, .int .i64 i9, .int .i64 i10, .int .i64 i11, .slice ao0 L0.length ac0, .slice ao1 L1.length ac1, .int .i64 i12] 32)).cell? ⟨w.heap.size, 4, none⟩ = some (.int .i64 i4) := by go_cell
        have a5_1 : (w.alloc (.cells #[.int .i64 9, .int .i64 0, .int .i64 i2, .int .i64 i3, .int .i64 i4, .int .i64 i5, .int .i64 i6, .int .i64 i7, .int .i64 i8, .int .i64 i9, .int .i64 i10, .int .i64 i11, .slice ao0 L0.length ac0, .slice ao1 L1.length ac1, .int .i64 i12] 32)).cell? ⟨w.heap.size, 5, none⟩ = some (.int .i64 i5) := by go_cell
        have a6_1 : (w.alloc (.cells #[.int .i64 9, .int .i64 0, .int .i64 i2, .int .i64 i3, .int .i64 i4, .int .i64 i5, .int .i64 i6, .int .i64 i7, .int .i64 i8, .int .i64 i9, .int .i64 i10, .int .i64 i11, .slice ao0 L0.length ac0, .slice ao1 L1.length ac1, .int .i64 i12] 32)).cell? ⟨w.heap.size, 6, none⟩ = some (.int .i64 i6) := by go_cell
        have a7_1 : (w.alloc (.cells #[.int .i64 9, .int .i64 0, .int .i64 i2, .int .i64 i3, .int .i64 i4, .int .i64 i5, .int .i64 i6, .int .i64 i7, .int .i64 i8, .int .i64 i9, .int .i64 i10, .int .i64 i11, .slice ao0 L0.length ac0, .slice ao1 L1.length ac1, .int .i64 i12] 32)).cell? ⟨w.heap.size, 7, none⟩ = some (.int .i64 i7) := by go_cell
        have a8_1 : (w.alloc (.cells #[.int .i64 9, .int .i64 0, .int .i64 i2, .int .i64 i3, .int .i64 i4, .int .i64 i5, .int .i64 i6, .int .i64 i7, .int .i64 i8, .int .i64 i9, .int .i64 i10, .int .i64 i11, .slice ao0 L0.length ac0, .slice ao1 L1.length ac1, .int .i64 i12] 32)).cell? ⟨w.heap.size, 8, none⟩ = some (.int .i64 i8) := by go_cell
        have a9_1 : (w.alloc (.cells #[.int .i64 9, .int .i64 0, .int .i64 i2, .int .i64 i3, .int .i64 i4, .int .i64 i5, .int .i64 i6, .int .i64 i7, .int .i64 i8, .int .i64 i9, .int .i64 i10, .int .i64 i11, .slice ao0 L0.length ac0, .slice ao1 L1.length ac1, .int .i64 i12] 32)).cell? ⟨w.heap.size, 9, none⟩ = some (.int .i64 i9) := by go_cell
        have a10_1 : (w.alloc (.cells #[.int .i64 9, .int .i64 0, .int .i64 i2, .int .i64 i3, .int .i64 i4, .int .i64 i5, .int .i64 i6, .int .i64 i7, .int .i64 i8, .int .i64 i9, .int .i64 i10, .int .i64 i11, .slice ao0 L0.length ac0, .slice ao1 L1.length ac1, .int .i64 i12] 32)).cell? ⟨w.heap.size, 10, none⟩ = some (.int .i64 i10) := by go_cell
        have a11_1 : (w.alloc (.cells #[.int .i64 9, .int .i64 0, .int .i64 i2, .int .i64 i3, .int .i64 i4, .int .i64 i5, .int .i64 i6, .int .i64 i7, .int .i64 i8, .int .i64 i9, .int .i64 i10, .int .i64 i11, .slice ao0 L0.length ac0, .slice ao1 L1.length ac1, .int .i64 i12] 32)).cell? ⟨w.heap.size, 11, none⟩ = some (.int .i64 i11) := by go_cell
        have a12_1 : (w.alloc (.cells #[.int .i64 9, .int .i64 0, .int .i64 i2, .int .i64 i3, .int .i64 i4, .int .i64 i5, .int .i64 i6, .int .i64 i7, .int .i64 i8, .int .i64 i9, .int .i64 i10, .int .i64 i11, .slice ao0 L0.length ac0, .slice ao1 L1.length ac1, .int .i64 i12] 32)).cell? ⟨w.heap.size, 12, none⟩ = some (.slice ao0 L0.length ac0) := by go_cell
        have a13_1 : (w.alloc (.cells #[.int .i64 9, .int .i64 0, .int .i64 i2, .int .i64 i3, .int .i64 i4, .int .i64 i5, .int .i64 i6, .int .i64 i7, .int .i64 i8, .int .i64 i9, .int .i64 i10, .int .i64 i11, .slice ao0 L0.length ac0, .slice ao1 L1.length ac1, .int .i64 i12] 32)).cell? ⟨w.heap.size, 13, none⟩ = some (.slice ao1 L1.length ac1) := by go_cell
        have a14_1 : (w.alloc (.cells #[.int .i64 9, .int .i64 0, .int .i64 i2, .int .i64 i3, .int .i64 i4, .int .i64 i5, .int .i64 i6, .int .i64 i7, .int .i64 i8, .int .i64 i9, .int .i64 i10, .int .i64 i11, .slice ao0 L0.length ac0, .slice ao1 L1.length ac1, .int .i64 i12] 32)).cell? ⟨w.heap.size, 14, none⟩ = some (.int .i64 i12) := by go_cell
        have al_1 : w.heap.size < (w.alloc (.cells #[.int .i64 9, .int .i64 0, .int .i64 i2, .int .i64 i3, .int .i64 i4, .int .i64 i5, .int .i64 i6, .int .i64 i7, .int .i64 i8, .int .i64 i9, .int .i64 i10, .int .i64 i11, .slice ao0 L0.length ac0, .slice ao1 L1.length ac1, .int .i64 i12] 32)).heap.size := by first | (simp; done) | (simp; omega)
        have c1 : Below w.heap.size w (w.alloc (.cells #[.int .i64 9, .int .i64 0, .int .i64 i2, .int .i64 i3, .int .i64 i4, .int .i64 i5, .int .i64 i6, .int .i64 i7, .int .i64 i8, .int .i64 i9, .int .i64 i10, .int .i64 i11, .slice ao0 L0.length ac0, .slice ao1 L1.length ac1, .int .i64 i12] 32)) := by go_grown
        have s1 : (w.alloc (.cells #[.int .i64 9, .int .i64 0, .int .i64 i2, .int .i64 i3, .int .i64 i4, .int .i64 i5, .int .i64 i6, .int .i64 i7, .int .i64 i8, .int .i64 i9, .int .i64 i10, .int .i64 i11, .slice ao0 L0.length ac0, .slice ao1 L1.length ac1, .int .i64 i12] 32)).heap.size = w.heap.size + 1 := by simp
        generalize (w.alloc (.cells #[.int .i64 9, .int .i64 0, .int .i64 i2, .int .i64 i3, .int .i64 i4, .int .i64 i5, .int .i64 i6, .int .i64 i7, .int .i64 i8, .int .i64 i9, .int .i64 i10, .int .i64 i11, .slice ao0 L0.length ac0, .slice ao1 L1.length ac1, .int .i64 i12] 32)) = w1 at a0_1 a1_1 a2_1 a3_1 a4_1 a5_1 a6_1 a7_1 a8_1 a9_1 a10_1 a11_1 a12_1 a13_1 a14_1 al_1 c1 s1 ⊢
        have qa0_1 := cell_regrown a0_1
        have qa1_1 := cell_regrown a1_1
        have qa2_1 := cell_regrown a2_1
        have qa3_1 := cell_regrown a3_1
        have qa4_1 := cell_regrown a4_1
        have qa5_1 := cell_regrown a5_1
        have qa6_1 := cell_regrown a6_1
        have qa7_1 := cell_regrown a7_1
        have qa8_1 := cell_regrown a8_1
        have qa9_1 := cell_regrown a9_1
        have qa10_1 := cell_regrown a10_1
        have qa11_1 := cell_regrown a11_1
        have qa12_1 := cell_regrown a12_1
        have qa13_1 := cell_regrown a13_1
        have qa14_1 := cell_regrown a14_1
        refine (need_no _ (HE.out.later c1)).mono ?_
        rintro e wz ⟨⟨t, v, rfl⟩, rfl⟩
        exact ⟨rfl, Or.inr ⟨(by first | (simp [numsM]; done) | (simp_all [numsM]; done) | (simp [numsM]; omega) | (simp_all [numsM]; omega)), t, v, rfl⟩, c1⟩
    · have hn : (i1 == 0) = false := by simpa using ht
      go_enter Tryz.func73, Tryz.ntmps73
      go_wp2_with fail
      have a0_1 : (w.alloc (.cells #[.int .i64 9, .int .i64 i1, .int .i64 i2, .int .i64 i3, .int .i64 i4, .int .i64 i5, .int .i64 i6, .int .i64 i7, .int .i64 i8, .int .i64 i9, .int .i64 i10, .int .i64 i11, .slice ao0 L0.length ac0, .slice ao1 L1.length ac1, .int .i64 i12] 32)).cell? ⟨w.heap.size, 0, none⟩ = some (.int .i64 9) := by go_cell
      have a1_1 : (w.alloc (.cells #[.int .i64 9, .int .i64 i1, .int .i64 i2, .int .i64 i3, .int .i64 i4, .int .i64 i5, .int .i64 i6, .int .i64 i7, .int .i64 i8, .int .i64 i9, .int .i64 i10, .int .i64 i11, .slice ao0 L0.length ac0, .slice ao1 L1.length ac1, .int .i64 i12] 32)).cell? ⟨w.heap.size, 1, none⟩ = some (.int .i64 i1) := by go_cell
      have a2_1 : (w.alloc (.cells #[.int .i64 9, .int .i64 i1, .int .i64 i2, .int .i64 i3, .int .i64 i4, .int .i64 i5, .int .i64 i6, .int .i64 i7, .int .i64 i8, .int .i64 i9, .int .i64 i10, .int .i64 i11, .slice ao0 L0.length ac0, .slice ao1 L1.length ac1, .int .i64 i12] 32)).cell? ⟨w.heap.size, 2, none⟩ = some (.int .i64 i2) := by go_cell
      have a3_1 : (w.alloc (.cells #[.int .i64 9, .int .i64 i1, .int .i64 i2, .int .i64 i3, .int .i64 i4, .int .i64 i5, .int .i64 i6, .int .i64 i7, .int .i64 i8, .int .i64 i9, .int .i64 i10, .int .i64 i11, .slice ao0 L0.length ac0, .slice ao1 L1.length ac1, .int .i64 i12] 32)).cell? ⟨w.heap.size, 3, none⟩ = some (.int .i64 i3) := by go_cell
      have a4_1 : (w.alloc (.cells #[.int .i64 9, .int .i64 i1, .int .i64 i2, .int .i64 i3, .int .i64 i4, .int .i64 i5, .int .i64 i6, .int .i64 i7, .int .i64 i8, .int .i64 i9, .int .i64 i10, .int .i64 i11, .slice ao0 L0.length ac0, .slice ao1 L1.length ac1, .int .i64 i12] 32)).cell? ⟨w.heap.size, 4, none⟩ = some (.int .i64 i4) := by go_cell
      have a5_1 : (w.alloc (.cells #[.int .i64 9, .int .i64 i1, .int .i64 i2, .int .i64 i3, .int .i64 i4, .int .i64 i5, .int .i64 i6, .int .i64 i7, .int .i64 i8, .int .i64 i9, .int .i64 i10, .int .i64 i11, .slice ao0 L0.length ac0, .slice ao1 L1.length ac1, .int .i64 i12] 32)).cell? ⟨w.heap.size, 5, none⟩ = some (.int .i64 i5) := by go_cell
      have a6_1 : (w.alloc (.cells #[.int .i64 9, .int .i64 i1, .int .i64 i2, .int .i64 i3, .int .i64 i4, .int .i64 i5, .int .i64 i6, .int .i64 i7, .int .i64 i8, .int .i64 i9, .int .i64 i10, .int .i64 i11, .slice ao0 L0.length ac0, .slice ao1 L1.length ac1, .int .i64 i12] 32)).cell? ⟨w.heap.size, 6, none⟩ = some (.int .i64 i6) := by go_cell
      have a7_1 : (w.alloc (.cells #[.int .i64 9, .int .i64 i1, .int .i64 i2, .int .i64 i3, .int .i64 i4, .int .i64 i5, .int .i64 i6, .int .i64 i7, .int .i64 i8, .int .i64 i9, .int .i64 i10, .int .i64 i11, .slice ao0 L0.length ac0, .slice ao1 L1.length ac1, .int .i64 i12] 32)).cell? ⟨w.heap.size, 7, none⟩ = some (.int .i64 i7) := by go_cell
      have a8_1 : (w.alloc (.cells #[.int .i64 9, .int .i64 i1, .int .i64 i2, .int .i64 i3, .int .i64 i4, .int .i64 i5, .int .i64 i6, .int .i64 i7, .int .i64 i8, .int .i64 i9, .int .i64 i10, .int .i64 i11, .slice ao0 L0.length ac0, .slice ao1 L1.length ac1, .int .i64 i12] 32)).cell? ⟨w.heap.size, 8, none⟩ = some (.int .i64 i8) := by go_cell
      have a9_1 : (w.alloc (.cells #[.int .i64 9, .int .i64 i1, .int .i64 i2, .int .i64 i3, .int .i64 i4, .int .i64 i5, .int .i64 i6, .int .i64 i7, .int .i64 i8, .int .i64 i9, .int .i64 i10, .int .i64 i11, .slice ao0 L0.length ac0, .slice ao1 L1.length ac1, .int .i64 i12] 32)).cell? ⟨w.heap.size, 9, none⟩ = some (.int .i64 i9) := by go_cell
      have a10_1 : (w.alloc (.cells #[.int .i64 9, .int .i64 i1, .int .i64 i2, .int .i64 i3, .int .i64 i4, .int .i64 i5, .int .i64 i6, .int .i64 i7, .int .i64 i8, .int .i64 i9, .int .i64 i10, .int .i64 i11, .slice ao0 L0.length ac0, .slice ao1 L1.length ac1, .int .i64 i12] 32)).cell? ⟨w.heap.size, 10, none⟩ = some (.int .i64 i10) := by go_cell
      have a11_1 : (w.alloc (.cells #[.int .i64 9, .int .i64 i1, .int .i64 i2, .int .i64 i3, .int .i64 i4, .int .i64 i5, .int .i64 i6, .int .i64 i7, .int .i64 i8, .int .i64 i9, .int .i64 i10, .int .i64 i11, .slice ao0 L0.length ac0, .slice ao1 L1.length ac1, .int .i64 i12] 32)).cell? ⟨w.heap.size, 11, none⟩ = some (.int .i64 i11) := by go_cell
      have a12_1 : (w.alloc (.cells #[.int .i64 9, .int .i64 i1, .int .i64 i2, .int .i64 i3, .int .i64 i4, .int .i64 i5, .int .i64 i6, .int .i64 i7, .int .i64 i8, .int .i64 i9, .int .i64 i10, .int .i64 i11, .slice ao0 L0.length ac0, .slice ao1 L1.length ac1, .int .i64 i12] 32)).cell? ⟨w.heap.size, 12, none⟩ = some (.slice ao0 L0.length ac0) := by go_cell
      have a13_1 : (w.alloc (.cells #[.int .i64 9, .int .i64 i1, .int .i64 i2, .int .i64 i3, .int .i64 i4, .int .i64 i5, .int .i64 i6, .int .i64 i7, .int .i64 i8, .int .i64 i9, .int .i64 i10, .int .i64 i11, .slice ao0 L0.length ac0, .slice ao1 L1.length ac1, .int .i64 i12] 32)).cell? ⟨w.heap.size, 13, none⟩ = some (.slice ao1 L1.length ac1) := by go_cell
      have a14_1 : (w.alloc (.cells #[.int .i64 9, .int .i64 i1, .int .i64 i2, .int .i64 i3, .int .i64 i4, .int .i64 i5, .int .i64 i6, .int .i64 i7, .int .i64 i8, .int .i64 i9, .int .i64 i10, .int .i64 i11, .slice ao0 L0.length ac0, .slice ao1 L1.length ac1, .int .i64 i12] 32)).cell? ⟨w.heap.size, 14, none⟩ = some (.int .i64 i12) := by go_cell
      have al_1 : w.heap.size < (w.alloc (.cells #[.int .i64 9, .int .i64 i1, .int .i64 i2, .int .i64 i3, .int .i64 i4, .int .i64 i5, .int .i64 i6, .int .i64 i7, .int .i64 i8, .int .i64 i9, .int .i64 i10, .int .i64 i11, .slice ao0 L0.length ac0, .slice ao1 L1.length ac1, .int .i64 i12] 32)).heap.size := by first | (simp; done) | (simp; omega)
      have c1 : Below w.heap.size w (w.alloc (.cells #[.int .i64 9, .int .i64 i1, .int .i64 i2, .int .i64 i3, .int .i64 i4, .int .i64 i5, .int .i64 i6, .int .i64 i7, .int .i64 i8, .int .i64 i9, .int .i64 i10, .int .i64 i11, .slice ao0 L0.length ac0, .slice ao1 L1.length ac1, .int .i64 i12] 32)) := by go_grown
      have s1 : (w.alloc (.cells #[.int .i64 9, .int .i64 i1, .int .i64 i2, .int .i64 i3, .int .i64 i4, .int .i64 i5, .int .i64 i6, .int .i64 i7, .int .i64 i8, .int .i64 i9, .int .i64 i10, .int .i64 i11, .slice ao0 L0.length ac0, .slice ao1 L1.length ac1, .int .i64 i12] 32)).heap.size = w.heap.size + 1 := by simp
      generalize (w.alloc (.cells #[.int .i64 9, .int .i64 i1, .int .i64 i2, .int .i64 i3, .int .i64 i4, .int .i64 i5, .int .i64 i6, .int .i64 i7, .int .i64 i8, .int .i64 i9, .int .i64 i10, .int .i64 i11, .slice ao0 L0.length ac0, .slice ao1 L1.length ac1, .int .i64 i12] 32)) = w1 at a0_1 a1_1 a2_1 a3_1 a4_1 a5_1 a6_1 a7_1 a8_1 a9_1 a10_1 a11_1 a12_1 a13_1 a14_1 al_1 c1 s1 ⊢
      have qa0_1 := cell_regrown a0_1
      have qa1_1 := cell_regrown a1_1
      have qa2_1 := cell_regrown a2_1
      have qa3_1 := cell_regrown a3_1
      have qa4_1 := cell_regrown a4_1
      have qa5_1 := cell_regrown a5_1
      have qa6_1 := cell_regrown a6_1
      have qa7_1 := cell_regrown a7_1
      have qa8_1 := cell_regrown a8_1
      have qa9_1 := cell_regrown a9_1
      have qa10_1 := cell_regrown a10_1
      have qa11_1 := cell_regrown a11_1
      have qa12_1 := cell_regrown a12_1
      have qa13_1 := cell_regrown a13_1
      have qa14_1 := cell_regrown a14_1
      refine (need_no _ (HE.out.later c1)).mono ?_
      rintro e wz ⟨⟨t, v, rfl⟩, rfl⟩
      exact ⟨rfl, Or.inr ⟨(by first | (simp [numsM]; done) | (simp_all [numsM]; done) | (simp [numsM]; omega) | (simp_all [numsM]; omega)), t, v, rfl⟩, c1⟩
  by_cases h10 : i0 = 10
  case pos =>
    subst h10
    by_cases ht : i1 = 0
    · subst ht
      by_cases hi : i3 = 0
      · subst hi
        by_cases hs : 1 ≤ i4
        · have hn : decide (i4 ≥ 1) = true := by simpa using hs
          go_enter Tryz.func73, Tryz.ntmps73
          go_wp2_with fail
          have a0_1 : (w.alloc (.cells #[.int .i64 10, .int .i64 0, .int .i64 i2, .int .i64 0, .int .i64 i4, .int .i64 i5, .int .i64 i6, .int .i64 i7, .int .i64 i8, .int .i64 i9, .int .i64 i10, .int .i64 i11, .slice ao0 L0.length ac0, .slice ao1 L1.length ac1, .int .i64 i12] 32)).cell? ⟨w.heap.size, 0, none⟩ = some (.int .i64 10) := by go_cell
          have a1_1 : (w.alloc (.cells #[.int .i64 10, .int .i64 0, .int .i64 i2, .int .i64 0, .int .i64 i4, .int .i64 i5, .int .i64 i6, .int .i64 i7, .int .i64 i8, .int .i64 i9, .int .i64 i10, .int .i64 i11, .slice ao0 L0.length ac0, .slice ao1 L1.length ac1, .int .i64 i12] 32)).cell? ⟨w.heap.size, 1, none⟩ = some (.int .i64 0) := by go_cell
          have a2_1 : (w.alloc (.cells #[.int .i64 10, .int .i64 0, .int .i64 i2, .int .i64 0, .int .i64 i4, .int .i64 i5, .int .i64 i6, .int .i64 i7, .int .i64 i8, .int .i64 i9, .int .i64 i10, .int .i64 i11, .slice ao0 L0.length ac0, .slice ao1 L1.length ac1, .int .i64 i12] 32)).cell? ⟨w.heap.size, 2, none⟩ = some (.int .i64 i2) := by go_cell
          have a3_1 : (w.alloc (.cells #[.int .i64 10, .int .i64 0, .int .i64 i2, .int .i64 0, .int .i64 i4, .int .i64 i5, .int .i64 i6, .int .i64 i7, .int .i64 i8, .int .i64 i9, .int .i64 i10, .int .i64 i11, .slice ao0 L0.length ac0, .slice ao1 L1.length ac1, .int .i64 i12] 32)).cell? ⟨w.heap.size, 3, none⟩ = some (.int .i64 0) := by go_cell
          have a4_1 : (w.alloc (.cells #[.int .i64 10, .int .i64 0, .int .i64 i2, .int .i64 0, .int .i64 i4, .int .i64 i5, .int .i64 i6, .int .i64 i7, .int .i64 i8, .int .i64 i9, .int .i64 i10, .int .i64 i11, .slice ao0 L0.length ac0, .slice ao1 L1.length ac1, .int .i64 i12] 32)).cell? ⟨w.heap.size, 4, none⟩ = some (.int .i64 i4) := by go_cell
          have a5_1 : (w.alloc (.cells #[.int .i64 10, .int .i64 0, .int .i64 i2, .int .i64 0, .int .i64 i4, .int .i64 i5, .int .i64 i6, .int .i64 i7, .int .i64 i8, .int .i64 i9, .int .i64 i10, .int .i64 i11, .slice ao0 L0.length ac0, .slice ao1 L1.length ac1, .int .i64 i12] 32)).cell? ⟨w.heap.size, 5, none⟩ = some (.int .i64 i5) := by go_cell
          have a6_1 : (w.alloc (.cells #[.int .i64 10, .int .i64 0, .int .i64 i2, .int .i64 0, .int .i64 i4, .int .i64 i5, .int .i64 i6, .int .i64 i7, .int .i64 i8, .int .i64 i9, .int .i64 i10, .int .i64 i11, .slice ao0 L0.length ac0, .slice ao1 L1.length ac1, .int .i64 i12] 32)).cell? ⟨w.heap.size, 6, none⟩ = some (.int .i64 i6) := by go_cell
          have a7_1 : (w.alloc (.cells #[.int .i64 10, .int .i64 0, .int .i64 i2, .int .i64 0, .int .i64 i4, .int .i64 i5, .int .i64 i6, .int .i64 i7, .int .i64 i8, .int .i64 i9, .int .i64 i10, .int .i64 i11, .slice ao0 L0.length ac0, .slice ao1 L1.length ac1, .int .i64 i12] 32)).cell? ⟨w.heap.size, 7, none⟩ = some (.int .i64 i7) := by go_cell
          have a8_1 : (w.alloc (.cells #[.int .i64 10, .int .i64 0, .int .i64 i2, .int .i64 0, .int .i64 i4, .int .i64 i5, .int .i64 i6, .int .i64 i7, .int .i64 i8, .int .i64 i9, .int .i64 i10, .int .i64 i11, .slice ao0 L0.length ac0, .slice ao1 L1.length ac1, .int .i64 i12] 32)).cell? ⟨w.heap.size, 8, none⟩ = some (.int .i64 i8) := by go_cell
          have a9_1 : (w.alloc (.cells #[.int .i64 10, .int .i64 0, .int .i64 i2, .int .i64 0, .int .i64 i4, .int .i64 i5, .int .i64 i6, .int .i64 i7, .int .i64 i8, .int .i64 i9, .int .i64 i10, .int .i64 i11, .slice ao0 L0.length ac0, .slice ao1 L1.length ac1, .int .i64 i12] 32)).cell? ⟨w.heap.size, 9, none⟩ = some (.int .i64 i9) := by go_cell
          have a10_1 : (w.alloc (.cells #[.int .i64 10, .int .i64 0, .int .i64 i2, .int .i64 0, .int .i64 i4, .int .i64 i5, .int .i64 i6, .int .i64 i7, .int .i64 i8, .int .i64 i9, .int .i64 i10, .int .i64 i11, .slice ao0 L0.length ac0, .slice ao1 L1.length ac1, .int .i64 i12] 32)).cell? ⟨w.heap.size, 10, none⟩ = some (.int .i64 i10) := by go_cell
          have a11_1 : (w.alloc (.cells #[.int .i64 10, .int .i64 0, .int .i64 i2, .int .i64 0, .int .i64 i4, .int .i64 i5, .int .i64 i6, .int .i64 i7, .int .i64 i8, .int .i64 i9, .int .i64 i10, .int .i64 i11, .slice ao0 L0.length ac0, .slice ao1 L1.length ac1, .int .i64 i12] 32)).cell? ⟨w.heap.size, 11, none⟩ = some (.int .i64 i11) := by go_cell
          have a12_1 : (w.alloc (.cells #[.int .i64 10, .int .i64 0, .int .i64 i2, .int .i64 0, .int .i64 i4, .int .i64 i5, .int .i64 i6, .int .i64 i7, .int .i64 i8, .int .i64 i9, .int .i64 i10, .int .i64 i11, .slice ao0 L0.length ac0, .slice ao1 L1.length ac1, .int .i64 i12] 32)).cell? ⟨w.heap.size, 12, none⟩ = some (.slice ao0 L0.length ac0) := by go_cell
          have a13_1 : (w.alloc (.cells #[.int .i64 10, .int .i64 0, .int .i64 i2, .int .i64 0, .int .i64 i4, .int .i64 i5, .int .i64 i6, .int .i64 i7, .int .i64 i8, .int .i64 i9, .int .i64 i10, .int .i64 i11, .slice ao0 L0.length ac0, .slice ao1 L1.length ac1, .int .i64 i12] 32)).cell? ⟨w.heap.size, 13, none⟩ = some (.slice ao1 L1.length ac1) := by go_cell
          have a14_1 : (w.alloc (.cells #[.int .i64 10, .int .i64 0, .int .i64 i2, .int .i64 0, .int .i64 i4, .int .i64 i5, .int .i64 i6, .int .i64 i7, .int .i64 i8, .int .i64 i9, .int .i64 i10, .int .i64 i11, .slice ao0 L0.length ac0, .slice ao1 L1.length ac1, .int .i64 i12] 32)).cell? ⟨w.heap.size, 14, none⟩ = some (.int .i64 i12) := by go_cell
          have al_1 : w.heap.size < (w.alloc (.cells #[.int .i64 10, .int .i64 0, .int .i64 i2, .int .i64 0, .int .i64 i4, .int .i64 i5, .int .i64 i6, .int .i64 i7, .int .i64 i8, .int .i64 i9, .int .i64 i10, .int .i64 i11, .slice ao0 L0.length ac0, .slice ao1 L1.length ac1, .int .i64 i12] 32)).heap.size := by first | (simp; done) | (simp; omega)
          have c1 : Below w.heap.size w (w.alloc (.cells #[.int .i64 10, .int .i64 0, .int .i64 i2, .int .i64 0, .int .i64 i4, .int .i64 i5, .int .i64 i6, .int .i64 i7, .int .i64 i8, .int .i64 i9, .int .i64 i10, .int .i64 i11, .slice ao0 L0.length ac0, .slice ao1 L1.length ac1, .int .i64 i12] 32)) := by go_grown
          have s1 : (w.alloc (.cells #[.int .i64 10, .int .i64 0, .int .i64 i2, .int .i64 0, .int .i64 i4, .int .i64 i5, .int .i64 i6, .int .i64 i7, .int .i64 i8, .int .i64 i9, .int .i64 i10, .int .i64 i11, .slice ao0 L0.length ac0, .slice ao1 L1.length ac1, .int .i64 i12] 32)).heap.size = w.heap.size + 1 := by simp
          generalize (w.alloc (.cells #[.int .i64 10, .int .i64 0, .int .i64 i2, .int .i64 0, .int .i64 i4, .int .i64 i5, .int .i64 i6, .int .i64 i7, .int .i64 i8, .int .i64 i9, .int .i64 i10, .int .i64 i11, .slice ao0 L0.length ac0, .slice ao1 L1.length ac1, .int .i64 i12] 32)) = w1 at a0_1 a1_1 a2_1 a3_1 a4_1 a5_1 a6_1 a7_1 a8_1 a9_1 a10_1 a11_1 a12_1 a13_1 a14_1 al_1 c1 s1 ⊢
          have qa0_1 := cell_regrown a0_1
          have qa1_1 := cell_regrown a1_1
          have qa2_1 := cell_regrown a2_1
          have qa3_1 := cell_regrown a3_1
          have qa4_1 := cell_regrown a4_1
          have qa5_1 := cell_regrown a5_1
          have qa6_1 := cell_regrown a6_1
          have qa7_1 := cell_regrown a7_1
          have qa8_1 := cell_regrown a8_1
          have qa9_1 := cell_regrown a9_1
          have qa10_1 := cell_regrown a10_1
          have qa11_1 := cell_regrown a11_1
          have qa12_1 := cell_regrown a12_1
          have qa13_1 := cell_regrown a13_1
          have qa14_1 := cell_regrown a14_1
          refine (need_yes _).mono ?_
          rintro e wz ⟨rfl, hz⟩
          obtain rfl := hz.symm
          clear hz
          go_wp2_with fail
          exact ⟨rfl, .tuple #[], by simp [results, Tryz.results73, go_sem], Or.inl ⟨(by first | (simp [numsM]; done) | (simp_all [numsM]; done) | (simp [numsM]; omega) | (simp_all [numsM]; omega)), rfl⟩, c1⟩
        · have hn : decide (i4 ≥ 1) = false := by simpa using hs
          go_enter Tryz.func73, Tryz.ntmps73
          go_wp2_with fail
          have a0_1 : (w.alloc (.cells #[.int .i64 10, .int .i64 0, .int .i64 i2, .int .i64 0, .int .i64 i4, .int .i64 i5, .int .i64 i6, .int .i64 i7, .int .i64 i8, .int .i64 i9, .int .i64 i10, .int .i64 i11, .slice ao0 L0.length ac0, .slice ao1 L1.length ac1, .int .i64 i12] 32)).cell? ⟨w.heap.size, 0, none⟩ = some (.int .i64 10) := by go_cell
          have a1_1 : (w.alloc (.cells #[.int .i64 10, .int .i64 0, .int .i64 i2, .int .i64 0, .int .i64 i4, .int .i64 i5, .int .i64 i6, .int .i64 i7, .int .i64 i8, .int .i64 i9, .int .i64 i10, .int .i64 i11, .slice ao0 L0.length ac0, .slice ao1 L1.length ac1, .int .i64 i12] 32)).cell? ⟨w.heap.size, 1, none⟩ = some (.int .i64 0) := by go_cell
          have a2_1 : (w.alloc (.cells #[.int .i64 10, .int .i64 0, .int .i64 i2, .int .i64 0, .int .i64 i4, .int .i64 i5, .int .i64 i6, .int .i64 i7, .int .i64 i8, .int .i64 i9, .int .i64 i10, .int .i64 i11, .slice ao0 L0.length ac0, .slice ao1 L1.length ac1, .int .i64 i12] 32)).cell? ⟨w.heap.size, 2, none⟩ = some (.int .i64 i2) := by go_cell
          have a3_1 : (w.alloc (.cells #[.int .i64 10, .int .i64 0, .int .i64 i2, .int .i64 0, .int .i64 i4, .int .i64 i5, .int .i64 i6, .int .i64 i7, .int .i64 i8, .int .i64 i9, .int .i64 i10, .int .i64 i11, .slice ao0 L0.length ac0, .slice ao1 L1.length ac1, .int .i64 i12] 32)).cell? ⟨w.heap.size, 3, none⟩ = some (.int .i64 0) := by go_cell
          have a4_1 : (w.alloc (.cells #[.int .i64 10, .int .i64 0, .int .i64 i2, .int .i64 0, .int .i64 i4, .int .i64 i5, .int .i64 i6, .int .i64 i7, .int .i64 i8, .int .i64 i9, .int .i64 i10, .int .i64 i11, .slice ao0 L0.length ac0, .slice ao1 L1.length ac1, .int .i64 i12] 32)).cell? ⟨w.heap.size, 4, none⟩ = some (.int .i64 i4) := by go_cell
          have a5_1 : (w.alloc (.cells #[.int .i64 10, .int .i64 0, .int .i64 i2, .int .i64 0, .int .i64 i4, .int .i64 i5, .int .i64 i6, .int .i64 i7, .int .i64 i8, .int .i64 i9, .int .i64 i10, .int .i64 i11, .slice ao0 L0.length ac0, .slice ao1 L1.length ac1, .int .i64 i12] 32)).cell? ⟨w.heap.size, 5, none⟩ = some (.int .i64 i5) := by go_cell
          have a6_1 : (w.alloc (.cells #[.int .i64 10, .int .i64 0, .int .i64 i2, .int .i64 0, .int .i64 i4, .int .i64 i5, .int .i64 i6, .int .i64 i7, .int .i64 i8, .int .i64 i9, .int .i64 i10, .int .i64 i11, .slice ao0 L0.length ac0, .slice ao1 L1.length ac1, .int .i64 i12] 32)).cell? ⟨w.heap.size, 6, none⟩ = some (.int .i64 i6) := by go_cell
          have a7_1 : (w.alloc (.cells #[.int .i64 10, .int .i64 0, .int .i64 i2, .int .i64 0, .int .i64 i4, .int .i64 i5, .int .i64 i6, .int .i64 i7, .int .i64 i8, .int .i64 i9, .int .i64 i10, .int .i64 i11, .slice ao0 L0.length ac0, .slice ao1 L1.length ac1, .int .i64 i12] 32)).cell? ⟨w.heap.size, 7, none⟩ = some (.int .i64 i7) := by go_cell
          have a8_1 : (w.alloc (.cells #[.int .i64 10, .int .i64 0, .int .i64 i2, .int .i64 0, .int .i64 i4, .int .i64 i5, .int .i64 i6, .int .i64 i7, .int .i64 i8, .int .i64 i9, .int .i64 i10, .int .i64 i11, .slice ao0 L0.length ac0, .slice ao1 L1.length ac1, .int .i64 i12] 32)).cell? ⟨w.heap.size, 8, none⟩ = some (.int .i64 i8) := by go_cell
          have a9_1 : (w.alloc (.cells #[.int .i64 10, .int .i64 0, .int .i64 i2, .int .i64 0, .int .i64 i4, .int .i64 i5, .int .i64 i6, .int .i64 i7, .int .i64 i8, .int .i64 i9, .int .i64 i10, .int .i64 i11, .slice ao0 L0.length ac0, .slice ao1 L1.length ac1, .int .i64 i12] 32)).cell? ⟨w.heap.size, 9, none⟩ = some (.int .i64 i9) := by go_cell
          have a10_1 : (w.alloc (.cells #[.int .i64 10, .int .i64 0, .int .i64 i2, .int .i64 0, .int .i64 i4, .int .i64 i5, .int .i64 i6, .int .i64 i7, .int .i64 i8, .int .i64 i9, .int .i64 i10, .int .i64 i11, .slice ao0 L0.length ac0, .slice ao1 L1.length ac1, .int .i64 i12] 32)).cell? ⟨w.heap.size, 10, none⟩ = some (.int .i64 i10) := by go_cell
          have a11_1 : (w.alloc (.cells #[.int .i64 10, .int .i64 0, .int .i64 i2, .int .i64 0, .int .i64 i4, .int .i64 i5, .int .i64 i6, .int .i64 i7, .int .i64 i8, .int .i64 i9, .int .i64 i10, .int .i64 i11, .slice ao0 L0.length ac0, .slice ao1 L1.length ac1, .int .i64 i12] 32)).cell? ⟨w.heap.size, 11, none⟩ = some (.int .i64 i11) := by go_cell
          have a12_1 : (w.alloc (.cells #[.int .i64 10, .int .i64 0, .int .i64 i2, .int .i64 0, .int .i64 i4, .int .i64 i5, .int .i64 i6, .int .i64 i7, .int .i64 i8, .int .i64 i9, .int .i64 i10, .int .i64 i11, .slice ao0 L0.length ac0, .slice ao1 L1.length ac1, .int .i64 i12] 32)).cell? ⟨w.heap.size, 12, none⟩ = some (.slice ao0 L0.length ac0) := by go_cell
          have a13_1 : (w.alloc (.cells #[.int .i64 10, .int .i64 0, .int .i64 i2, .int .i64 0, .int .i64 i4, .int .i64 i5, .int .i64 i6, .int .i64 i7, .int .i64 i8, .int .i64 i9, .int .i64 i10, .int .i64 i11, .slice ao0 L0.length ac0, .slice ao1 L1.length ac1, .int .i64 i12] 32)).cell? ⟨w.heap.size, 13, none⟩ = some (.slice ao1 L1.length ac1) := by go_cell
          have a14_1 : (w.alloc (.cells #[.int .i64 10, .int .i64 0, .int .i64 i2, .int .i64 0, .int .i64 i4, .int .i64 i5, .int .i64 i6, .int .i64 i7, .int .i64 i8, .int .i64 i9, .int .i64 i10, .int .i64 i11, .slice ao0 L0.length ac0, .slice ao1 L1.length ac1, .int .i64 i12] 32)).cell? ⟨w.heap.size, 14, none⟩ = some (.int .i64 i12) := by go_cell
          have al_1 : w.heap.size < (w.alloc (.cells #[.int .i64 10, .int .i64 0, .int .i64 i2, .int .i64 0, .int .i64 i4, .int .i64 i5, .int .i64 i6, .int .i64 i7, .int .i64 i8, .int .i64 i9, .int .i64 i10, .int .i64 i11, .slice ao0 L0.length ac0, .slice ao1 L1.length ac1, .int .i64 i12] 32)).heap.size := by first | (simp; done) | (simp; omega)
          have c1 : Below w.heap.size w (w.alloc (.cells #[.int .i64 10, .int .i64 0, .int .i64 i2, .int .i64 0, .int .i64 i4, .int .i64 i5, .int .i64 i6, .int .i64 i7, .int .i64 i8, .int .i64 i9, .int .i64 i10, .int .i64 i11, .slice ao0 L0.length ac0, .slice ao1 L1.length ac1, .int .i64 i12] 32)) := by go_grown
          have s1 : (w.alloc (.cells #[.int .i64 10, .int .i64 0, .int .i64 i2, .int .i64 0, .int .i64 i4, .int .i64 i5, .int .i64 i6, .int .i64 i7, .int .i64 i8, .int .i64 i9, .int .i64 i10, .int .i64 i11, .slice ao0 L0.length ac0, .slice ao1 L1.length ac1, .int .i64 i12] 32)).heap.size = w.heap.size + 1 := by simp
          generalize (w.alloc (.cells #[.int .i64 10, .int .i64 0, .int .i64 i2, .int .i64 0, .int .i64 i4, .int .i64 i5, .int .i64 i6, .int .i64 i7, .int .i64 i8, .int .i64 i9, .int .i64 i10, .int .i64 i11, .slice ao0 L0.length ac0, .slice ao1 L1.length ac1, .int .i64 i12] 32)) = w1 at a0_1 a1_1 a2_1 a3_1 a4_1 a5_1 a6_1 a7_1 a8_1 a9_1 a10_1 a11_1 a12_1 a13_1 a14_1 al_1 c1 s1 ⊢
          have qa0_1 := cell_regrown a0_1
          have qa1_1 := cell_regrown a1_1
          have qa2_1 := cell_regrown a2_1
          have qa3_1 := cell_regrown a3_1
          have qa4_1 := cell_regrown a4_1
          have qa5_1 := cell_regrown a5_1
          have qa6_1 := cell_regrown a6_1
          have qa7_1 := cell_regrown a7_1
          have qa8_1 := cell_regrown a8_1
          have qa9_1 := cell_regrown a9_1
          have qa10_1 := cell_regrown a10_1
          have qa11_1 := cell_regrown a11_1
          have qa12_1 := cell_regrown a12_1
          have qa13_1 := cell_regrown a13_1
          have qa14_1 := cell_regrown a14_1
          refine (need_no _ (HE.out.later c1)).mono ?_
          rintro e wz ⟨⟨t, v, rfl⟩, rfl⟩
          exact ⟨rfl, Or.inr ⟨(by first | (simp [numsM]; done) | (simp_all [numsM]; done) | (simp [numsM]; omega) | (simp_all [numsM]; omega)), t, v, rfl⟩, c1⟩
      · have hn : (i3 == 0) = false := by simpa using hi
        go_enter Tryz.func73, Tryz.ntmps73
        go_wp2_with fail
        have a0_1 : (w.alloc (.cells #[.int .i64 10, .int .i64 0, .int .i64 i2, .int .i64 i3, .int .i64 i4, .int .i64 i5, .int .i64 i6, .int .i64 i7, .int .i64 i8, .int .i64 i9, .int .i64 i10, .int .i64 i11, .slice ao0 L0.length ac0, .slice ao1 L1.length ac1, .int .i64 i12] 32)).cell? ⟨w.heap.size, 0, none⟩ = some (.int .i64 10) := by go_cell
        have a1_1 : (w.alloc (.cells #[.int .i64 10, .int .i64 0, .int .i64 i2, .int .i64 i3, .int .i64 i4, .int .i64 i5, .int .i64 i6, .int .i64 i7, .int .i64 i8, .int .i64 i9, .int .i64 i10, .int .i64 i11, .slice ao0 L0.length ac0, .slice ao1 L1.length ac1, .int .i64 i12] 32)).cell? ⟨w.heap.size, 1, none⟩ = some (.int .i64 0) := by go_cell
        have a2_1 : (w.alloc (.cells #[.int .i64 10, .int .i64 0, .int .i64 i2, .int .i64 i3, .int .i64 i4, .int .i64 i5, .int .i64 i6, .int .i64 i7, .int .i64 i8, .int .i64 i9, .int .i64 i10, .int .i64 i11, .slice ao0 L0.length ac0, .slice ao1 L1.length ac1, .int .i64 i12] 32)).cell? ⟨w.heap.size, 2, none⟩ = some (.int .i64 i2) := by go_cell
        have a3_1 : (w.alloc (.cells #[.int .i64 10, .int .i64 0, .int .i64 i2, .int .i64 i3, .int .i64 i4, .int .i64 i5, .int .i64 i6, .int .i64 i7, .int .i64 i8, .int .i64 i9, .int .i64 i10, .int .i64 i11, .slice ao0 L0.length ac0, .slice ao1 L1.length ac1, .int .i64 i12] 32)).cell? ⟨w.heap.size, 3, none⟩ = some (.int .i64 i3) := by go_cell
        have a4_1 : (w.alloc (.cells #[.int .i64 10, .int .i64 0, .int .i64 i2, .int .i64 i3, .int .i64 i4, .int .i64 i5, .int .i64 i6, .int .i64 i7, .int .i64 i8, .int .i64 i9, .int .i64 i10, .int .i64 i11, .slice ao0 L0.length ac0, .slice ao1 L1.length ac1, .int .i64 i12] 32)).cell? ⟨w.heap.size, 4, none⟩ = some (.int .i64 i4) := by go_cell
        have a5_1 : (w.alloc (.cells #[.int .i64 10, .int .i64 0, .int .i64 i2, .int .i64 i3, .int .i64 i4, .int .i64 i5, .int .i64 i6, .int .i64 i7, .int .i64 i8, .int .i64 i9, .int .i64 i10, .int .i64 i11, .slice ao0 L0.length ac0, .slice ao1 L1.length ac1, .int .i64 i12] 32)).cell? ⟨w.heap.size, 5, none⟩ = some (.int .i64 i5) := by go_cell
        have a6_1 : (w.alloc (.cells #[.int .i64 10, .int .i64 0, .int .i64 i2, .int .i64 i3, .int .i64 i4, .int .i64 i5, .int .i64 i6, .int .i64 i7, .int .i64 i8, .int .i64 i9, .int .i64 i10, .int .i64 i11, .slice ao0 L0.length ac0, .slice ao1 L1.length ac1, .int .i64 i12] 32)).cell? ⟨w.heap.size, 6, none⟩ = some (.int .i64 i6) := by go_cell
        have a7_1 : (w.alloc (.cells #[.int .i64 10, .int .i64 0, .int .i64 i2, .int .i64 i3, .int .i64 i4, .int .i64 i5, .int .i64 i6, .int .i64 i7, .int .i64 i8, .int .i64 i9, .int .i64 i10, .int .i64 i11, .slice ao0 L0.length ac0, .slice ao1 L1.length ac1, .int .i64 i12] 32)).cell? ⟨w.heap.size, 7, none⟩ = some (.int .i64 i7) := by go_cell
        have a8_1 : (w.alloc (.cells #[.int .i64 10, .int .i64 0, .int .i64 i2, .int .i64 i3, .int .i64 i4, .int .i64 i5, .int .i64 i6, .int .i64 i7, .int .i64 i8, .int .i64 i9, .int .i64 i10, .int .i64 i11, .slice ao0 L0.length ac0, .slice ao1 L1.length ac1, .int .i64 i12] 32)).cell? ⟨w.heap.size, 8, none⟩ = some (.int .i64 i8) := by go_cell
        have a9_1 : (w.alloc (.cells #[.int .i64 10, .int .i64 0, .int .i64 i2, .int .i64 i3, .int .i64 i4, .int .i64 i5, .int .i64 i6, .int .i64 i7, .int .i64 i8, .int .i64 i9, .int .i64 i10, .int .i64 i11, .slice ao0 L0.length ac0, .slice ao1 L1.length ac1, .int .i64 i12] 32)).cell? ⟨w.heap.size, 9, none⟩ = some (.int .i64 i9) := by go_cell
        have a10_1 : (w.alloc (.cells #[.int .i64 10, .int .i64 0, .int .i64 i2, .int .i64 i3, .int .i64 i4, .int .i64 i5, .int .i64 i6, .int .i64 i7, .int .i64 i8, .int .i64 i9, .int .i64 i10, .int .i64 i11, .slice ao0 L0.length ac0, .slice ao1 L1.length ac1, .int .i64 i12] 32)).cell? ⟨w.heap.size, 10, none⟩ = some (.int .i64 i10) := by go_cell
        have a11_1 : (w.alloc (.cells #[.int .i64 10, .int .i64 0, .int .i64 i2, .int .i64 i3, .int .i64 i4, .int .i64 i5, .int .i64 i6, .int .i64 i7, .int .i64 i8, .int .i64 i9, .int .i64 i10, .int .i64 i11, .slice ao0 L0.length ac0, .slice ao1 L1.length ac1, .int .i64 i12] 32)).cell? ⟨w.heap.size, 11, none⟩ = some (.int .i64 i11) := by go_cell
        have a12_1 : (w.alloc (.cells #[.int .i64 10, .int .i64 0, .int .i64 i2, .int .i64 i3, .int .i64 i4, .int .i64 i5, .int .i64 i6, .int .i64 i7, .int .i64 i8, .int .i64 i9, .int .i64 i10, .int .i64 i11, .slice ao0 L0.length ac0, .slice ao1 L1.length ac1, .int .i64 i12] 32)).cell? ⟨w.heap.size, 12, none⟩ = some (.slice ao0 L0.length ac0) := by go_cell
        have a13_1 : (w.alloc (.cells #[.int .i64 10, .int .i64 0, .int .i64 i2, .int .i64 i3, .int .i64 i4, .int .i64 i5, .int .i64 i6, .int .i64 i7, .int .i64 i8, .int .i64 i9, .int .i64 i10, .int .i64 i11, .slice ao0 L0.length ac0, .slice ao1 L1.length ac1, .int .i64 i12] 32)).cell? ⟨w.heap.size, 13, none⟩ = some (.slice ao1 L1.length ac1) := by go_cell
        have a14_1 : (w.alloc (.cells #[.int .i64 10, .int .i64 0, .int .i64 i2, .int .i64 i3, .int .i64 i4, .int .i64 i5, .int .i64 i6, .int .i64 i7, .int .i64 i8, .int .i64 i9, .int .i64 i10, .int .i64 i11, .slice ao0 L0.length ac0, .slice ao1 L1.length ac1, .int .i64 i12] 32)).cell? ⟨w.heap.size, 14, none⟩ = some (.int .i64 i12) := by go_cell
        have al_1 : w.heap.size < (w.alloc (.cells #[.int .i64 10, .int .i64 0, .int .i64 i2, .int .i64 i3, .int .i64 i4, .int .i64 i5, .int .i64 i6, .int .i64 i7, .int .i64 i8, .int .i64 i9, .int .i64 i10, .int .i64 i11, .slice ao0 L0.length ac0, .slice ao1 L1.length ac1, .int .i64 i12] 32)).heap.size := by first | (simp; done) | (simp; omega)
        have c1 : Below w.heap.size w (w.alloc (.cells #[.int .i64 10, .int .i64 0, .int .i64 i2, .int .i64 i3, .int .i64 i4, .int .i64 i5, .int .i64 i6, .int .i64 i7, .int .i64 i8, .int .i64 i9, .int .i64 i10, .int .i64 i11, .slice ao0 L0.length ac0, .slice ao1 L1.length ac1, .int .i64 i12] 32)) := by go_grown
        have s1 : (w.alloc (.cells #[.int .i64 10, .int .i64 0, .int .i64 i2, .int .i64 i3, .int .i64 i4, .int .i64 i5, .int .i64 i6, .int .i64 i7, .int .i64 i8, .int .i64 i9, .int .i64 i10, .int .i64 i11, .slice ao0 L0.length ac0, .slice ao1 L1.length ac1, .int .i64 i12] 32)).heap.size = w.heap.size + 1 := by simp
        generalize (w.alloc (.cells #[.int .i64 10, .int .i64 0, .int .i64 i2, .int .i64 i3, .int .i64 i4, .int .i64 i5, .int .i64 i6, .int .i64 i7, .int .i64 i8, .int .i64 i9, .int .i64 i10, .int .i64 i11, .slice ao0 L0.length ac0, .slice ao1 L1.length ac1, .int .i64 i12] 32)) = w1 at a0_1 a1_1 a2_1 a3_1 a4_1 a5_1 a6_1 a7_1 a8_1 a9_1 a10_1 a11_1 a12_1 a13_1 a14_1 al_1 c1 s1 ⊢
        have qa0_1 := cell_regrown a0_1
        have qa1_1 := cell_regrown a1_1
        have qa2_1 := cell_regrown a2_1
        have qa3_1 := cell_regrown a3_1
        have qa4_1 := cell_regrown a4_1
        have qa5_1 := cell_regrown a5_1
        have qa6_1 := cell_regrown a6_1
        have qa7_1 := cell_regrown a7_1
        have qa8_1 := cell_regrown a8_1
        have qa9_1 := cell_regrown a9_1
        have qa10_1 := cell_regrown a10_1
        have qa11_1 := cell_regrown a11_1
        have qa12_1 := cell_regrown a12_1
        have qa13_1 := cell_regrown a13_1
        have qa14_1 := cell_regrown a14_1
        refine (need_no _ (HE.out.later c1)).mono ?_
        rintro e wz ⟨⟨t, v, rfl⟩, rfl⟩
        exact ⟨rfl, Or.inr ⟨(by first | (simp [numsM]; done) | (simp_all [numsM]; done) | (simp [numsM]; omega) | (simp_all [numsM]; omega)), t, v, rfl⟩, c1⟩
    · have hn : (i1 == 0) = false := by simpa using ht
      go_enter Tryz.func73, Tryz.ntmps73
      go_wp2_with fail
      have a0_1 : (w.alloc (.cells #[.int .i64 10, .int .i64 i1, .int .i64 i2, .int .i64 i3, .int .i64 i4, .int .i64 i5, .int .i64 i6, .int .i64 i7, .int .i64 i8, .int .i64 i9, .int .i64 i10, .int .i64 i11, .slice ao0 L0.length ac0, .slice ao1 L1.length ac1, .int .i64 i12] 32)).cell? ⟨w.heap.size, 0, none⟩ = some (.int .i64 10) := by go_cell
      have a1_1 : (w.alloc (.cells #[.int .i64 10, .int .i64 i1, .int .i64 i2, .int .i64 i3, .int .i64 i4, .int .i64 i5, .int .i64 i6, .int .i64 i7, .int .i64 i8, .int .i64 i9, .int .i64 i10, .int .i64 i11, .slice ao0 L0.length ac0, .slice ao1 L1.length ac1, .int .i64 i12] 32)).cell? ⟨w.heap.size, 1, none⟩ = some (.int .i64 i1) := by go_cell
      have a2_1 : (w.alloc (.cells #[.int .i64 10, .int .i64 i1, .int .i64 i2, .int .i64 i3, .int .i64 i4, .int .i64 i5, .int .i64 i6, .int .i64 i7, .int .i64 i8, .int .i64 i9, .int .i64 i10, .int .i64 i11, .slice ao0 L0.length ac0, .slice ao1 L1.length ac1, .int .i64 i12] 32)).cell? ⟨w.heap.size, 2, none⟩ = some (.int .i64 i2) := by go_cell
      have a3_1 : (w.alloc (.cells #[.int .i64 10, .int .i64 i1, .int .i64 i2, .int .i64 i3, .int .i64 i4, .int .i64 i5, .int .i64 i6, .int .i64 i7, .int .i64 i8, .int .i64 i9, .int .i64 i10, .int .i64 i11, .slice ao0 L0.length ac0, .slice ao1 L1.length ac1, .int .i64 i12] 32)).cell? ⟨w.heap.size, 3, none⟩ = some (.int .i64 i3) := by go_cell
      have a4_1 : (w.alloc (.cells #[.int .i64 10, .int .i64 i1, .int .i64 i2, .int .i64 i3, .int .i64 i4, .int .i64 i5, .int .i64 i6, .int .i64 i7, .int .i64 i8, .int .i64 i9, .int .i64 i10, .int .i64 i11, .slice ao0 L0.length ac0, .slice ao1 L1.length ac1, .int .i64 i12] 32)).cell? ⟨w.heap.size, 4, none⟩ = some (.int .i64 i4) := by go_cell
      have a5_1 : (w.alloc (.cells #[.int .i64 10, .int .i64 i1, .int .i64 i2, .int .i64 i3, .int .i64 i4, .int .i64 i5, .int .i64 i6, .int .i64 i7, .int .i64 i8, .int .i64 i9, .int .i64 i10, .int .i64 i11, .slice ao0 L0.length ac0, .slice ao1 L1.length ac1, .int .i64 i12] 32)).cell? ⟨w.heap.size, 5, none⟩ = some (.int .i64 i5) := by go_cell
      have a6_1 : (w.alloc (.cells #[.int .i64 10, .int .i64 i1, .int .i64 i2, .int .i64 i3, .int .i64 i4, .int .i64 i5, .int .i64 i6, .int .i64 i7, .int .i64 i8, .int .i64 i9, .int .i64 i10, .int .i64 i11, .slice ao0 L0.length ac0, .slice ao1 L1.length ac1, .int .i64 i12] 32)).cell? ⟨w.heap.size, 6, none⟩ = some (.int .i64 i6) := by go_cell
      have a7_1 : (w.alloc (.cells #[.int .i64 10, .int .i64 i1, .int .i64 i2, .int .i64 i3, .int .i64 i4, .int .i64 i5, .int .i64 i6, .int .i64 i7, .int .i64 i8, .int .i64 i9, .int .i64 i10, .int .i64 i11, .slice ao0 L0.length ac0, .slice ao1 L1.length ac1, .int .i64 i12] 32)).cell? ⟨w.heap.size, 7, none⟩ = some (.int .i64 i7) := by go_cell
      have a8_1 : (w.alloc (.cells #[.int .i64 10, .int .i64 i1, .int .i64 i2, .int .i64 i3, .int .i64 i4, .int .i64 i5, .int .i64 i6, .int .i64 i7, .int .i64 i8, .int .i64 i9, .int .i64 i10, .int .i64 i11, .slice ao0 L0.length ac0, .slice ao1 L1.length ac1, .int .i64 i12] 32)).cell? ⟨w.heap.size, 8, none⟩ = some (.int .i64 i8) := by go_cell
      have a9_1 : (w.alloc (.cells #[.int .i64 10, .int .i64 i1, .int .i64 i2, .int .i64 i3, .int .i64 i4, .int .i64 i5, .int .i64 i6, .int .i64 i7, .int .i64 i8, .int .i64 i9, .int .i64 i10, .int .i64 i11, .slice ao0 L0.length ac0, .slice ao1 L1.length ac1, .int .i64 i12] 32)).cell? ⟨w.heap.size, 9, none⟩ = some (.int .i64 i9) := by go_cell
      have a10_1 : (w.alloc (.cells #[.int .i64 10, .int .i64 i1, .int .i64 i2, .int .i64 i3, .int .i64 i4, .int .i64 i5, .int .i64 i6, .int .i64 i7, .int .i64 i8, .int .i64 i9, .int .i64 i10, .int .i64 i11, .slice ao0 L0.length ac0, .slice ao1 L1.length ac1, .int .i64 i12] 32)).cell? ⟨w.heap.size, 10, none⟩ = some (.int .i64 i10) := by go_cell
      have a11_1 : (w.alloc (.cells #[.int .i64 10, .int .i64 i1, .int .i64 i2, .int .i64 i3, .int .i64 i4, .int .i64 i5, .int .i64 i6, .int .i64 i7, .int .i64 i8, .int .i64 i9, .int .i64 i10, .int .i64 i11, .slice ao0 L0.length ac0, .slice ao1 L1.length ac1, .int .i64 i12] 32)).cell? ⟨w.heap.size, 11, none⟩ = some (.int .i64 i11) := by go_cell
      have a12_1 : (w.alloc (.cells #[.int .i64 10, .int .i64 i1, .int .i64 i2, .int .i64 i3, .int .i64 i4, .int .i64 i5, .int .i64 i6, .int .i64 i7, .int .i64 i8, .int .i64 i9, .int .i64 i10, .int .i64 i11, .slice ao0 L0.length ac0, .slice ao1 L1.length ac1, .int .i64 i12] 32)).cell? ⟨w.heap.size, 12, none⟩ = some (.slice ao0 L0.length ac0) := by go_cell
      have a13_1 : (w.alloc (.cells #[.int .i64 10, .int .i64 i1, .int .i64 i2, .int .i64 i3, .int .i64 i4, .int .i64 i5, .int .i64 i6, .int .i64 i7, .int .i64 i8, .int .i64 i9, .int .i64 i10, .int .i64 i11, .slice ao0 L0.length ac0, .slice ao1 L1.length ac1, .int .i64 i12] 32)).cell? ⟨w.heap.size, 13, none⟩ = some (.slice ao1 L1.length ac1) := by go_cell
      have a14_1 : (w.alloc (.cells #[.int .i64 10, .int .i64 i1, .int .i64 i2, .int .i64 i3, .int .i64 i4, .int .i64 i5, .int .i64 i6, .int .i64 i7, .int .i64 i8, .int .i64 i9, .int .i64 i10, .int .i64 i11, .slice ao0 L0.length ac0, .slice ao1 L1.length ac1, .int .i64 i12] 32)).cell? ⟨w.heap.size, 14, none⟩ = some (.int .i64 i12) := by go_cell
      have al_1 : w.heap.size < (w.alloc (.cells #[.int .i64 10, .int .i64 i1, .int .i64 i2, .int .i64 i3, .int .i64 i4, .int .i64 i5, .int .i64 i6, .int .i64 i7, .int .i64 i8, .int .i64 i9, .int .i64 i10, .int .i64 i11, .slice ao0 L0.length ac0, .slice ao1 L1.length ac1, .int .i64 i12] 32)).heap.size := by first | (simp; done) | (simp; omega)
      have c1 : Below w.heap.size w (w.alloc (.cells #[.int .i64 10, .int .i64 i1, .int .i64 i2, .int .i64 i3, .int .i64 i4, .int .i64 i5, .int .i64 i6, .int .i64 i7, .int .i64 i8, .int .i64 i9, .int .i64 i10, .int .i64 i11, .slice ao0 L0.length ac0, .slice ao1 L1.length ac1, .int .i64 i12] 32)) := by go_grown
      have s1 : (w.alloc (.cells #[.int .i64 10, .int .i64 i1, .int .i64 i2, .int .i64 i3, .int .i64 i4, .int .i64 i5, .int .i64 i6, .int .i64 i7, .int .i64 i8, .int .i64 i9, .int .i64 i10, .int .i64 i11, .slice ao0 L0.length ac0, .slice ao1 L1.length ac1, .int .i64 i12] 32)).heap.size = w.heap.size + 1 := by simp
      generalize (w.alloc (.cells #[.int .i64 10, .int .i64 i1, .int .i64 i2, .int .i64 i3, .int .i64 i4, .int .i64 i5, .int .i64 i6, .int .i64 i7, .int .i64 i8, .int .i64 i9, .int .i64 i10, .int .i64 i11, .slice ao0 L0.length ac0, .slice ao1 L1.length ac1, .int .i64 i12] 32)) = w1 at a0_1 a1_1 a2_1 a3_1 a4_1 a5_1 a6_1 a7_1 a8_1 a9_1 a10_1 a11_1 a12_1 a13_1 a14_1 al_1 c1 s1 ⊢
      have qa0_1 := cell_regrown a0_1
      have qa1_1 := cell_regrown a1_1
      have qa2_1 := cell_regrown a2_1
      have qa3_1 := cell_regrown a3_1
      have qa4_1 := cell_regrown a4_1
      have qa5_1 := cell_regrown a5_1
      have qa6_1 := cell_regrown a6_1
      have qa7_1 := cell_regrown a7_1
      have qa8_1 := cell_regrown a8_1
      have qa9_1 := cell_regrown a9_1
      have qa10_1 := cell_regrown a10_1
      have qa11_1 := cell_regrown a11_1
      have qa12_1 := cell_regrown a12_1
      have qa13_1 := cell_regrown a13_1
      have qa14_1 := cell_regrown a14_1
      refine (need_no _ (HE.out.later c1)).mono ?_
      rintro e wz ⟨⟨t, v, rfl⟩, rfl⟩
      exact ⟨rfl, Or.inr ⟨(by first | (simp [numsM]; done) | (simp_all [numsM]; done) | (simp [numsM]; omega) | (simp_all [numsM]; omega)), t, v, rfl⟩, c1⟩
  have g5 : (i0 == 5) = false := by simpa using h5
  have g6 : (i0 == 6) = false := by simpa using h6
  have g7 : (i0 == 7) = false := by simpa using h7
  have g8 : (i0 == 8) = false := by simpa using h8
  have g9 : (i0 == 9) = false := by simpa using h9
  have g10 : (i0 == 10) = false := by simpa using h10
  go_enter Tryz.func73, Tryz.ntmps73
  go_wp2_with fail
  have c1 : Below w.heap.size w (w.alloc (.cells #[.int .i64 i0, .int .i64 i1, .int .i64 i2, .int .i64 i3, .int .i64 i4, .int .i64 i5, .int .i64 i6, .int .i64 i7, .int .i64 i8, .int .i64 i9, .int .i64 i10, .int .i64 i11, .slice ao0 L0.length ac0, .slice ao1 L1.length ac1, .int .i64 i12] 32)) := by go_grown
  exact ⟨rfl, .tuple #[], by simp [results, Tryz.results73, go_sem], Or.inl ⟨(by first | (simp [numsM]; done) | (simp_all [numsM]; done) | (simp [numsM]; omega) | (simp_all [numsM]; omega)), rfl⟩, c1⟩

end Go.Proofs.YtfdcnolcjgjfjaaGreatDoor

/- Part: impl.isNone and what it defers: contracts. -/
namespace Go.Proofs.YtfdcnolcjgjfjaaGreatDoor
open Go.RowKit
attribute [local go_sem ↓] Go.wp_at_zero Go.wp_at_succ

/-- The deferred closure of a frame that panics: the panic is recovered, the named result is true. -/
theorem catch_panicking (p : Addr) (x : Bool) (u : TypeId) (pv : Value) (w : World) (hc : w.cell? p = some (.bool x)) (hz : w.frozen? p = false) :
    CallsD Tryz.prog 64 #[.pointer (some p)] (.panicking [{ v := .iface u pv, recovered := false }]) w fun e u' w' =>
      e = .returned (.tuple #[]) ∧ u' = .panicking [{ v := .iface u pv, recovered := true }] ∧ w' = w.setCell p (.bool true) := by
  refine callsD_of_wpS Tryz.func64 rfl fun c₀ cs hu => ?_
  apply wpS_region
  simp [wpOpsS, go_sem, recoverD, hu, Tryz.ntmps64, hc, hz, bodyPostS, results, Tryz.results64]
/-- .. of a frame that returns: nothing is recovered, the named result is false. -/
theorem catch_idle (p : Addr) (x : Bool) (w : World) (hc : w.cell? p = some (.bool x)) (hz : w.frozen? p = false) :
    CallsD Tryz.prog 64 #[.pointer (some p)] .returning w fun e u' w' => e = .returned (.tuple #[]) ∧ u' = .returning ∧ w' = w.setCell p (.bool false) := by
  refine callsD_of_wpS Tryz.func64 rfl fun c₀ cs hu => ?_
  apply wpS_region
  simp [wpOpsS, go_sem, recoverD, hu, Tryz.ntmps64, hc, hz, bodyPostS, results, Tryz.results64]
  cases c₀
  simp_all

set_option maxRecDepth 100000 in
/-- Whether what is asked for turns out to be none. -/
theorem isNone_any (pm : Addr) (b : Bool) (w : World) (hask : ∀ W, Below w.heap.size w W → Calls Tryz.prog 34 #[.pointer (some pm)] W fun e W' => Asked b e ∧ Below W.heap.size W W') :
    Calls Tryz.prog 28 #[.func (.func 34) #[] #[.pointer (some pm)]] w fun e w' => e = .returned (.bool (!b)) ∧ Below w.heap.size w w' := by
  have hmf : ∀ (fn : Fn) (first cap : Array Value) (w : World), (Instr.makeFunc fn first cap).run Tryz.prog w = .ok (.func fn first cap) w := fun _ _ _ _ => rfl
  have HASK := hid hask
  clear hask
  go_enter_defers Tryz.func28, Tryz.ntmps28
  go_wp2_with fail
  have hr : (w.alloc (.cells #[.bool false] 4)).cell? ⟨w.heap.size, 0, none⟩ = some (.bool false) := by go_cell
  have hf : (w.alloc (.cells #[.bool false] 4)).frozen? ⟨w.heap.size, 0, none⟩ = false := by (first | go_cell | (simp [World.frozen?, World.alloc]; done) | rfl)
  have c1 : Below w.heap.size w (w.alloc (.cells #[.bool false] 4)) := by go_grown
  have s1 : w.heap.size < (w.alloc (.cells #[.bool false] 4)).heap.size := by simp
  generalize (w.alloc (.cells #[.bool false] 4)) = w1 at hr hf c1 s1 ⊢
  refine (HASK.out _ c1).mono ?_
  rintro e w2 ⟨ha, b2⟩
  have hr2 : w2.cell? ⟨w.heap.size, 0, none⟩ = some (.bool false) := (b2.cell (p := ⟨w.heap.size, 0, none⟩) s1).trans hr
  have hf2 : w2.frozen? ⟨w.heap.size, 0, none⟩ = false := (b2.frozen (p := ⟨w.heap.size, 0, none⟩) s1).trans hf
  have c2 : Below w.heap.size w w2 := c1.trans (b2.mono c1.size)
  have c3 : ∀ v, Below w.heap.size w (w2.setCell ⟨w.heap.size, 0, none⟩ v) := fun v => c2.setCell (p := ⟨w.heap.size, 0, none⟩) (Nat.le_refl _) v
  rcases ha with ⟨rfl, rfl⟩ | ⟨rfl, t, v, rfl⟩
  · go_wp2
    refine leaves_cons (f := 64) (args := #[.pointer (some ⟨w.heap.size, 0, none⟩)]) (by simp) (by simp [go_sem]) ?_
    refine (catch_idle ⟨w.heap.size, 0, none⟩ false _ (by go_cell) (by (first | go_cell | (simp [World.frozen?, World.alloc]; done) | rfl))).mono ?_
    rintro e u' w'' ⟨rfl, rfl, rfl⟩
    have c4 := (c3 (.bool false)).setCell (p := ⟨w.heap.size, 0, none⟩) (Nat.le_refl _) (.bool false)
    have e4 : ((w2.setCell ⟨w.heap.size, 0, none⟩ (.bool false)).setCell ⟨w.heap.size, 0, none⟩ (.bool false)).cell? ⟨w.heap.size, 0, none⟩ = some (.bool false) := by go_cell
    simp [Leaves, settle, results, Tryz.results28, go_sem, e4, c4]
  · refine leaves_cons (f := 64) (args := #[.pointer (some ⟨w.heap.size, 0, none⟩)]) (by simp) (by simp [go_sem]) ?_
    refine (catch_panicking ⟨w.heap.size, 0, none⟩ false _ _ _ hr2 hf2).mono ?_
    rintro e u' w'' ⟨rfl, rfl, rfl⟩
    have c4 := c3 (.bool true)
    have e4 : (w2.setCell ⟨w.heap.size, 0, none⟩ (.bool true)).cell? ⟨w.heap.size, 0, none⟩ = some (.bool true) := by go_cell
    simp [Leaves, settle, results, Tryz.results28, go_sem, e4, c4]
end Go.Proofs.YtfdcnolcjgjfjaaGreatDoor

/- Part: impl.askMsg, impl.MsgOk: contracts. Written by a program (gmj.py). -/
namespace Go.Proofs.YtfdcnolcjgjfjaaGreatDoor
open Go.RowKit
attribute [local go_sem ↓] Go.wp_at_zero Go.wp_at_succ

theorem head_split (t p i s : Int) : headM t p i s = (reqR t i s && (decide (i ≤ 1000) && (decide (s ≤ 1000) && parR p))) := by
  rw [Bool.eq_iff_iff]
  simp only [headM, reqR, parR, Bool.and_eq_true, decide_eq_true_eq]
  omega
set_option maxRecDepth 100000 in
set_option maxHeartbeats 8000000 in
theorem askMsg_any (i0 i1 i2 i3 i4 i5 i6 i7 i8 i9 i10 i11 i12 : Int) (va0 va1 : Value) (L0 : List (Int × Int)) (L1 : List KD) (w : World) (ha : RSMsg w va0 va1 L0 L1) (hE : ErrM w) :
    Calls Tryz.prog 35 #[.agg #[.int .i64 i0, .int .i64 i1, .int .i64 i2, .int .i64 i3, .int .i64 i4, .int .i64 i5, .int .i64 i6, .int .i64 i7, .int .i64 i8, .int .i64 i9, .int .i64 i10, .int .i64 i11, va0, va1, .int .i64 i12]] w fun e w' => Asked (okM i0 i1 i2 i3 i4 i5 i6 i7 i8 i9 i10 i11 i12 L0 L1) e ∧ Below w.heap.size w w' := by
  rw [okM_asked, head_split]
  have HA := hid ha
  have HE := hid hE
  clear hE
  obtain ⟨ao0, ao1, ac0, ac1, rfl, rfl⟩ := ha.open
  clear ha
  go_enter Tryz.func35, Tryz.ntmps35
  go_wp2_with fail
  have a0_1 : (w.alloc (.cells #[.int .i64 i0, .int .i64 i1, .int .i64 i2, .int .i64 i3, .int .i64 i4, .int .i64 i5, .int .i64 i6, .int .i64 i7, .int .i64 i8, .int .i64 i9, .int .i64 i10, .int .i64 i11, .slice ao0 L0.length ac0, .slice ao1 L1.length ac1, .int .i64 i12] 32)).cell? ⟨w.heap.size, 0, none⟩ = some (.int .i64 i0) := by go_cell
  have a1_1 : (w.alloc (.cells #[.int .i64 i0, .int .i64 i1, .int .i64 i2, .int .i64 i3, .int .i64 i4, .int .i64 i5, .int .i64 i6, .int .i64 i7, .int .i64 i8, .int .i64 i9, .int .i64 i10, .int .i64 i11, .slice ao0 L0.length ac0, .slice ao1 L1.length ac1, .int .i64 i12] 32)).cell? ⟨w.heap.size, 1, none⟩ = some (.int .i64 i1) := by go_cell
  have a2_1 : (w.alloc (.cells #[.int .i64 i0, .int .i64 i1, .int .i64 i2, .int .i64 i3, .int .i64 i4, .int .i64 i5, .int .i64 i6, .int .i64 i7, .int .i64 i8, .int .i64 i9, .int .i64 i10, .int .i64 i11, .slice ao0 L0.length ac0, .slice ao1 L1.length ac1, .int .i64 i12] 32)).cell? ⟨w.heap.size, 2, none⟩ = some (.int .i64 i2) := by go_cell
  have a3_1 : (w.alloc (.cells #[.int .i64 i0, .int .i64 i1, .int .i64 i2, .int .i64 i3, .int .i64 i4, .int .i64 i5, .int .i64 i6, .int .i64 i7, .int .i64 i8, .int .i64 i9, .int .i64 i10, .int .i64 i11, .slice ao0 L0.length ac0, .slice ao1 L1.length ac1, .int .i64 i12] 32)).cell? ⟨w.heap.size, 3, none⟩ = some (.int .i64 i3) := by go_cell
  have a4_1 : (w.alloc (.cells #[.int .i64 i0, .int .i64 i1, .int .i64 i2, .int .i64 i3, .int .i64 i4, .int .i64 i5, .int .i64 i6, .int .i64 i7, .int .i64 i8, .int .i64 i9, .int .i64 i10, .int .i64 i11, .slice ao0 L0.length ac0, .slice ao1 L1.length ac1, .int .i64 i12] 32)).cell? ⟨w.heap.size, 4, none⟩ = some (.int .i64 i4) := by go_cell
  have a5_1 : (w.alloc (.cells #[.int .i64 i0, .int .i64 i1, .int .i64 i2, .int .i64 i3, .int .i64 i4, .int .i64 i5, .int .i64 i6, .int .i64 i7, .int .i64 i8, .int .i64 i9, .int .i64 i10, .int .i64 i11, .slice ao0 L0.length ac0, .slice ao1 L1.length ac1, .int .i64 i12] 32)).cell? ⟨w.heap.size, 5, none⟩ = some (.int .i64 i5) := by go_cell
  have a6_1 : (w.alloc (.cells #[.int .i64 i0, .int .i64 i1, .int .i64 i2, .int .i64 i3, .int .i64 i4, .int .i64 i5, .int .i64 i6, .int .i64 i7, .int .i64 i8, .int .i64 i9, .int .i64 i10, .int .i64 i11, .slice ao0 L0.length ac0, .slice ao1 L1.length ac1, .int .i64 i12] 32)).cell? ⟨w.heap.size, 6, none⟩ = some (.int .i64 i6) := by go_cell
  have a7_1 : (w.alloc (.cells #[.int .i64 i0, .int .i64 i1, .int .i64 i2, .int .i64 i3, .int .i64 i4, .int .i64 i5, .int .i64 i6, .int .i64 i7, .int .i64 i8, .int .i64 i9, .int .i64 i10, .int .i64 i11, .slice ao0 L0.length ac0, .slice ao1 L1.length ac1, .int .i64 i12] 32)).cell? ⟨w.heap.size, 7, none⟩ = some (.int .i64 i7) := by go_cell
  have a8_1 : (w.alloc (.cells #[.int .i64 i0, .int .i64 i1, .int .i64 i2, .int .i64 i3, .int .i64 i4, .int .i64 i5, .int .i64 i6, .int .i64 i7, .int .i64 i8, .int .i64 i9, .int .i64 i10, .int .i64 i11, .slice ao0 L0.length ac0, .slice ao1 L1.length ac1, .int .i64 i12] 32)).cell? ⟨w.heap.size, 8, none⟩ = some (.int .i64 i8) := by go_cell
  have a9_1 : (w.alloc (.cells #[.int .i64 i0, .int .i64 i1, .int .i64 i2, .int .i64 i3, .int .i64 i4, .int .i64 i5, .int .i64 i6, .int .i64 i7, .int .i64 i8, .int .i64 i9, .int .i64 i10, .int .i64 i11, .slice ao0 L0.length ac0, .slice ao1 L1.length ac1, .int .i64 i12] 32)).cell? ⟨w.heap.size, 9, none⟩ = some (.int .i64 i9) := by go_cell
  have a10_1 : (w.alloc (.cells #[.int .i64 i0, .int .i64 i1, .int .i64 i2, .int .i64 i3, .int .i64 i4, .int .i64 i5, .int .i64 i6, .int .i64 i7, .int .i64 i8, .int .i64 i9, .int .i64 i10, .int .i64 i11, .slice ao0 L0.length ac0, .slice ao1 L1.length ac1, .int .i64 i12] 32)).cell? ⟨w.heap.size, 10, none⟩ = some (.int .i64 i10) := by go_cell
  have a11_1 : (w.alloc (.cells #[.int .i64 i0, .int .i64 i1, .int .i64 i2, .int .i64 i3, .int .i64 i4, .int .i64 i5, .int .i64 i6, .int .i64 i7, .int .i64 i8, .int .i64 i9, .int .i64 i10, .int .i64 i11, .slice ao0 L0.length ac0, .slice ao1 L1.length ac1, .int .i64 i12] 32)).cell? ⟨w.heap.size, 11, none⟩ = some (.int .i64 i11) := by go_cell
  have a12_1 : (w.alloc (.cells #[.int .i64 i0, .int .i64 i1, .int .i64 i2, .int .i64 i3, .int .i64 i4, .int .i64 i5, .int .i64 i6, .int .i64 i7, .int .i64 i8, .int .i64 i9, .int .i64 i10, .int .i64 i11, .slice ao0 L0.length ac0, .slice ao1 L1.length ac1, .int .i64 i12] 32)).cell? ⟨w.heap.size, 12, none⟩ = some (.slice ao0 L0.length ac0) := by go_cell
  have a13_1 : (w.alloc (.cells #[.int .i64 i0, .int .i64 i1, .int .i64 i2, .int .i64 i3, .int .i64 i4, .int .i64 i5, .int .i64 i6, .int .i64 i7, .int .i64 i8, .int .i64 i9, .int .i64 i10, .int .i64 i11, .slice ao0 L0.length ac0, .slice ao1 L1.length ac1, .int .i64 i12] 32)).cell? ⟨w.heap.size, 13, none⟩ = some (.slice ao1 L1.length ac1) := by go_cell
  have a14_1 : (w.alloc (.cells #[.int .i64 i0, .int .i64 i1, .int .i64 i2, .int .i64 i3, .int .i64 i4, .int .i64 i5, .int .i64 i6, .int .i64 i7, .int .i64 i8, .int .i64 i9, .int .i64 i10, .int .i64 i11, .slice ao0 L0.length ac0, .slice ao1 L1.length ac1, .int .i64 i12] 32)).cell? ⟨w.heap.size, 14, none⟩ = some (.int .i64 i12) := by go_cell
  have al_1 : w.heap.size < (w.alloc (.cells #[.int .i64 i0, .int .i64 i1, .int .i64 i2, .int .i64 i3, .int .i64 i4, .int .i64 i5, .int .i64 i6, .int .i64 i7, .int .i64 i8, .int .i64 i9, .int .i64 i10, .int .i64 i11, .slice ao0 L0.length ac0, .slice ao1 L1.length ac1, .int .i64 i12] 32)).heap.size := by first | (simp; done) | (simp; omega)
  have c1 : Below w.heap.size w (w.alloc (.cells #[.int .i64 i0, .int .i64 i1, .int .i64 i2, .int .i64 i3, .int .i64 i4, .int .i64 i5, .int .i64 i6, .int .i64 i7, .int .i64 i8, .int .i64 i9, .int .i64 i10, .int .i64 i11, .slice ao0 L0.length ac0, .slice ao1 L1.length ac1, .int .i64 i12] 32)) := by go_grown
  have s1 : (w.alloc (.cells #[.int .i64 i0, .int .i64 i1, .int .i64 i2, .int .i64 i3, .int .i64 i4, .int .i64 i5, .int .i64 i6, .int .i64 i7, .int .i64 i8, .int .i64 i9, .int .i64 i10, .int .i64 i11, .slice ao0 L0.length ac0, .slice ao1 L1.length ac1, .int .i64 i12] 32)).heap.size = w.heap.size + 1 := by simp
  generalize (w.alloc (.cells #[.int .i64 i0, .int .i64 i1, .int .i64 i2, .int .i64 i3, .int .i64 i4, .int .i64 i5, .int .i64 i6, .int .i64 i7, .int .i64 i8, .int .i64 i9, .int .i64 i10, .int .i64 i11, .slice ao0 L0.length ac0, .slice ao1 L1.length ac1, .int .i64 i12] 32)) = w1 at a0_1 a1_1 a2_1 a3_1 a4_1 a5_1 a6_1 a7_1 a8_1 a9_1 a10_1 a11_1 a12_1 a13_1 a14_1 al_1 c1 s1 ⊢
  have qa0_1 := cell_regrown a0_1
  have qa1_1 := cell_regrown a1_1
  have qa2_1 := cell_regrown a2_1
  have qa3_1 := cell_regrown a3_1
  have qa4_1 := cell_regrown a4_1
  have qa5_1 := cell_regrown a5_1
  have qa6_1 := cell_regrown a6_1
  have qa7_1 := cell_regrown a7_1
  have qa8_1 := cell_regrown a8_1
  have qa9_1 := cell_regrown a9_1
  have qa10_1 := cell_regrown a10_1
  have qa11_1 := cell_regrown a11_1
  have qa12_1 := cell_regrown a12_1
  have qa13_1 := cell_regrown a13_1
  have qa14_1 := cell_regrown a14_1
  refine (reqRight_any i1 i3 i4 _).mono ?_
  rintro e w2 ⟨rfl, b2⟩
  have d2 : Below w1.heap.size w1 w2 := (Below.trans (by go_grown) (b2.mono (by first | omega | (simp; done) | (simp; omega))))
  have c2 : Below w.heap.size w w2 := c1.trans (d2.mono c1.size)
  have a0_2 : w2.cell? ⟨w.heap.size, 0, none⟩ = some (.int .i64 i0) := (by rw [b2.cell (by first | omega | (simp; done) | (simp; omega))]; go_cell)
  have a1_2 : w2.cell? ⟨w.heap.size, 1, none⟩ = some (.int .i64 i1) := (by rw [b2.cell (by first | omega | (simp; done) | (simp; omega))]; go_cell)
  have a2_2 : w2.cell? ⟨w.heap.size, 2, none⟩ = some (.int .i64 i2) := (by rw [b2.cell (by first | omega | (simp; done) | (simp; omega))]; go_cell)
  have a3_2 : w2.cell? ⟨w.heap.size, 3, none⟩ = some (.int .i64 i3) := (by rw [b2.cell (by first | omega | (simp; done) | (simp; omega))]; go_cell)
  have a4_2 : w2.cell? ⟨w.heap.size, 4, none⟩ = some (.int .i64 i4) := (by rw [b2.cell (by first | omega | (simp; done) | (simp; omega))]; go_cell)
  have a5_2 : w2.cell? ⟨w.heap.size, 5, none⟩ = some (.int .i64 i5) := (by rw [b2.cell (by first | omega | (simp; done) | (simp; omega))]; go_cell)
  have a6_2 : w2.cell? ⟨w.heap.size, 6, none⟩ = some (.int .i64 i6) := (by rw [b2.cell (by first | omega | (simp; done) | (simp; omega))]; go_cell)
  have a7_2 : w2.cell? ⟨w.heap.size, 7, none⟩ = some (.int .i64 i7) := (by rw [b2.cell (by first | omega | (simp; done) | (simp; omega))]; go_cell)
  have a8_2 : w2.cell? ⟨w.heap.size, 8, none⟩ = some (.int .i64 i8) := (by rw [b2.cell (by first | omega | (simp; done) | (simp; omega))]; go_cell)
  have a9_2 : w2.cell? ⟨w.heap.size, 9, none⟩ = some (.int .i64 i9) := (by rw [b2.cell (by first | omega | (simp; done) | (simp; omega))]; go_cell)
  have a10_2 : w2.cell? ⟨w.heap.size, 10, none⟩ = some (.int .i64 i10) := (by rw [b2.cell (by first | omega | (simp; done) | (simp; omega))]; go_cell)
  have a11_2 : w2.cell? ⟨w.heap.size, 11, none⟩ = some (.int .i64 i11) := (by rw [b2.cell (by first | omega | (simp; done) | (simp; omega))]; go_cell)
  have a12_2 : w2.cell? ⟨w.heap.size, 12, none⟩ = some (.slice ao0 L0.length ac0) := (by rw [b2.cell (by first | omega | (simp; done) | (simp; omega))]; go_cell)
  have a13_2 : w2.cell? ⟨w.heap.size, 13, none⟩ = some (.slice ao1 L1.length ac1) := (by rw [b2.cell (by first | omega | (simp; done) | (simp; omega))]; go_cell)
  have a14_2 : w2.cell? ⟨w.heap.size, 14, none⟩ = some (.int .i64 i12) := (by rw [b2.cell (by first | omega | (simp; done) | (simp; omega))]; go_cell)
  have al_2 : w.heap.size < w2.heap.size := (by have := b2.size; first | omega | (revert this; simp; done) | (revert this; simp; omega))
  clear a0_1 a1_1 a2_1 a3_1 a4_1 a5_1 a6_1 a7_1 a8_1 a9_1 a10_1 a11_1 a12_1 a13_1 a14_1 al_1
  clear b2 d2
  cases hr : reqR i1 i3 i4 with
  | false =>
    go_wp2_with fail
    refine (need_no _ (HE.out.later c2)).mono ?_
    rintro e wz ⟨⟨t, v, rfl⟩, rfl⟩
    exact ⟨rfl, Or.inr ⟨by simp [hr], t, v, rfl⟩, c2⟩
  | true =>
    by_cases hi : i3 ≤ 1000
    case neg =>
      have hn : decide (i3 ≤ 1000) = false := by simpa using hi
      go_wp2_with fail
      refine (need_no _ (HE.out.later c2)).mono ?_
      rintro e wz ⟨⟨t, v, rfl⟩, rfl⟩
      exact ⟨rfl, Or.inr ⟨by simp [hn], t, v, rfl⟩, c2⟩
    have hn3 : decide (i3 ≤ 1000) = true := by simpa using hi
    by_cases hs : i4 ≤ 1000
    case neg =>
      have hn : decide (i4 ≤ 1000) = false := by simpa using hs
      go_wp2_with fail
      refine (need_no _ (HE.out.later c2)).mono ?_
      rintro e wz ⟨⟨t, v, rfl⟩, rfl⟩
      exact ⟨rfl, Or.inr ⟨by simp [hn], t, v, rfl⟩, c2⟩
    have hn4 : decide (i4 ≤ 1000) = true := by simpa using hs
    go_wp2_with fail
    refine (mPartRight_any i2 _).mono ?_
    rintro e w3 ⟨rfl, b3⟩
    have d3 : Below w2.heap.size w2 w3 := (Below.trans (by go_grown) (b3.mono (by first | omega | (simp; done) | (simp; omega))))
    have c3 : Below w.heap.size w w3 := c2.trans (d3.mono c2.size)
    have a0_3 : w3.cell? ⟨w.heap.size, 0, none⟩ = some (.int .i64 i0) := (by rw [b3.cell (by first | omega | (simp; done) | (simp; omega))]; go_cell)
    have a1_3 : w3.cell? ⟨w.heap.size, 1, none⟩ = some (.int .i64 i1) := (by rw [b3.cell (by first | omega | (simp; done) | (simp; omega))]; go_cell)
    have a2_3 : w3.cell? ⟨w.heap.size, 2, none⟩ = some (.int .i64 i2) := (by rw [b3.cell (by first | omega | (simp; done) | (simp; omega))]; go_cell)
    have a3_3 : w3.cell? ⟨w.heap.size, 3, none⟩ = some (.int .i64 i3) := (by rw [b3.cell (by first | omega | (simp; done) | (simp; omega))]; go_cell)
    have a4_3 : w3.cell? ⟨w.heap.size, 4, none⟩ = some (.int .i64 i4) := (by rw [b3.cell (by first | omega | (simp; done) | (simp; omega))]; go_cell)
    have a5_3 : w3.cell? ⟨w.heap.size, 5, none⟩ = some (.int .i64 i5) := (by rw [b3.cell (by first | omega | (simp; done) | (simp; omega))]; go_cell)
    have a6_3 : w3.cell? ⟨w.heap.size, 6, none⟩ = some (.int .i64 i6) := (by rw [b3.cell (by first | omega | (simp; done) | (simp; omega))]; go_cell)
    have a7_3 : w3.cell? ⟨w.heap.size, 7, none⟩ = some (.int .i64 i7) := (by rw [b3.cell (by first | omega | (simp; done) | (simp; omega))]; go_cell)
    have a8_3 : w3.cell? ⟨w.heap.size, 8, none⟩ = some (.int .i64 i8) := (by rw [b3.cell (by first | omega | (simp; done) | (simp; omega))]; go_cell)
    have a9_3 : w3.cell? ⟨w.heap.size, 9, none⟩ = some (.int .i64 i9) := (by rw [b3.cell (by first | omega | (simp; done) | (simp; omega))]; go_cell)
    have a10_3 : w3.cell? ⟨w.heap.size, 10, none⟩ = some (.int .i64 i10) := (by rw [b3.cell (by first | omega | (simp; done) | (simp; omega))]; go_cell)
    have a11_3 : w3.cell? ⟨w.heap.size, 11, none⟩ = some (.int .i64 i11) := (by rw [b3.cell (by first | omega | (simp; done) | (simp; omega))]; go_cell)
    have a12_3 : w3.cell? ⟨w.heap.size, 12, none⟩ = some (.slice ao0 L0.length ac0) := (by rw [b3.cell (by first | omega | (simp; done) | (simp; omega))]; go_cell)
    have a13_3 : w3.cell? ⟨w.heap.size, 13, none⟩ = some (.slice ao1 L1.length ac1) := (by rw [b3.cell (by first | omega | (simp; done) | (simp; omega))]; go_cell)
    have a14_3 : w3.cell? ⟨w.heap.size, 14, none⟩ = some (.int .i64 i12) := (by rw [b3.cell (by first | omega | (simp; done) | (simp; omega))]; go_cell)
    have al_3 : w.heap.size < w3.heap.size := (by have := b3.size; first | omega | (revert this; simp; done) | (revert this; simp; omega))
    clear a0_2 a1_2 a2_2 a3_2 a4_2 a5_2 a6_2 a7_2 a8_2 a9_2 a10_2 a11_2 a12_2 a13_2 a14_2 al_2
    clear b3 d3
    cases hp : parR i2 with
    | false =>
      go_wp2_with fail
      refine (need_no _ (HE.out.later c3)).mono ?_
      rintro e wz ⟨⟨t, v, rfl⟩, rfl⟩
      exact ⟨rfl, Or.inr ⟨by simp [hp], t, v, rfl⟩, c3⟩
    | true =>
      go_wp2_with fail
      refine (need_yes _).mono ?_
      rintro e wz ⟨rfl, hz⟩
      obtain rfl := hz.symm
      clear hz
      go_wp2_with fail
      have CS := fun (u0 u1 : Value) W h1 h2 => implMSame_any i0 i1 i2 i3 i4 i5 i6 i7 i8 i9 i10 i11 i12 i0 i1 i2 i3 i4 (opS i0 i5) (opS i0 i6) (opS i0 i7) (opS i0 i8) (keyS i0 i9) (verS i0 i10) (numS i0 i11) (codS i0 i12) (.slice ao0 L0.length ac0) (.slice ao1 L1.length ac1) u0 u1 L0 (kinS i0 L0) L1 (versS i0 L1) W h1 h2
      simp only [same_alone] at CS
      cases hal : aloneM i0 i5 i6 i7 i8 i9 i10 i11 i12 L0 L1 with
      | false =>
        rw [hal] at CS
        as_aux_lemma =>
          first | go_region_with (first | (go_at_call 72; refine (msgAlone_any i0 i1 i2 i3 i4 i5 i6 i7 i8 i9 i10 i11 i12 _ _ L0 L1 _ (HA.out.later (c3.drew))).mono ?_; rintro e w4 ⟨⟨u0, u1, rfl, hR⟩, b4⟩; have HR := hid hR; clear hR; have d4 : Below w3.heap.size w3 w4 := (Below.trans (by go_grown) (b4.mono (by first | omega | (simp; done) | (simp; omega)))); have c4 : Below w.heap.size w w4 := c3.trans (d4.mono c3.size); have a0_4 : w4.cell? ⟨w.heap.size, 0, none⟩ = some (.int .i64 i0) := (by rw [b4.cell (by first | omega | (simp; done) | (simp; omega))]; go_cell); have a1_4 : w4.cell? ⟨w.heap.size, 1, none⟩ = some (.int .i64 i1) := (by rw [b4.cell (by first | omega | (simp; done) | (simp; omega))]; go_cell); have a2_4 : w4.cell? ⟨w.heap.size, 2, none⟩ = some (.int .i64 i2) := (by rw [b4.cell (by first | omega | (simp; done) | (simp; omega))]; go_cell); have a3_4 : w4.cell? ⟨w.heap.size, 3, none⟩ = some (.int .i64 i3) := (by rw [b4.cell (by first | omega | (simp; done) | (simp; omega))]; go_cell); have a4_4 : w4.cell? ⟨w.heap.size, 4, none⟩ = some (.int .i64 i4) := (by rw [b4.cell (by first | omega | (simp; done) | (simp; omega))]; go_cell); have a5_4 : w4.cell? ⟨w.heap.size, 5, none⟩ = some (.int .i64 i5) := (by rw [b4.cell (by first | omega | (simp; done) | (simp; omega))]; go_cell); have a6_4 : w4.cell? ⟨w.heap.size, 6, none⟩ = some (.int .i64 i6) := (by rw [b4.cell (by first | omega | (simp; done) | (simp; omega))]; go_cell); have a7_4 : w4.cell? ⟨w.heap.size, 7, none⟩ = some (.int .i64 i7) := (by rw [b4.cell (by first | omega | (simp; done) | (simp; omega))]; go_cell); have a8_4 : w4.cell? ⟨w.heap.size, 8, none⟩ = some (.int .i64 i8) := (by rw [b4.cell (by first | omega | (simp; done) | (simp; omega))]; go_cell); have a9_4 : w4.cell? ⟨w.heap.size, 9, none⟩ = some (.int .i64 i9) := (by rw [b4.cell (by first | omega | (simp; done) | (simp; omega))]; go_cell); have a10_4 : w4.cell? ⟨w.heap.size, 10, none⟩ = some (.int .i64 i10) := (by rw [b4.cell (by first | omega | (simp; done) | (simp; omega))]; go_cell); have a11_4 : w4.cell? ⟨w.heap.size, 11, none⟩ = some (.int .i64 i11) := (by rw [b4.cell (by first | omega | (simp; done) | (simp; omega))]; go_cell); have a12_4 : w4.cell? ⟨w.heap.size, 12, none⟩ = some (.slice ao0 L0.length ac0) := (by rw [b4.cell (by first | omega | (simp; done) | (simp; omega))]; go_cell); have a13_4 : w4.cell? ⟨w.heap.size, 13, none⟩ = some (.slice ao1 L1.length ac1) := (by rw [b4.cell (by first | omega | (simp; done) | (simp; omega))]; go_cell); have a14_4 : w4.cell? ⟨w.heap.size, 14, none⟩ = some (.int .i64 i12) := (by rw [b4.cell (by first | omega | (simp; done) | (simp; omega))]; go_cell); have al_4 : w.heap.size < w4.heap.size := (by have := b4.size; first | omega | (revert this; simp; done) | (revert this; simp; omega)); clear a0_3 a1_3 a2_3 a3_3 a4_3 a5_3 a6_3 a7_3 a8_3 a9_3 a10_3 a11_3 a12_3 a13_3 a14_3 al_3) | (go_at_call 13; refine (CS u0 u1 _ (HA.out.later c4) HR.out).mono ?_; rintro e w5 ⟨rfl, b5⟩; have d5 : Below w4.heap.size w4 w5 := (Below.trans (by go_grown) (b5.mono (by first | omega | (simp; done) | (simp; omega)))); have c5 : Below w.heap.size w w5 := c4.trans (d5.mono c4.size); have a0_5 : w5.cell? ⟨w.heap.size, 0, none⟩ = some (.int .i64 i0) := (by rw [b5.cell (by first | omega | (simp; done) | (simp; omega))]; go_cell); have a1_5 : w5.cell? ⟨w.heap.size, 1, none⟩ = some (.int .i64 i1) := (by rw [b5.cell (by first | omega | (simp; done) | (simp; omega))]; go_cell); have a2_5 : w5.cell? ⟨w.heap.size, 2, none⟩ = some (.int .i64 i2) := (by rw [b5.cell (by first | omega | (simp; done) | (simp; omega))]; go_cell); have a3_5 : w5.cell? ⟨w.heap.size, 3, none⟩ = some (.int .i64 i3) := (by rw [b5.cell (by first | omega | (simp; done) | (simp; omega))]; go_cell); have a4_5 : w5.cell? ⟨w.heap.size, 4, none⟩ = some (.int .i64 i4) := (by rw [b5.cell (by first | omega | (simp; done) | (simp; omega))]; go_cell); have a5_5 : w5.cell? ⟨w.heap.size, 5, none⟩ = some (.int .i64 i5) := (by rw [b5.cell (by first | omega | (simp; done) | (simp; omega))]; go_cell); have a6_5 : w5.cell? ⟨w.heap.size, 6, none⟩ = some (.int .i64 i6) := (by rw [b5.cell (by first | omega | (simp; done) | (simp; omega))]; go_cell); have a7_5 : w5.cell? ⟨w.heap.size, 7, none⟩ = some (.int .i64 i7) := (by rw [b5.cell (by first | omega | (simp; done) | (simp; omega))]; go_cell); have a8_5 : w5.cell? ⟨w.heap.size, 8, none⟩ = some (.int .i64 i8) := (by rw [b5.cell (by first | omega | (simp; done) | (simp; omega))]; go_cell); have a9_5 : w5.cell? ⟨w.heap.size, 9, none⟩ = some (.int .i64 i9) := (by rw [b5.cell (by first | omega | (simp; done) | (simp; omega))]; go_cell); have a10_5 : w5.cell? ⟨w.heap.size, 10, none⟩ = some (.int .i64 i10) := (by rw [b5.cell (by first | omega | (simp; done) | (simp; omega))]; go_cell); have a11_5 : w5.cell? ⟨w.heap.size, 11, none⟩ = some (.int .i64 i11) := (by rw [b5.cell (by first | omega | (simp; done) | (simp; omega))]; go_cell); have a12_5 : w5.cell? ⟨w.heap.size, 12, none⟩ = some (.slice ao0 L0.length ac0) := (by rw [b5.cell (by first | omega | (simp; done) | (simp; omega))]; go_cell); have a13_5 : w5.cell? ⟨w.heap.size, 13, none⟩ = some (.slice ao1 L1.length ac1) := (by rw [b5.cell (by first | omega | (simp; done) | (simp; omega))]; go_cell); have a14_5 : w5.cell? ⟨w.heap.size, 14, none⟩ = some (.int .i64 i12) := (by rw [b5.cell (by first | omega | (simp; done) | (simp; omega))]; go_cell); have al_5 : w.heap.size < w5.heap.size := (by have := b5.size; first | omega | (revert this; simp; done) | (revert this; simp; omega)); clear a0_4 a1_4 a2_4 a3_4 a4_4 a5_4 a6_4 a7_4 a8_4 a9_4 a10_4 a11_4 a12_4 a13_4 a14_4 al_4) | (go_at_call 65; refine (need_no _ (HE.out.later c5)).mono ?_; rintro e wz ⟨⟨t, v, rfl⟩, rfl⟩; refine (fun (_ : wpAny Tryz.prog (default : Region.Mode) #[] (fun _ _ _ => True) 0 #[] ({ tmps := #[], defers := [] } : Act) w) => ?_) ?_; · exact ⟨rfl, Or.inr ⟨(by simp [hal]), t, v, rfl⟩, c5⟩)) | fail
          all_goals trivial
      | true =>
        rw [hal] at CS
        as_aux_lemma =>
          first | go_region_with (first | (go_at_call 72; refine (msgAlone_any i0 i1 i2 i3 i4 i5 i6 i7 i8 i9 i10 i11 i12 _ _ L0 L1 _ (HA.out.later (c3.drew))).mono ?_; rintro e w4 ⟨⟨u0, u1, rfl, hR⟩, b4⟩; have HR := hid hR; clear hR; have d4 : Below w3.heap.size w3 w4 := (Below.trans (by go_grown) (b4.mono (by first | omega | (simp; done) | (simp; omega)))); have c4 : Below w.heap.size w w4 := c3.trans (d4.mono c3.size); have a0_4 : w4.cell? ⟨w.heap.size, 0, none⟩ = some (.int .i64 i0) := (by rw [b4.cell (by first | omega | (simp; done) | (simp; omega))]; go_cell); have a1_4 : w4.cell? ⟨w.heap.size, 1, none⟩ = some (.int .i64 i1) := (by rw [b4.cell (by first | omega | (simp; done) | (simp; omega))]; go_cell); have a2_4 : w4.cell? ⟨w.heap.size, 2, none⟩ = some (.int .i64 i2) := (by rw [b4.cell (by first | omega | (simp; done) | (simp; omega))]; go_cell); have a3_4 : w4.cell? ⟨w.heap.size, 3, none⟩ = some (.int .i64 i3) := (by rw [b4.cell (by first | omega | (simp; done) | (simp; omega))]; go_cell); have a4_4 : w4.cell? ⟨w.heap.size, 4, none⟩ = some (.int .i64 i4) := (by rw [b4.cell (by first | omega | (simp; done) | (simp; omega))]; go_cell); have a5_4 : w4.cell? ⟨w.heap.size, 5, none⟩ = some (.int .i64 i5) := (by rw [b4.cell (by first | omega | (simp; done) | (simp; omega))]; go_cell); have a6_4 : w4.cell? ⟨w.heap.size, 6, none⟩ = some (.int .i64 i6) := (by rw [b4.cell (by first | omega | (simp; done) | (simp; omega))]; go_cell); have a7_4 : w4.cell? ⟨w.heap.size, 7, none⟩ = some (.int .i64 i7) := (by rw [b4.cell (by first | omega | (simp; done) | (simp; omega))]; go_cell); have a8_4 : w4.cell? ⟨w.heap.size, 8, none⟩ = some (.int .i64 i8) := (by rw [b4.cell (by first | omega | (simp; done) | (simp; omega))]; go_cell); have a9_4 : w4.cell? ⟨w.heap.size, 9, none⟩ = some (.int .i64 i9) := (by rw [b4.cell (by first | omega | (simp; done) | (simp; omega))]; go_cell); have a10_4 : w4.cell? ⟨w.heap.size, 10, none⟩ = some (.int .i64 i10) := (by rw [b4.cell (by first | omega | (simp; done) | (simp; omega))]; go_cell); have a11_4 : w4.cell? ⟨w.heap.size, 11, none⟩ = some (.int .i64 i11) := (by rw [b4.cell (by first | omega | (simp; done) | (simp; omega))]; go_cell); have a12_4 : w4.cell? ⟨w.heap.size, 12, none⟩ = some (.slice ao0 L0.length ac0) := (by rw [b4.cell (by first | omega | (simp; done) | (simp; omega))]; go_cell); have a13_4 : w4.cell? ⟨w.heap.size, 13, none⟩ = some (.slice ao1 L1.length ac1) := (by rw [b4.cell (by first | omega | (simp; done) | (simp; omega))]; go_cell); have a14_4 : w4.cell? ⟨w.heap.size, 14, none⟩ = some (.int .i64 i12) := (by rw [b4.cell (by first | omega | (simp; done) | (simp; omega))]; go_cell); have al_4 : w.heap.size < w4.heap.size := (by have := b4.size; first | omega | (revert this; simp; done) | (revert this; simp; omega)); clear a0_3 a1_3 a2_3 a3_3 a4_3 a5_3 a6_3 a7_3 a8_3 a9_3 a10_3 a11_3 a12_3 a13_3 a14_3 al_3) | (go_at_call 13; refine (CS u0 u1 _ (HA.out.later c4) HR.out).mono ?_; rintro e w5 ⟨rfl, b5⟩; have d5 : Below w4.heap.size w4 w5 := (Below.trans (by go_grown) (b5.mono (by first | omega | (simp; done) | (simp; omega)))); have c5 : Below w.heap.size w w5 := c4.trans (d5.mono c4.size); have a0_5 : w5.cell? ⟨w.heap.size, 0, none⟩ = some (.int .i64 i0) := (by rw [b5.cell (by first | omega | (simp; done) | (simp; omega))]; go_cell); have a1_5 : w5.cell? ⟨w.heap.size, 1, none⟩ = some (.int .i64 i1) := (by rw [b5.cell (by first | omega | (simp; done) | (simp; omega))]; go_cell); have a2_5 : w5.cell? ⟨w.heap.size, 2, none⟩ = some (.int .i64 i2) := (by rw [b5.cell (by first | omega | (simp; done) | (simp; omega))]; go_cell); have a3_5 : w5.cell? ⟨w.heap.size, 3, none⟩ = some (.int .i64 i3) := (by rw [b5.cell (by first | omega | (simp; done) | (simp; omega))]; go_cell); have a4_5 : w5.cell? ⟨w.heap.size, 4, none⟩ = some (.int .i64 i4) := (by rw [b5.cell (by first | omega | (simp; done) | (simp; omega))]; go_cell); have a5_5 : w5.cell? ⟨w.heap.size, 5, none⟩ = some (.int .i64 i5) := (by rw [b5.cell (by first | omega | (simp; done) | (simp; omega))]; go_cell); have a6_5 : w5.cell? ⟨w.heap.size, 6, none⟩ = some (.int .i64 i6) := (by rw [b5.cell (by first | omega | (simp; done) | (simp; omega))]; go_cell); have a7_5 : w5.cell? ⟨w.heap.size, 7, none⟩ = some (.int .i64 i7) := (by rw [b5.cell (by first | omega | (simp; done) | (simp; omega))]; go_cell); have a8_5 : w5.cell? ⟨w.heap.size, 8, none⟩ = some (.int .i64 i8) := (by rw [b5.cell (by first | omega | (simp; done) | (simp; omega))]; go_cell); have a9_5 : w5.cell? ⟨w.heap.size, 9, none⟩ = some (.int .i64 i9) := (by rw [b5.cell (by first | omega | (simp; done) | (simp; omega))]; go_cell); have a10_5 : w5.cell? ⟨w.heap.size, 10, none⟩ = some (.int .i64 i10) := (by rw [b5.cell (by first | omega | (simp; done) | (simp; omega))]; go_cell); have a11_5 : w5.cell? ⟨w.heap.size, 11, none⟩ = some (.int .i64 i11) := (by rw [b5.cell (by first | omega | (simp; done) | (simp; omega))]; go_cell); have a12_5 : w5.cell? ⟨w.heap.size, 12, none⟩ = some (.slice ao0 L0.length ac0) := (by rw [b5.cell (by first | omega | (simp; done) | (simp; omega))]; go_cell); have a13_5 : w5.cell? ⟨w.heap.size, 13, none⟩ = some (.slice ao1 L1.length ac1) := (by rw [b5.cell (by first | omega | (simp; done) | (simp; omega))]; go_cell); have a14_5 : w5.cell? ⟨w.heap.size, 14, none⟩ = some (.int .i64 i12) := (by rw [b5.cell (by first | omega | (simp; done) | (simp; omega))]; go_cell); have al_5 : w.heap.size < w5.heap.size := (by have := b5.size; first | omega | (revert this; simp; done) | (revert this; simp; omega)); clear a0_4 a1_4 a2_4 a3_4 a4_4 a5_4 a6_4 a7_4 a8_4 a9_4 a10_4 a11_4 a12_4 a13_4 a14_4 al_4) | (go_at_call 65; refine (need_yes _).mono ?_; rintro e wz ⟨rfl, hz⟩; obtain rfl := hz.symm; clear hz)) | fail
          all_goals
            as_aux_lemma =>
              go_wp2_with fail
              refine (askNumbers_any i0 i1 i2 i3 i4 i5 i6 i7 i8 i9 i10 i11 i12 _ _ L0 L1 _ (HA.out.later c5) (HE.out.later c5)).mono ?_
              rintro e w6 ⟨hA, b6⟩
              have d6 : Below w5.heap.size w5 w6 := (Below.trans (by go_grown) (b6.mono (by first | omega | (simp; done) | (simp; omega))))
              have c6 : Below w.heap.size w w6 := c5.trans (d6.mono c5.size)
              have a0_6 : w6.cell? ⟨w.heap.size, 0, none⟩ = some (.int .i64 i0) := (by rw [b6.cell (by first | omega | (simp; done) | (simp; omega))]; go_cell)
              have a1_6 : w6.cell? ⟨w.heap.size, 1, none⟩ = some (.int .i64 i1) := (by rw [b6.cell (by first | omega | (simp; done) | (simp; omega))]; go_cell)
              have a2_6 : w6.cell? ⟨w.heap.size, 2, none⟩ = some (.int .i64 i2) := (by rw [b6.cell (by first | omega | (simp; done) | (simp; omega))]; go_cell)
              have a3_6 : w6.cell? ⟨w.heap.size, 3, none⟩ = some (.int .i64 i3) := (by rw [b6.cell (by first | omega | (simp; done) | (simp; omega))]; go_cell)
              have a4_6 : w6.cell? ⟨w.heap.size, 4, none⟩ = some (.int .i64 i4) := (by rw [b6.cell (by first | omega | (simp; done) | (simp; omega))]; go_cell)
              have a5_6 : w6.cell? ⟨w.heap.size, 5, none⟩ = some (.int .i64 i5) := (by rw [b6.cell (by first | omega | (simp; done) | (simp; omega))]; go_cell)
              have a6_6 : w6.cell? ⟨w.heap.size, 6, none⟩ = some (.int .i64 i6) := (by rw [b6.cell (by first | omega | (simp; done) | (simp; omega))]; go_cell)
              have a7_6 : w6.cell? ⟨w.heap.size, 7, none⟩ = some (.int .i64 i7) := (by rw [b6.cell (by first | omega | (simp; done) | (simp; omega))]; go_cell)
              have a8_6 : w6.cell? ⟨w.heap.size, 8, none⟩ = some (.int .i64 i8) := (by rw [b6.cell (by first | omega | (simp; done) | (simp; omega))]; go_cell)
              have a9_6 : w6.cell? ⟨w.heap.size, 9, none⟩ = some (.int .i64 i9) := (by rw [b6.cell (by first | omega | (simp; done) | (simp; omega))]; go_cell)
              have a10_6 : w6.cell? ⟨w.heap.size, 10, none⟩ = some (.int .i64 i10) := (by rw [b6.cell (by first | omega | (simp; done) | (simp; omega))]; go_cell)
              have a11_6 : w6.cell? ⟨w.heap.size, 11, none⟩ = some (.int .i64 i11) := (by rw [b6.cell (by first | omega | (simp; done) | (simp; omega))]; go_cell)
              have a12_6 : w6.cell? ⟨w.heap.size, 12, none⟩ = some (.slice ao0 L0.length ac0) := (by rw [b6.cell (by first | omega | (simp; done) | (simp; omega))]; go_cell)
              have a13_6 : w6.cell? ⟨w.heap.size, 13, none⟩ = some (.slice ao1 L1.length ac1) := (by rw [b6.cell (by first | omega | (simp; done) | (simp; omega))]; go_cell)
              have a14_6 : w6.cell? ⟨w.heap.size, 14, none⟩ = some (.int .i64 i12) := (by rw [b6.cell (by first | omega | (simp; done) | (simp; omega))]; go_cell)
              have al_6 : w.heap.size < w6.heap.size := (by have := b6.size; first | omega | (revert this; simp; done) | (revert this; simp; omega))
              clear a0_5 a1_5 a2_5 a3_5 a4_5 a5_5 a6_5 a7_5 a8_5 a9_5 a10_5 a11_5 a12_5 a13_5 a14_5 al_5
              clear b6 d6
              rcases hA with ⟨hnu, rfl⟩ | ⟨hnu, t, v, rfl⟩
              · go_wp2_with fail
                refine (askTold_any i0 i1 i2 i3 i4 i5 i6 i7 i8 i9 i10 i11 i12 _ _ L0 L1 _ (HA.out.later c6) (HE.out.later c6)).mono ?_
                rintro e w7 ⟨hA, b7⟩
                have c7 : Below w.heap.size w w7 := c6.trans (b7.mono c6.size)
                rcases hA with ⟨hto, rfl⟩ | ⟨hto, t, v, rfl⟩
                · go_wp2_with fail
                  exact ⟨rfl, .tuple #[], by simp [results, Tryz.results35, go_sem], Or.inl ⟨by simp [hr, hn3, hn4, hp, hal, hnu, hto], rfl⟩, c7⟩
                · exact ⟨rfl, Or.inr ⟨by simp [hto], t, v, rfl⟩, c7⟩
              · exact ⟨rfl, Or.inr ⟨by simp [hnu], t, v, rfl⟩, c6⟩

set_option maxRecDepth 100000 in
set_option maxHeartbeats 2000000 in
theorem msgOk1_any (i0 i1 i2 i3 i4 i5 i6 i7 i8 i9 i10 i11 i12 : Int) (ao0 ao1 : Option Addr) (ac0 ac1 : Nat) (L0 : List (Int × Int)) (L1 : List KD) (b : Nat) (w : World) (ha : RSMsg w (.slice ao0 L0.length ac0) (.slice ao1 L1.length ac1) L0 L1) (hE : ErrM w) (x0 : w.cell? ⟨b, 0, none⟩ = some (.int .i64 i0)) (x1 : w.cell? ⟨b, 1, none⟩ = some (.int .i64 i1)) (x2 : w.cell? ⟨b, 2, none⟩ = some (.int .i64 i2)) (x3 : w.cell? ⟨b, 3, none⟩ = some (.int .i64 i3)) (x4 : w.cell? ⟨b, 4, none⟩ = some (.int .i64 i4)) (x5 : w.cell? ⟨b, 5, none⟩ = some (.int .i64 i5)) (x6 : w.cell? ⟨b, 6, none⟩ = some (.int .i64 i6)) (x7 : w.cell? ⟨b, 7, none⟩ = some (.int .i64 i7)) (x8 : w.cell? ⟨b, 8, none⟩ = some (.int .i64 i8)) (x9 : w.cell? ⟨b, 9, none⟩ = some (.int .i64 i9)) (x10 : w.cell? ⟨b, 10, none⟩ = some (.int .i64 i10)) (x11 : w.cell? ⟨b, 11, none⟩ = some (.int .i64 i11)) (x12 : w.cell? ⟨b, 12, none⟩ = some (.slice ao0 L0.length ac0)) (x13 : w.cell? ⟨b, 13, none⟩ = some (.slice ao1 L1.length ac1)) (x14 : w.cell? ⟨b, 14, none⟩ = some (.int .i64 i12)) :
    Calls Tryz.prog 34 #[.pointer (some ⟨b, 0, none⟩)] w fun e w' => Asked (okM i0 i1 i2 i3 i4 i5 i6 i7 i8 i9 i10 i11 i12 L0 L1) e ∧ Below w.heap.size w w' := by
  have HA := hid ha
  have HE := hid hE
  clear hE ha
  go_enter Tryz.func34, Tryz.ntmps34
  go_wp2_with fail
  refine (askMsg_any i0 i1 i2 i3 i4 i5 i6 i7 i8 i9 i10 i11 i12 _ _ L0 L1 _ HA.out HE.out).mono ?_
  rintro e w2 ⟨hA, b2⟩
  rcases hA with ⟨ho, rfl⟩ | ⟨ho, t, v, rfl⟩
  · go_wp2_with fail
    exact ⟨rfl, .tuple #[], by simp [results, Tryz.results34, go_sem], Or.inl ⟨ho, rfl⟩, b2⟩
  · exact ⟨rfl, Or.inr ⟨ho, t, v, rfl⟩, b2⟩

set_option maxRecDepth 100000 in
set_option maxHeartbeats 2000000 in
theorem implMOk_any (i0 i1 i2 i3 i4 i5 i6 i7 i8 i9 i10 i11 i12 : Int) (va0 va1 : Value) (L0 : List (Int × Int)) (L1 : List KD) (w : World) (ha : RSMsg w va0 va1 L0 L1) (hE : ErrM w) :
    Calls Tryz.prog 11 #[.agg #[.int .i64 i0, .int .i64 i1, .int .i64 i2, .int .i64 i3, .int .i64 i4, .int .i64 i5, .int .i64 i6, .int .i64 i7, .int .i64 i8, .int .i64 i9, .int .i64 i10, .int .i64 i11, va0, va1, .int .i64 i12]] w fun e w' => e = .returned (.bool (okM i0 i1 i2 i3 i4 i5 i6 i7 i8 i9 i10 i11 i12 L0 L1)) ∧ Below w.heap.size w w' := by
  have HA := hid ha
  have HE := hid hE
  clear hE
  obtain ⟨ao0, ao1, ac0, ac1, rfl, rfl⟩ := ha.open
  clear ha
  have hmf : ∀ (fn : Fn) (first cap : Array Value) (w : World), (Instr.makeFunc fn first cap).run Tryz.prog w = .ok (.func fn first cap) w := fun _ _ _ _ => rfl
  go_enter Tryz.func11, Tryz.ntmps11
  go_wp2_with fail
  have a0_1 : (w.alloc (.cells #[.int .i64 i0, .int .i64 i1, .int .i64 i2, .int .i64 i3, .int .i64 i4, .int .i64 i5, .int .i64 i6, .int .i64 i7, .int .i64 i8, .int .i64 i9, .int .i64 i10, .int .i64 i11, .slice ao0 L0.length ac0, .slice ao1 L1.length ac1, .int .i64 i12] 32)).cell? ⟨w.heap.size, 0, none⟩ = some (.int .i64 i0) := by go_cell
  have a1_1 : (w.alloc (.cells #[.int .i64 i0, .int .i64 i1, .int .i64 i2, .int .i64 i3, .int .i64 i4, .int .i64 i5, .int .i64 i6, .int .i64 i7, .int .i64 i8, .int .i64 i9, .int .i64 i10, .int .i64 i11, .slice ao0 L0.length ac0, .slice ao1 L1.length ac1, .int .i64 i12] 32)).cell? ⟨w.heap.size, 1, none⟩ = some (.int .i64 i1) := by go_cell
  have a2_1 : (w.alloc (.cells #[.int .i64 i0, .int .i64 i1, .int .i64 i2, .int .i64 i3, .int .i64 i4, .int .i64 i5, .int .i64 i6, .int .i64 i7, .int .i64 i8, .int .i64 i9, .int .i64 i10, .int .i64 i11, .slice ao0 L0.length ac0, .slice ao1 L1.length ac1, .int .i64 i12] 32)).cell? ⟨w.heap.size, 2, none⟩ = some (.int .i64 i2) := by go_cell
  have a3_1 : (w.alloc (.cells #[.int .i64 i0, .int .i64 i1, .int .i64 i2, .int .i64 i3, .int .i64 i4, .int .i64 i5, .int .i64 i6, .int .i64 i7, .int .i64 i8, .int .i64 i9, .int .i64 i10, .int .i64 i11, .slice ao0 L0.length ac0, .slice ao1 L1.length ac1, .int .i64 i12] 32)).cell? ⟨w.heap.size, 3, none⟩ = some (.int .i64 i3) := by go_cell
  have a4_1 : (w.alloc (.cells #[.int .i64 i0, .int .i64 i1, .int .i64 i2, .int .i64 i3, .int .i64 i4, .int .i64 i5, .int .i64 i6, .int .i64 i7, .int .i64 i8, .int .i64 i9, .int .i64 i10, .int .i64 i11, .slice ao0 L0.length ac0, .slice ao1 L1.length ac1, .int .i64 i12] 32)).cell? ⟨w.heap.size, 4, none⟩ = some (.int .i64 i4) := by go_cell
  have a5_1 : (w.alloc (.cells #[.int .i64 i0, .int .i64 i1, .int .i64 i2, .int .i64 i3, .int .i64 i4, .int .i64 i5, .int .i64 i6, .int .i64 i7, .int .i64 i8, .int .i64 i9, .int .i64 i10, .int .i64 i11, .slice ao0 L0.length ac0, .slice ao1 L1.length ac1, .int .i64 i12] 32)).cell? ⟨w.heap.size, 5, none⟩ = some (.int .i64 i5) := by go_cell
  have a6_1 : (w.alloc (.cells #[.int .i64 i0, .int .i64 i1, .int .i64 i2, .int .i64 i3, .int .i64 i4, .int .i64 i5, .int .i64 i6, .int .i64 i7, .int .i64 i8, .int .i64 i9, .int .i64 i10, .int .i64 i11, .slice ao0 L0.length ac0, .slice ao1 L1.length ac1, .int .i64 i12] 32)).cell? ⟨w.heap.size, 6, none⟩ = some (.int .i64 i6) := by go_cell
  have a7_1 : (w.alloc (.cells #[.int .i64 i0, .int .i64 i1, .int .i64 i2, .int .i64 i3, .int .i64 i4, .int .i64 i5, .int .i64 i6, .int .i64 i7, .int .i64 i8, .int .i64 i9, .int .i64 i10, .int .i64 i11, .slice ao0 L0.length ac0, .slice ao1 L1.length ac1, .int .i64 i12] 32)).cell? ⟨w.heap.size, 7, none⟩ = some (.int .i64 i7) := by go_cell
  have a8_1 : (w.alloc (.cells #[.int .i64 i0, .int .i64 i1, .int .i64 i2, .int .i64 i3, .int .i64 i4, .int .i64 i5, .int .i64 i6, .int .i64 i7, .int .i64 i8, .int .i64 i9, .int .i64 i10, .int .i64 i11, .slice ao0 L0.length ac0, .slice ao1 L1.length ac1, .int .i64 i12] 32)).cell? ⟨w.heap.size, 8, none⟩ = some (.int .i64 i8) := by go_cell
  have a9_1 : (w.alloc (.cells #[.int .i64 i0, .int .i64 i1, .int .i64 i2, .int .i64 i3, .int .i64 i4, .int .i64 i5, .int .i64 i6, .int .i64 i7, .int .i64 i8, .int .i64 i9, .int .i64 i10, .int .i64 i11, .slice ao0 L0.length ac0, .slice ao1 L1.length ac1, .int .i64 i12] 32)).cell? ⟨w.heap.size, 9, none⟩ = some (.int .i64 i9) := by go_cell
  have a10_1 : (w.alloc (.cells #[.int .i64 i0, .int .i64 i1, .int .i64 i2, .int .i64 i3, .int .i64 i4, .int .i64 i5, .int .i64 i6, .int .i64 i7, .int .i64 i8, .int .i64 i9, .int .i64 i10, .int .i64 i11, .slice ao0 L0.length ac0, .slice ao1 L1.length ac1, .int .i64 i12] 32)).cell? ⟨w.heap.size, 10, none⟩ = some (.int .i64 i10) := by go_cell
  have a11_1 : (w.alloc (.cells #[.int .i64 i0, .int .i64 i1, .int .i64 i2, .int .i64 i3, .int .i64 i4, .int .i64 i5, .int .i64 i6, .int .i64 i7, .int .i64 i8, .int .i64 i9, .int .i64 i10, .int .i64 i11, .slice ao0 L0.length ac0, .slice ao1 L1.length ac1, .int .i64 i12] 32)).cell? ⟨w.heap.size, 11, none⟩ = some (.int .i64 i11) := by go_cell
  have a12_1 : (w.alloc (.cells #[.int .i64 i0, .int .i64 i1, .int .i64 i2, .int .i64 i3, .int .i64 i4, .int .i64 i5, .int .i64 i6, .int .i64 i7, .int .i64 i8, .int .i64 i9, .int .i64 i10, .int .i64 i11, .slice ao0 L0.length ac0, .slice ao1 L1.length ac1, .int .i64 i12] 32)).cell? ⟨w.heap.size, 12, none⟩ = some (.slice ao0 L0.length ac0) := by go_cell
  have a13_1 : (w.alloc (.cells #[.int .i64 i0, .int .i64 i1, .int .i64 i2, .int .i64 i3, .int .i64 i4, .int .i64 i5, .int .i64 i6, .int .i64 i7, .int .i64 i8, .int .i64 i9, .int .i64 i10, .int .i64 i11, .slice ao0 L0.length ac0, .slice ao1 L1.length ac1, .int .i64 i12] 32)).cell? ⟨w.heap.size, 13, none⟩ = some (.slice ao1 L1.length ac1) := by go_cell
  have a14_1 : (w.alloc (.cells #[.int .i64 i0, .int .i64 i1, .int .i64 i2, .int .i64 i3, .int .i64 i4, .int .i64 i5, .int .i64 i6, .int .i64 i7, .int .i64 i8, .int .i64 i9, .int .i64 i10, .int .i64 i11, .slice ao0 L0.length ac0, .slice ao1 L1.length ac1, .int .i64 i12] 32)).cell? ⟨w.heap.size, 14, none⟩ = some (.int .i64 i12) := by go_cell
  have al_1 : w.heap.size < (w.alloc (.cells #[.int .i64 i0, .int .i64 i1, .int .i64 i2, .int .i64 i3, .int .i64 i4, .int .i64 i5, .int .i64 i6, .int .i64 i7, .int .i64 i8, .int .i64 i9, .int .i64 i10, .int .i64 i11, .slice ao0 L0.length ac0, .slice ao1 L1.length ac1, .int .i64 i12] 32)).heap.size := by first | (simp; done) | (simp; omega)
  have c1 : Below w.heap.size w (w.alloc (.cells #[.int .i64 i0, .int .i64 i1, .int .i64 i2, .int .i64 i3, .int .i64 i4, .int .i64 i5, .int .i64 i6, .int .i64 i7, .int .i64 i8, .int .i64 i9, .int .i64 i10, .int .i64 i11, .slice ao0 L0.length ac0, .slice ao1 L1.length ac1, .int .i64 i12] 32)) := by go_grown
  have s1 : (w.alloc (.cells #[.int .i64 i0, .int .i64 i1, .int .i64 i2, .int .i64 i3, .int .i64 i4, .int .i64 i5, .int .i64 i6, .int .i64 i7, .int .i64 i8, .int .i64 i9, .int .i64 i10, .int .i64 i11, .slice ao0 L0.length ac0, .slice ao1 L1.length ac1, .int .i64 i12] 32)).heap.size = w.heap.size + 1 := by simp
  generalize (w.alloc (.cells #[.int .i64 i0, .int .i64 i1, .int .i64 i2, .int .i64 i3, .int .i64 i4, .int .i64 i5, .int .i64 i6, .int .i64 i7, .int .i64 i8, .int .i64 i9, .int .i64 i10, .int .i64 i11, .slice ao0 L0.length ac0, .slice ao1 L1.length ac1, .int .i64 i12] 32)) = w1 at a0_1 a1_1 a2_1 a3_1 a4_1 a5_1 a6_1 a7_1 a8_1 a9_1 a10_1 a11_1 a12_1 a13_1 a14_1 al_1 c1 s1 ⊢
  have qa0_1 := cell_regrown a0_1
  have qa1_1 := cell_regrown a1_1
  have qa2_1 := cell_regrown a2_1
  have qa3_1 := cell_regrown a3_1
  have qa4_1 := cell_regrown a4_1
  have qa5_1 := cell_regrown a5_1
  have qa6_1 := cell_regrown a6_1
  have qa7_1 := cell_regrown a7_1
  have qa8_1 := cell_regrown a8_1
  have qa9_1 := cell_regrown a9_1
  have qa10_1 := cell_regrown a10_1
  have qa11_1 := cell_regrown a11_1
  have qa12_1 := cell_regrown a12_1
  have qa13_1 := cell_regrown a13_1
  have qa14_1 := cell_regrown a14_1
  refine (isNone_any ⟨w.heap.size, 0, none⟩ (okM i0 i1 i2 i3 i4 i5 i6 i7 i8 i9 i10 i11 i12 L0 L1) _ (fun W hW => msgOk1_any i0 i1 i2 i3 i4 i5 i6 i7 i8 i9 i10 i11 i12 ao0 ao1 ac0 ac1 L0 L1 _ W ((HA.out.later c1).later hW) ((HE.out.later c1).later hW) ((hW.cell (p := ⟨w.heap.size, 0, none⟩) al_1).trans a0_1) ((hW.cell (p := ⟨w.heap.size, 1, none⟩) al_1).trans a1_1) ((hW.cell (p := ⟨w.heap.size, 2, none⟩) al_1).trans a2_1) ((hW.cell (p := ⟨w.heap.size, 3, none⟩) al_1).trans a3_1) ((hW.cell (p := ⟨w.heap.size, 4, none⟩) al_1).trans a4_1) ((hW.cell (p := ⟨w.heap.size, 5, none⟩) al_1).trans a5_1) ((hW.cell (p := ⟨w.heap.size, 6, none⟩) al_1).trans a6_1) ((hW.cell (p := ⟨w.heap.size, 7, none⟩) al_1).trans a7_1) ((hW.cell (p := ⟨w.heap.size, 8, none⟩) al_1).trans a8_1) ((hW.cell (p := ⟨w.heap.size, 9, none⟩) al_1).trans a9_1) ((hW.cell (p := ⟨w.heap.size, 10, none⟩) al_1).trans a10_1) ((hW.cell (p := ⟨w.heap.size, 11, none⟩) al_1).trans a11_1) ((hW.cell (p := ⟨w.heap.size, 12, none⟩) al_1).trans a12_1) ((hW.cell (p := ⟨w.heap.size, 13, none⟩) al_1).trans a13_1) ((hW.cell (p := ⟨w.heap.size, 14, none⟩) al_1).trans a14_1))).mono ?_
  rintro e w2 ⟨rfl, b2⟩
  have c2 := c1.trans (b2.mono c1.size)
  go_wp2_with fail
  go_ret
  exact ⟨by simp, c2⟩
end Go.Proofs.YtfdcnolcjgjfjaaGreatDoor

/- Part: spec.l6Body at some kinds: contracts. Written by a program (gmk.py). -/
namespace Go.Proofs.YtfdcnolcjgjfjaaGreatDoor
open Go.RowKit
attribute [local go_sem ↓] Go.wp_at_zero Go.wp_at_succ

set_option maxRecDepth 100000 in
set_option maxHeartbeats 16000000 in
theorem l6Body_1 (i1 i2 i3 i4 i5 i6 i7 i8 i9 i10 i11 i12 : Int) (va0 va1 : Value) (L0 : List (Int × Int)) (L1 : List KD) (w : World) (ha : RSMsg w va0 va1 L0 L1) :
    Calls Tryz.prog 36 #[.agg #[.int .i64 1, .int .i64 i1, .int .i64 i2, .int .i64 i3, .int .i64 i4, .int .i64 i5, .int .i64 i6, .int .i64 i7, .int .i64 i8, .int .i64 i9, .int .i64 i10, .int .i64 i11, va0, va1, .int .i64 i12]] w fun e w' => e = .returned (.bool (bodyM 1 i1 i2 i3 i4 i5 i6 i7 i8 i9 i10 i11 i12 L0 L1)) ∧ Below w.heap.size w w' := by
  have HA := hid ha
  obtain ⟨ao0, ao1, ac0, ac1, rfl, rfl⟩ := ha.open
  clear ha
  obtain ⟨itv, hit⟩ : ∃ b : Bool, (itR i9 i10 i11 L0 && decide (partOf i9 = i2)) = b := ⟨_, rfl⟩
  have HIT := hid hit
  clear hit
  go_enter Tryz.func36, Tryz.ntmps36
  go_wp2_with fail
  have a0_1 : (w.alloc (.cells #[.int .i64 1, .int .i64 i1, .int .i64 i2, .int .i64 i3, .int .i64 i4, .int .i64 i5, .int .i64 i6, .int .i64 i7, .int .i64 i8, .int .i64 i9, .int .i64 i10, .int .i64 i11, .slice ao0 L0.length ac0, .slice ao1 L1.length ac1, .int .i64 i12] 32)).cell? ⟨w.heap.size, 0, none⟩ = some (.int .i64 1) := by go_cell
  have a1_1 : (w.alloc (.cells #[.int .i64 1, .int .i64 i1, .int .i64 i2, .int .i64 i3, .int .i64 i4, .int .i64 i5, .int .i64 i6, .int .i64 i7, .int .i64 i8, .int .i64 i9, .int .i64 i10, .int .i64 i11, .slice ao0 L0.length ac0, .slice ao1 L1.length ac1, .int .i64 i12] 32)).cell? ⟨w.heap.size, 1, none⟩ = some (.int .i64 i1) := by go_cell
  have a2_1 : (w.alloc (.cells #[.int .i64 1, .int .i64 i1, .int .i64 i2, .int .i64 i3, .int .i64 i4, .int .i64 i5, .int .i64 i6, .int .i64 i7, .int .i64 i8, .int .i64 i9, .int .i64 i10, .int .i64 i11, .slice ao0 L0.length ac0, .slice ao1 L1.length ac1, .int .i64 i12] 32)).cell? ⟨w.heap.size, 2, none⟩ = some (.int .i64 i2) := by go_cell
  have a3_1 : (w.alloc (.cells #[.int .i64 1, .int .i64 i1, .int .i64 i2, .int .i64 i3, .int .i64 i4, .int .i64 i5, .int .i64 i6, .int .i64 i7, .int .i64 i8, .int .i64 i9, .int .i64 i10, .int .i64 i11, .slice ao0 L0.length ac0, .slice ao1 L1.length ac1, .int .i64 i12] 32)).cell? ⟨w.heap.size, 3, none⟩ = some (.int .i64 i3) := by go_cell
  have a4_1 : (w.alloc (.cells #[.int .i64 1, .int .i64 i1, .int .i64 i2, .int .i64 i3, .int .i64 i4, .int .i64 i5, .int .i64 i6, .int .i64 i7, .int .i64 i8, .int .i64 i9, .int .i64 i10, .int .i64 i11, .slice ao0 L0.length ac0, .slice ao1 L1.length ac1, .int .i64 i12] 32)).cell? ⟨w.heap.size, 4, none⟩ = some (.int .i64 i4) := by go_cell
  have a5_1 : (w.alloc (.cells #[.int .i64 1, .int .i64 i1, .int .i64 i2, .int .i64 i3, .int .i64 i4, .int .i64 i5, .int .i64 i6, .int .i64 i7, .int .i64 i8, .int .i64 i9, .int .i64 i10, .int .i64 i11, .slice ao0 L0.length ac0, .slice ao1 L1.length ac1, .int .i64 i12] 32)).cell? ⟨w.heap.size, 5, none⟩ = some (.int .i64 i5) := by go_cell
  have a6_1 : (w.alloc (.cells #[.int .i64 1, .int .i64 i1, .int .i64 i2, .int .i64 i3, .int .i64 i4, .int .i64 i5, .int .i64 i6, .int .i64 i7, .int .i64 i8, .int .i64 i9, .int .i64 i10, .int .i64 i11, .slice ao0 L0.length ac0, .slice ao1 L1.length ac1, .int .i64 i12] 32)).cell? ⟨w.heap.size, 6, none⟩ = some (.int .i64 i6) := by go_cell
  have a7_1 : (w.alloc (.cells #[.int .i64 1, .int .i64 i1, .int .i64 i2, .int .i64 i3, .int .i64 i4, .int .i64 i5, .int .i64 i6, .int .i64 i7, .int .i64 i8, .int .i64 i9, .int .i64 i10, .int .i64 i11, .slice ao0 L0.length ac0, .slice ao1 L1.length ac1, .int .i64 i12] 32)).cell? ⟨w.heap.size, 7, none⟩ = some (.int .i64 i7) := by go_cell
  have a8_1 : (w.alloc (.cells #[.int .i64 1, .int .i64 i1, .int .i64 i2, .int .i64 i3, .int .i64 i4, .int .i64 i5, .int .i64 i6, .int .i64 i7, .int .i64 i8, .int .i64 i9, .int .i64 i10, .int .i64 i11, .slice ao0 L0.length ac0, .slice ao1 L1.length ac1, .int .i64 i12] 32)).cell? ⟨w.heap.size, 8, none⟩ = some (.int .i64 i8) := by go_cell
  have a9_1 : (w.alloc (.cells #[.int .i64 1, .int .i64 i1, .int .i64 i2, .int .i64 i3, .int .i64 i4, .int .i64 i5, .int .i64 i6, .int .i64 i7, .int .i64 i8, .int .i64 i9, .int .i64 i10, .int .i64 i11, .slice ao0 L0.length ac0, .slice ao1 L1.length ac1, .int .i64 i12] 32)).cell? ⟨w.heap.size, 9, none⟩ = some (.int .i64 i9) := by go_cell
  have a10_1 : (w.alloc (.cells #[.int .i64 1, .int .i64 i1, .int .i64 i2, .int .i64 i3, .int .i64 i4, .int .i64 i5, .int .i64 i6, .int .i64 i7, .int .i64 i8, .int .i64 i9, .int .i64 i10, .int .i64 i11, .slice ao0 L0.length ac0, .slice ao1 L1.length ac1, .int .i64 i12] 32)).cell? ⟨w.heap.size, 10, none⟩ = some (.int .i64 i10) := by go_cell
  have a11_1 : (w.alloc (.cells #[.int .i64 1, .int .i64 i1, .int .i64 i2, .int .i64 i3, .int .i64 i4, .int .i64 i5, .int .i64 i6, .int .i64 i7, .int .i64 i8, .int .i64 i9, .int .i64 i10, .int .i64 i11, .slice ao0 L0.length ac0, .slice ao1 L1.length ac1, .int .i64 i12] 32)).cell? ⟨w.heap.size, 11, none⟩ = some (.int .i64 i11) := by go_cell
  have a12_1 : (w.alloc (.cells #[.int .i64 1, .int .i64 i1, .int .i64 i2, .int .i64 i3, .int .i64 i4, .int .i64 i5, .int .i64 i6, .int .i64 i7, .int .i64 i8, .int .i64 i9, .int .i64 i10, .int .i64 i11, .slice ao0 L0.length ac0, .slice ao1 L1.length ac1, .int .i64 i12] 32)).cell? ⟨w.heap.size, 12, none⟩ = some (.slice ao0 L0.length ac0) := by go_cell
  have a13_1 : (w.alloc (.cells #[.int .i64 1, .int .i64 i1, .int .i64 i2, .int .i64 i3, .int .i64 i4, .int .i64 i5, .int .i64 i6, .int .i64 i7, .int .i64 i8, .int .i64 i9, .int .i64 i10, .int .i64 i11, .slice ao0 L0.length ac0, .slice ao1 L1.length ac1, .int .i64 i12] 32)).cell? ⟨w.heap.size, 13, none⟩ = some (.slice ao1 L1.length ac1) := by go_cell
  have a14_1 : (w.alloc (.cells #[.int .i64 1, .int .i64 i1, .int .i64 i2, .int .i64 i3, .int .i64 i4, .int .i64 i5, .int .i64 i6, .int .i64 i7, .int .i64 i8, .int .i64 i9, .int .i64 i10, .int .i64 i11, .slice ao0 L0.length ac0, .slice ao1 L1.length ac1, .int .i64 i12] 32)).cell? ⟨w.heap.size, 14, none⟩ = some (.int .i64 i12) := by go_cell
  have al_1 : w.heap.size < (w.alloc (.cells #[.int .i64 1, .int .i64 i1, .int .i64 i2, .int .i64 i3, .int .i64 i4, .int .i64 i5, .int .i64 i6, .int .i64 i7, .int .i64 i8, .int .i64 i9, .int .i64 i10, .int .i64 i11, .slice ao0 L0.length ac0, .slice ao1 L1.length ac1, .int .i64 i12] 32)).heap.size := by first | (simp; done) | (simp; omega)
  have c1 : Below w.heap.size w (w.alloc (.cells #[.int .i64 1, .int .i64 i1, .int .i64 i2, .int .i64 i3, .int .i64 i4, .int .i64 i5, .int .i64 i6, .int .i64 i7, .int .i64 i8, .int .i64 i9, .int .i64 i10, .int .i64 i11, .slice ao0 L0.length ac0, .slice ao1 L1.length ac1, .int .i64 i12] 32)) := by go_grown
  have s1 : (w.alloc (.cells #[.int .i64 1, .int .i64 i1, .int .i64 i2, .int .i64 i3, .int .i64 i4, .int .i64 i5, .int .i64 i6, .int .i64 i7, .int .i64 i8, .int .i64 i9, .int .i64 i10, .int .i64 i11, .slice ao0 L0.length ac0, .slice ao1 L1.length ac1, .int .i64 i12] 32)).heap.size = w.heap.size + 1 := by simp
  generalize (w.alloc (.cells #[.int .i64 1, .int .i64 i1, .int .i64 i2, .int .i64 i3, .int .i64 i4, .int .i64 i5, .int .i64 i6, .int .i64 i7, .int .i64 i8, .int .i64 i9, .int .i64 i10, .int .i64 i11, .slice ao0 L0.length ac0, .slice ao1 L1.length ac1, .int .i64 i12] 32)) = w1 at a0_1 a1_1 a2_1 a3_1 a4_1 a5_1 a6_1 a7_1 a8_1 a9_1 a10_1 a11_1 a12_1 a13_1 a14_1 al_1 c1 s1 ⊢
  have qa0_1 := cell_regrown a0_1
  have qa1_1 := cell_regrown a1_1
  have qa2_1 := cell_regrown a2_1
  have qa3_1 := cell_regrown a3_1
  have qa4_1 := cell_regrown a4_1
  have qa5_1 := cell_regrown a5_1
  have qa6_1 := cell_regrown a6_1
  have qa7_1 := cell_regrown a7_1
  have qa8_1 := cell_regrown a8_1
  have qa9_1 := cell_regrown a9_1
  have qa10_1 := cell_regrown a10_1
  have qa11_1 := cell_regrown a11_1
  have qa12_1 := cell_regrown a12_1
  have qa13_1 := cell_regrown a13_1
  have qa14_1 := cell_regrown a14_1
  go_cut [3] from 4 (fun s wx => s = .bool itv ∧ Below w1.heap.size w1 wx)
  case first =>
    cases hI : itR i9 i10 i11 L0 with
    | false =>
      refine wp_region_quiet_below (by kernel_rfl) (by kernel_rfl) ?_
      repeat (first | go_big_quiet_skip | (go_big_quiet_want; go_big_quiet_op; first | go_big_quiet_on | go_big_quiet_call (first | (go_at_call 75; exact Calls.regrown_of (specItem_any i9 i10 i11 _ L0 _ ((HA.out.h0.later c1).later (below_regrown _ _ _)) hI)) | (go_at_call 76; exact Calls.regrown_of (specShard_b i9 _)))))
      refine wpQuiet_nil ?_
      rintro wq ⟨pq, hwq⟩
      have hq : Below w1.heap.size w1 wq := by rw [hwq]; exact below_regrown _ _ _
      clear hwq pq
      go_wp2_with fail
      go_meet
      exact ⟨by rw [← HIT.out]; simp [hI], hq⟩
    | true =>
      by_cases hp : partOf i9 = i2
      · have hb : (partOf i9 == i2) = true := by simpa using hp
        have HP := hid hp
        clear hp
        refine wp_region_quiet_below (by kernel_rfl) (by kernel_rfl) ?_
        repeat (first | go_big_quiet_skip | (go_big_quiet_want; go_big_quiet_op; first | go_big_quiet_on | go_big_quiet_call (first | (go_at_call 75; exact Calls.regrown_of (specItem_any i9 i10 i11 _ L0 _ ((HA.out.h0.later c1).later (below_regrown _ _ _)) hI)) | (go_at_call 76; exact Calls.regrown_of (specShard_b i9 _)))))
        refine wpQuiet_nil ?_
        rintro wq ⟨pq, hwq⟩
        have hq : Below w1.heap.size w1 wq := by rw [hwq]; exact below_regrown _ _ _
        clear hwq pq
        go_wp2_with fail
        go_meet
        exact ⟨by rw [← HIT.out]; simp [hI, HP.out], hq⟩
      · have hb : (partOf i9 == i2) = false := by simpa using hp
        have HP := hid hp
        clear hp
        refine wp_region_quiet_below (by kernel_rfl) (by kernel_rfl) ?_
        repeat (first | go_big_quiet_skip | (go_big_quiet_want; go_big_quiet_op; first | go_big_quiet_on | go_big_quiet_call (first | (go_at_call 75; exact Calls.regrown_of (specItem_any i9 i10 i11 _ L0 _ ((HA.out.h0.later c1).later (below_regrown _ _ _)) hI)) | (go_at_call 76; exact Calls.regrown_of (specShard_b i9 _)))))
        refine wpQuiet_nil ?_
        rintro wq ⟨pq, hwq⟩
        have hq : Below w1.heap.size w1 wq := by rw [hwq]; exact below_regrown _ _ _
        clear hwq pq
        go_wp2_with fail
        go_meet
        exact ⟨by rw [← HIT.out]; simp [hI, HP.out], hq⟩
  case rest =>
    obtain ⟨rfl, b2⟩ := hcut
    obtain ⟨w2, hw2⟩ : ∃ x, x = wc := ⟨_, rfl⟩
    subst hw2
    have d2 : Below w1.heap.size w1 w2 := (Below.trans (by go_grown) (b2.mono (by first | omega | (simp; done) | (simp; omega))))
    have c2 : Below w.heap.size w w2 := c1.trans (d2.mono c1.size)
    have a0_2 : w2.cell? ⟨w.heap.size, 0, none⟩ = some (.int .i64 1) := (by rw [b2.cell (by first | omega | (simp; done) | (simp; omega))]; go_cell)
    have a1_2 : w2.cell? ⟨w.heap.size, 1, none⟩ = some (.int .i64 i1) := (by rw [b2.cell (by first | omega | (simp; done) | (simp; omega))]; go_cell)
    have a2_2 : w2.cell? ⟨w.heap.size, 2, none⟩ = some (.int .i64 i2) := (by rw [b2.cell (by first | omega | (simp; done) | (simp; omega))]; go_cell)
    have a3_2 : w2.cell? ⟨w.heap.size, 3, none⟩ = some (.int .i64 i3) := (by rw [b2.cell (by first | omega | (simp; done) | (simp; omega))]; go_cell)
    have a4_2 : w2.cell? ⟨w.heap.size, 4, none⟩ = some (.int .i64 i4) := (by rw [b2.cell (by first | omega | (simp; done) | (simp; omega))]; go_cell)
    have a5_2 : w2.cell? ⟨w.heap.size, 5, none⟩ = some (.int .i64 i5) := (by rw [b2.cell (by first | omega | (simp; done) | (simp; omega))]; go_cell)
    have a6_2 : w2.cell? ⟨w.heap.size, 6, none⟩ = some (.int .i64 i6) := (by rw [b2.cell (by first | omega | (simp; done) | (simp; omega))]; go_cell)
    have a7_2 : w2.cell? ⟨w.heap.size, 7, none⟩ = some (.int .i64 i7) := (by rw [b2.cell (by first | omega | (simp; done) | (simp; omega))]; go_cell)
    have a8_2 : w2.cell? ⟨w.heap.size, 8, none⟩ = some (.int .i64 i8) := (by rw [b2.cell (by first | omega | (simp; done) | (simp; omega))]; go_cell)
    have a9_2 : w2.cell? ⟨w.heap.size, 9, none⟩ = some (.int .i64 i9) := (by rw [b2.cell (by first | omega | (simp; done) | (simp; omega))]; go_cell)
    have a10_2 : w2.cell? ⟨w.heap.size, 10, none⟩ = some (.int .i64 i10) := (by rw [b2.cell (by first | omega | (simp; done) | (simp; omega))]; go_cell)
    have a11_2 : w2.cell? ⟨w.heap.size, 11, none⟩ = some (.int .i64 i11) := (by rw [b2.cell (by first | omega | (simp; done) | (simp; omega))]; go_cell)
    have a12_2 : w2.cell? ⟨w.heap.size, 12, none⟩ = some (.slice ao0 L0.length ac0) := (by rw [b2.cell (by first | omega | (simp; done) | (simp; omega))]; go_cell)
    have a13_2 : w2.cell? ⟨w.heap.size, 13, none⟩ = some (.slice ao1 L1.length ac1) := (by rw [b2.cell (by first | omega | (simp; done) | (simp; omega))]; go_cell)
    have a14_2 : w2.cell? ⟨w.heap.size, 14, none⟩ = some (.int .i64 i12) := (by rw [b2.cell (by first | omega | (simp; done) | (simp; omega))]; go_cell)
    have al_2 : w.heap.size < w2.heap.size := (by have := b2.size; first | omega | (revert this; simp; done) | (revert this; simp; omega))
    clear a0_1 a1_1 a2_1 a3_1 a4_1 a5_1 a6_1 a7_1 a8_1 a9_1 a10_1 a11_1 a12_1 a13_1 a14_1 al_1
    clear b2 d2
    go_wp2_with fail
    refine (l6None_any i5 i6 i7 i8 _).mono ?_
    rintro e w3 ⟨rfl, b3⟩
    have d3 : Below w2.heap.size w2 w3 := (Below.trans (by go_grown) (b3.mono (by first | omega | (simp; done) | (simp; omega))))
    have c3 : Below w.heap.size w w3 := c2.trans (d3.mono c2.size)
    have a0_3 : w3.cell? ⟨w.heap.size, 0, none⟩ = some (.int .i64 1) := (by rw [b3.cell (by first | omega | (simp; done) | (simp; omega))]; go_cell)
    have a1_3 : w3.cell? ⟨w.heap.size, 1, none⟩ = some (.int .i64 i1) := (by rw [b3.cell (by first | omega | (simp; done) | (simp; omega))]; go_cell)
    have a2_3 : w3.cell? ⟨w.heap.size, 2, none⟩ = some (.int .i64 i2) := (by rw [b3.cell (by first | omega | (simp; done) | (simp; omega))]; go_cell)
    have a3_3 : w3.cell? ⟨w.heap.size, 3, none⟩ = some (.int .i64 i3) := (by rw [b3.cell (by first | omega | (simp; done) | (simp; omega))]; go_cell)
    have a4_3 : w3.cell? ⟨w.heap.size, 4, none⟩ = some (.int .i64 i4) := (by rw [b3.cell (by first | omega | (simp; done) | (simp; omega))]; go_cell)
    have a5_3 : w3.cell? ⟨w.heap.size, 5, none⟩ = some (.int .i64 i5) := (by rw [b3.cell (by first | omega | (simp; done) | (simp; omega))]; go_cell)
    have a6_3 : w3.cell? ⟨w.heap.size, 6, none⟩ = some (.int .i64 i6) := (by rw [b3.cell (by first | omega | (simp; done) | (simp; omega))]; go_cell)
    have a7_3 : w3.cell? ⟨w.heap.size, 7, none⟩ = some (.int .i64 i7) := (by rw [b3.cell (by first | omega | (simp; done) | (simp; omega))]; go_cell)
    have a8_3 : w3.cell? ⟨w.heap.size, 8, none⟩ = some (.int .i64 i8) := (by rw [b3.cell (by first | omega | (simp; done) | (simp; omega))]; go_cell)
    have a9_3 : w3.cell? ⟨w.heap.size, 9, none⟩ = some (.int .i64 i9) := (by rw [b3.cell (by first | omega | (simp; done) | (simp; omega))]; go_cell)
    have a10_3 : w3.cell? ⟨w.heap.size, 10, none⟩ = some (.int .i64 i10) := (by rw [b3.cell (by first | omega | (simp; done) | (simp; omega))]; go_cell)
    have a11_3 : w3.cell? ⟨w.heap.size, 11, none⟩ = some (.int .i64 i11) := (by rw [b3.cell (by first | omega | (simp; done) | (simp; omega))]; go_cell)
    have a12_3 : w3.cell? ⟨w.heap.size, 12, none⟩ = some (.slice ao0 L0.length ac0) := (by rw [b3.cell (by first | omega | (simp; done) | (simp; omega))]; go_cell)
    have a13_3 : w3.cell? ⟨w.heap.size, 13, none⟩ = some (.slice ao1 L1.length ac1) := (by rw [b3.cell (by first | omega | (simp; done) | (simp; omega))]; go_cell)
    have a14_3 : w3.cell? ⟨w.heap.size, 14, none⟩ = some (.int .i64 i12) := (by rw [b3.cell (by first | omega | (simp; done) | (simp; omega))]; go_cell)
    have al_3 : w.heap.size < w3.heap.size := (by have := b3.size; first | omega | (revert this; simp; done) | (revert this; simp; omega))
    clear a0_2 a1_2 a2_2 a3_2 a4_2 a5_2 a6_2 a7_2 a8_2 a9_2 a10_2 a11_2 a12_2 a13_2 a14_2 al_2
    clear b3 d3
    cases h0 : zO i5 i6 i7 i8 with
    | false =>
      have H0 : Hid (¬ (i5 = 0 ∧ i6 = 0 ∧ i7 = 0 ∧ i8 = 0)) := hid (of_decide_eq_false h0)
      have HV : Hid (bodyM 1 i1 i2 i3 i4 i5 i6 i7 i8 i9 i10 i11 i12 L0 L1 = false) := hid (by rw [Bool.eq_false_iff]; exact fun h => H0.out ((body_1 i1 i2 i3 i4 i5 i6 i7 i8 i9 i10 i11 i12 L0 L1).1 h).1)
      go_wp2_with fail
      go_ret
      exact ⟨by simp [HV.out], c3⟩
    | true =>
      have H0 : Hid (i5 = 0 ∧ i6 = 0 ∧ i7 = 0 ∧ i8 = 0) := hid (of_decide_eq_true h0)
      clear h0
      go_wp2_with fail
      refine (l6Key_any 1 i1 i2 i3 i4 i5 i6 i7 i8 i9 i10 i11 i12 _ _ L0 L1 _ (HA.out.later c3)).mono ?_
      rintro e w4 ⟨rfl, b4⟩
      have d4 : Below w3.heap.size w3 w4 := (Below.trans (by go_grown) (b4.mono (by first | omega | (simp; done) | (simp; omega))))
      have c4 : Below w.heap.size w w4 := c3.trans (d4.mono c3.size)
      have a0_4 : w4.cell? ⟨w.heap.size, 0, none⟩ = some (.int .i64 1) := (by rw [b4.cell (by first | omega | (simp; done) | (simp; omega))]; go_cell)
      have a1_4 : w4.cell? ⟨w.heap.size, 1, none⟩ = some (.int .i64 i1) := (by rw [b4.cell (by first | omega | (simp; done) | (simp; omega))]; go_cell)
      have a2_4 : w4.cell? ⟨w.heap.size, 2, none⟩ = some (.int .i64 i2) := (by rw [b4.cell (by first | omega | (simp; done) | (simp; omega))]; go_cell)
      have a3_4 : w4.cell? ⟨w.heap.size, 3, none⟩ = some (.int .i64 i3) := (by rw [b4.cell (by first | omega | (simp; done) | (simp; omega))]; go_cell)
      have a4_4 : w4.cell? ⟨w.heap.size, 4, none⟩ = some (.int .i64 i4) := (by rw [b4.cell (by first | omega | (simp; done) | (simp; omega))]; go_cell)
      have a5_4 : w4.cell? ⟨w.heap.size, 5, none⟩ = some (.int .i64 i5) := (by rw [b4.cell (by first | omega | (simp; done) | (simp; omega))]; go_cell)
      have a6_4 : w4.cell? ⟨w.heap.size, 6, none⟩ = some (.int .i64 i6) := (by rw [b4.cell (by first | omega | (simp; done) | (simp; omega))]; go_cell)
      have a7_4 : w4.cell? ⟨w.heap.size, 7, none⟩ = some (.int .i64 i7) := (by rw [b4.cell (by first | omega | (simp; done) | (simp; omega))]; go_cell)
      have a8_4 : w4.cell? ⟨w.heap.size, 8, none⟩ = some (.int .i64 i8) := (by rw [b4.cell (by first | omega | (simp; done) | (simp; omega))]; go_cell)
      have a9_4 : w4.cell? ⟨w.heap.size, 9, none⟩ = some (.int .i64 i9) := (by rw [b4.cell (by first | omega | (simp; done) | (simp; omega))]; go_cell)
      have a10_4 : w4.cell? ⟨w.heap.size, 10, none⟩ = some (.int .i64 i10) := (by rw [b4.cell (by first | omega | (simp; done) | (simp; omega))]; go_cell)
      have a11_4 : w4.cell? ⟨w.heap.size, 11, none⟩ = some (.int .i64 i11) := (by rw [b4.cell (by first | omega | (simp; done) | (simp; omega))]; go_cell)
      have a12_4 : w4.cell? ⟨w.heap.size, 12, none⟩ = some (.slice ao0 L0.length ac0) := (by rw [b4.cell (by first | omega | (simp; done) | (simp; omega))]; go_cell)
      have a13_4 : w4.cell? ⟨w.heap.size, 13, none⟩ = some (.slice ao1 L1.length ac1) := (by rw [b4.cell (by first | omega | (simp; done) | (simp; omega))]; go_cell)
      have a14_4 : w4.cell? ⟨w.heap.size, 14, none⟩ = some (.int .i64 i12) := (by rw [b4.cell (by first | omega | (simp; done) | (simp; omega))]; go_cell)
      have al_4 : w.heap.size < w4.heap.size := (by have := b4.size; first | omega | (revert this; simp; done) | (revert this; simp; omega))
      clear a0_3 a1_3 a2_3 a3_3 a4_3 a5_3 a6_3 a7_3 a8_3 a9_3 a10_3 a11_3 a12_3 a13_3 a14_3 al_3
      clear b4 d4
      cases h1 : zK i2 i9 i10 i11 L0 with
      | false =>
        have H1 : Hid (¬ (partOf i9 = i2 ∧ i10 = 0 ∧ i11 = 0 ∧ L0 = [])) := hid (of_decide_eq_false h1)
        have HV : Hid (bodyM 1 i1 i2 i3 i4 i5 i6 i7 i8 i9 i10 i11 i12 L0 L1 = false) := hid (by rw [Bool.eq_false_iff]; exact fun h => H1.out ((body_1 i1 i2 i3 i4 i5 i6 i7 i8 i9 i10 i11 i12 L0 L1).1 h).2.1)
        go_wp2_with fail
        go_ret
        exact ⟨by simp [HV.out], c4⟩
      | true =>
        have H1 : Hid (partOf i9 = i2 ∧ i10 = 0 ∧ i11 = 0 ∧ L0 = []) := hid (of_decide_eq_true h1)
        clear h1
        by_cases h2 : L1 = []
        case neg =>
          have g2 : ((L1.length : Int) == 0) = false := by first | (simpa using h2) | (simp; omega)
          have H2 := hid h2
          clear h2
          have HV : Hid (bodyM 1 i1 i2 i3 i4 i5 i6 i7 i8 i9 i10 i11 i12 L0 L1 = false) := hid (by rw [Bool.eq_false_iff]; exact fun h => H2.out ((body_1 i1 i2 i3 i4 i5 i6 i7 i8 i9 i10 i11 i12 L0 L1).1 h).2.2.1)
          go_wp2_with fail
          go_ret
          exact ⟨by simp [HV.out], c4⟩
        have g2 : ((L1.length : Int) == 0) = true := by first | (simpa using h2) | (simp; omega)
        have H2 := hid h2
        clear h2
        by_cases h3 : i12 = 0
        case neg =>
          have g3 : (i12 == 0) = false := by first | (simpa using h3) | (simp; omega)
          have H3 := hid h3
          clear h3
          have HV : Hid (bodyM 1 i1 i2 i3 i4 i5 i6 i7 i8 i9 i10 i11 i12 L0 L1 = false) := hid (by rw [Bool.eq_false_iff]; exact fun h => H3.out ((body_1 i1 i2 i3 i4 i5 i6 i7 i8 i9 i10 i11 i12 L0 L1).1 h).2.2.2)
          go_wp2_with fail
          go_ret
          exact ⟨by simp [HV.out], c4⟩
        have g3 : (i12 == 0) = true := by first | (simpa using h3) | (simp; omega)
        have H3 := hid h3
        clear h3
        have HV : Hid (bodyM 1 i1 i2 i3 i4 i5 i6 i7 i8 i9 i10 i11 i12 L0 L1 = true) := hid ((body_1 i1 i2 i3 i4 i5 i6 i7 i8 i9 i10 i11 i12 L0 L1).2 ⟨H0.out, H1.out, H2.out, H3.out⟩)
        go_wp2_with fail
        go_ret
        exact ⟨by simp [HV.out], c4⟩

end Go.Proofs.YtfdcnolcjgjfjaaGreatDoor

/- Part: spec.l6Body at some kinds: contracts. Written by a program (gmk.py). -/
namespace Go.Proofs.YtfdcnolcjgjfjaaGreatDoor
open Go.RowKit
attribute [local go_sem ↓] Go.wp_at_zero Go.wp_at_succ

set_option maxRecDepth 100000 in
set_option maxHeartbeats 16000000 in
theorem l6Body_2 (i1 i2 i3 i4 i5 i6 i7 i8 i9 i10 i11 i12 : Int) (va0 va1 : Value) (L0 : List (Int × Int)) (L1 : List KD) (w : World) (ha : RSMsg w va0 va1 L0 L1) :
    Calls Tryz.prog 36 #[.agg #[.int .i64 2, .int .i64 i1, .int .i64 i2, .int .i64 i3, .int .i64 i4, .int .i64 i5, .int .i64 i6, .int .i64 i7, .int .i64 i8, .int .i64 i9, .int .i64 i10, .int .i64 i11, va0, va1, .int .i64 i12]] w fun e w' => e = .returned (.bool (bodyM 2 i1 i2 i3 i4 i5 i6 i7 i8 i9 i10 i11 i12 L0 L1)) ∧ Below w.heap.size w w' := by
  have HA := hid ha
  obtain ⟨ao0, ao1, ac0, ac1, rfl, rfl⟩ := ha.open
  clear ha
  obtain ⟨itv, hit⟩ : ∃ b : Bool, (itR i9 i10 i11 L0 && decide (partOf i9 = i2)) = b := ⟨_, rfl⟩
  have HIT := hid hit
  clear hit
  go_enter Tryz.func36, Tryz.ntmps36
  go_wp2_with fail
  have a0_1 : (w.alloc (.cells #[.int .i64 2, .int .i64 i1, .int .i64 i2, .int .i64 i3, .int .i64 i4, .int .i64 i5, .int .i64 i6, .int .i64 i7, .int .i64 i8, .int .i64 i9, .int .i64 i10, .int .i64 i11, .slice ao0 L0.length ac0, .slice ao1 L1.length ac1, .int .i64 i12] 32)).cell? ⟨w.heap.size, 0, none⟩ = some (.int .i64 2) := by go_cell
  have a1_1 : (w.alloc (.cells #[.int .i64 2, .int .i64 i1, .int .i64 i2, .int .i64 i3, .int .i64 i4, .int .i64 i5, .int .i64 i6, .int .i64 i7, .int .i64 i8, .int .i64 i9, .int .i64 i10, .int .i64 i11, .slice ao0 L0.length ac0, .slice ao1 L1.length ac1, .int .i64 i12] 32)).cell? ⟨w.heap.size, 1, none⟩ = some (.int .i64 i1) := by go_cell
  have a2_1 : (w.alloc (.cells #[.int .i64 2, .int .i64 i1, .int .i64 i2, .int .i64 i3, .int .i64 i4, .int .i64 i5, .int .i64 i6, .int .i64 i7, .int .i64 i8, .int .i64 i9, .int .i64 i10, .int .i64 i11, .slice ao0 L0.length ac0, .slice ao1 L1.length ac1, .int .i64 i12] 32)).cell? ⟨w.heap.size, 2, none⟩ = some (.int .i64 i2) := by go_cell
  have a3_1 : (w.alloc (.cells #[.int .i64 2, .int .i64 i1, .int .i64 i2, .int .i64 i3, .int .i64 i4, .int .i64 i5, .int .i64 i6, .int .i64 i7, .int .i64 i8, .int .i64 i9, .int .i64 i10, .int .i64 i11, .slice ao0 L0.length ac0, .slice ao1 L1.length ac1, .int .i64 i12] 32)).cell? ⟨w.heap.size, 3, none⟩ = some (.int .i64 i3) := by go_cell
  have a4_1 : (w.alloc (.cells #[.int .i64 2, .int .i64 i1, .int .i64 i2, .int .i64 i3, .int .i64 i4, .int .i64 i5, .int .i64 i6, .int .i64 i7, .int .i64 i8, .int .i64 i9, .int .i64 i10, .int .i64 i11, .slice ao0 L0.length ac0, .slice ao1 L1.length ac1, .int .i64 i12] 32)).cell? ⟨w.heap.size, 4, none⟩ = some (.int .i64 i4) := by go_cell
  have a5_1 : (w.alloc (.cells #[.int .i64 2, .int .i64 i1, .int .i64 i2, .int .i64 i3, .int .i64 i4, .int .i64 i5, .int .i64 i6, .int .i64 i7, .int .i64 i8, .int .i64 i9, .int .i64 i10, .int .i64 i11, .slice ao0 L0.length ac0, .slice ao1 L1.length ac1, .int .i64 i12] 32)).cell? ⟨w.heap.size, 5, none⟩ = some (.int .i64 i5) := by go_cell
  have a6_1 : (w.alloc (.cells #[.int .i64 2, .int .i64 i1, .int .i64 i2, .int .i64 i3, .int .i64 i4, .int .i64 i5, .int .i64 i6, .int .i64 i7, .int .i64 i8, .int .i64 i9, .int .i64 i10, .int .i64 i11, .slice ao0 L0.length ac0, .slice ao1 L1.length ac1, .int .i64 i12] 32)).cell? ⟨w.heap.size, 6, none⟩ = some (.int .i64 i6) := by go_cell
  have a7_1 : (w.alloc (.cells #[.int .i64 2, .int .i64 i1, .int .i64 i2, .int .i64 i3, .int .i64 i4, .int .i64 i5, .int .i64 i6, .int .i64 i7, .int .i64 i8, .int .i64 i9, .int .i64 i10, .int .i64 i11, .slice ao0 L0.length ac0, .slice ao1 L1.length ac1, .int .i64 i12] 32)).cell? ⟨w.heap.size, 7, none⟩ = some (.int .i64 i7) := by go_cell
  have a8_1 : (w.alloc (.cells #[.int .i64 2, .int .i64 i1, .int .i64 i2, .int .i64 i3, .int .i64 i4, .int .i64 i5, .int .i64 i6, .int .i64 i7, .int .i64 i8, .int .i64 i9, .int .i64 i10, .int .i64 i11, .slice ao0 L0.length ac0, .slice ao1 L1.length ac1, .int .i64 i12] 32)).cell? ⟨w.heap.size, 8, none⟩ = some (.int .i64 i8) := by go_cell
  have a9_1 : (w.alloc (.cells #[.int .i64 2, .int .i64 i1, .int .i64 i2, .int .i64 i3, .int .i64 i4, .int .i64 i5, .int .i64 i6, .int .i64 i7, .int .i64 i8, .int .i64 i9, .int .i64 i10, .int .i64 i11, .slice ao0 L0.length ac0, .slice ao1 L1.length ac1, .int .i64 i12] 32)).cell? ⟨w.heap.size, 9, none⟩ = some (.int .i64 i9) := by go_cell
  have a10_1 : (w.alloc (.cells #[.int .i64 2, .int .i64 i1, .int .i64 i2, .int .i64 i3, .int .i64 i4, .int .i64 i5, .int .i64 i6, .int .i64 i7, .int .i64 i8, .int .i64 i9, .int .i64 i10, .int .i64 i11, .slice ao0 L0.length ac0, .slice ao1 L1.length ac1, .int .i64 i12] 32)).cell? ⟨w.heap.size, 10, none⟩ = some (.int .i64 i10) := by go_cell
  have a11_1 : (w.alloc (.cells #[.int .i64 2, .int .i64 i1, .int .i64 i2, .int .i64 i3, .int .i64 i4, .int .i64 i5, .int .i64 i6, .int .i64 i7, .int .i64 i8, .int .i64 i9, .int .i64 i10, .int .i64 i11, .slice ao0 L0.length ac0, .slice ao1 L1.length ac1, .int .i64 i12] 32)).cell? ⟨w.heap.size, 11, none⟩ = some (.int .i64 i11) := by go_cell
  have a12_1 : (w.alloc (.cells #[.int .i64 2, .int .i64 i1, .int .i64 i2, .int .i64 i3, .int .i64 i4, .int .i64 i5, .int .i64 i6, .int .i64 i7, .int .i64 i8, .int .i64 i9, .int .i64 i10, .int .i64 i11, .slice ao0 L0.length ac0, .slice ao1 L1.length ac1, .int .i64 i12] 32)).cell? ⟨w.heap.size, 12, none⟩ = some (.slice ao0 L0.length ac0) := by go_cell
  have a13_1 : (w.alloc (.cells #[.int .i64 2, .int .i64 i1, .int .i64 i2, .int .i64 i3, .int .i64 i4, .int .i64 i5, .int .i64 i6, .int .i64 i7, .int .i64 i8, .int .i64 i9, .int .i64 i10, .int .i64 i11, .slice ao0 L0.length ac0, .slice ao1 L1.length ac1, .int .i64 i12] 32)).cell? ⟨w.heap.size, 13, none⟩ = some (.slice ao1 L1.length ac1) := by go_cell
  have a14_1 : (w.alloc (.cells #[.int .i64 2, .int .i64 i1, .int .i64 i2, .int .i64 i3, .int .i64 i4, .int .i64 i5, .int .i64 i6, .int .i64 i7, .int .i64 i8, .int .i64 i9, .int .i64 i10, .int .i64 i11, .slice ao0 L0.length ac0, .slice ao1 L1.length ac1, .int .i64 i12] 32)).cell? ⟨w.heap.size, 14, none⟩ = some (.int .i64 i12) := by go_cell
  have al_1 : w.heap.size < (w.alloc (.cells #[.int .i64 2, .int .i64 i1, .int .i64 i2, .int .i64 i3, .int .i64 i4, .int .i64 i5, .int .i64 i6, .int .i64 i7, .int .i64 i8, .int .i64 i9, .int .i64 i10, .int .i64 i11, .slice ao0 L0.length ac0, .slice ao1 L1.length ac1, .int .i64 i12] 32)).heap.size := by first | (simp; done) | (simp; omega)
  have c1 : Below w.heap.size w (w.alloc (.cells #[.int .i64 2, .int .i64 i1, .int .i64 i2, .int .i64 i3, .int .i64 i4, .int .i64 i5, .int .i64 i6, .int .i64 i7, .int .i64 i8, .int .i64 i9, .int .i64 i10, .int .i64 i11, .slice ao0 L0.length ac0, .slice ao1 L1.length ac1, .int .i64 i12] 32)) := by go_grown
  have s1 : (w.alloc (.cells #[.int .i64 2, .int .i64 i1, .int .i64 i2, .int .i64 i3, .int .i64 i4, .int .i64 i5, .int .i64 i6, .int .i64 i7, .int .i64 i8, .int .i64 i9, .int .i64 i10, .int .i64 i11, .slice ao0 L0.length ac0, .slice ao1 L1.length ac1, .int .i64 i12] 32)).heap.size = w.heap.size + 1 := by simp
  generalize (w.alloc (.cells #[.int .i64 2, .int .i64 i1, .int .i64 i2, .int .i64 i3, .int .i64 i4, .int .i64 i5, .int .i64 i6, .int .i64 i7, .int .i64 i8, .int .i64 i9, .int .i64 i10, .int .i64 i11, .slice ao0 L0.length ac0, .slice ao1 L1.length ac1, .int .i64 i12] 32)) = w1 at a0_1 a1_1 a2_1 a3_1 a4_1 a5_1 a6_1 a7_1 a8_1 a9_1 a10_1 a11_1 a12_1 a13_1 a14_1 al_1 c1 s1 ⊢
  have qa0_1 := cell_regrown a0_1
  have qa1_1 := cell_regrown a1_1
  have qa2_1 := cell_regrown a2_1
  have qa3_1 := cell_regrown a3_1
  have qa4_1 := cell_regrown a4_1
  have qa5_1 := cell_regrown a5_1
  have qa6_1 := cell_regrown a6_1
  have qa7_1 := cell_regrown a7_1
  have qa8_1 := cell_regrown a8_1
  have qa9_1 := cell_regrown a9_1
  have qa10_1 := cell_regrown a10_1
  have qa11_1 := cell_regrown a11_1
  have qa12_1 := cell_regrown a12_1
  have qa13_1 := cell_regrown a13_1
  have qa14_1 := cell_regrown a14_1
  go_cut [3] from 4 (fun s wx => s = .bool itv ∧ Below w1.heap.size w1 wx)
  case first =>
    cases hI : itR i9 i10 i11 L0 with
    | false =>
      refine wp_region_quiet_below (by kernel_rfl) (by kernel_rfl) ?_
      repeat (first | go_big_quiet_skip | (go_big_quiet_want; go_big_quiet_op; first | go_big_quiet_on | go_big_quiet_call (first | (go_at_call 75; exact Calls.regrown_of (specItem_any i9 i10 i11 _ L0 _ ((HA.out.h0.later c1).later (below_regrown _ _ _)) hI)) | (go_at_call 76; exact Calls.regrown_of (specShard_b i9 _)))))
      refine wpQuiet_nil ?_
      rintro wq ⟨pq, hwq⟩
      have hq : Below w1.heap.size w1 wq := by rw [hwq]; exact below_regrown _ _ _
      clear hwq pq
      go_wp2_with fail
      go_meet
      exact ⟨by rw [← HIT.out]; simp [hI], hq⟩
    | true =>
      by_cases hp : partOf i9 = i2
      · have hb : (partOf i9 == i2) = true := by simpa using hp
        have HP := hid hp
        clear hp
        refine wp_region_quiet_below (by kernel_rfl) (by kernel_rfl) ?_
        repeat (first | go_big_quiet_skip | (go_big_quiet_want; go_big_quiet_op; first | go_big_quiet_on | go_big_quiet_call (first | (go_at_call 75; exact Calls.regrown_of (specItem_any i9 i10 i11 _ L0 _ ((HA.out.h0.later c1).later (below_regrown _ _ _)) hI)) | (go_at_call 76; exact Calls.regrown_of (specShard_b i9 _)))))
        refine wpQuiet_nil ?_
        rintro wq ⟨pq, hwq⟩
        have hq : Below w1.heap.size w1 wq := by rw [hwq]; exact below_regrown _ _ _
        clear hwq pq
        go_wp2_with fail
        go_meet
        exact ⟨by rw [← HIT.out]; simp [hI, HP.out], hq⟩
      · have hb : (partOf i9 == i2) = false := by simpa using hp
        have HP := hid hp
        clear hp
        refine wp_region_quiet_below (by kernel_rfl) (by kernel_rfl) ?_
        repeat (first | go_big_quiet_skip | (go_big_quiet_want; go_big_quiet_op; first | go_big_quiet_on | go_big_quiet_call (first | (go_at_call 75; exact Calls.regrown_of (specItem_any i9 i10 i11 _ L0 _ ((HA.out.h0.later c1).later (below_regrown _ _ _)) hI)) | (go_at_call 76; exact Calls.regrown_of (specShard_b i9 _)))))
        refine wpQuiet_nil ?_
        rintro wq ⟨pq, hwq⟩
        have hq : Below w1.heap.size w1 wq := by rw [hwq]; exact below_regrown _ _ _
        clear hwq pq
        go_wp2_with fail
        go_meet
        exact ⟨by rw [← HIT.out]; simp [hI, HP.out], hq⟩
  case rest =>
    obtain ⟨rfl, b2⟩ := hcut
    obtain ⟨w2, hw2⟩ : ∃ x, x = wc := ⟨_, rfl⟩
    subst hw2
    have d2 : Below w1.heap.size w1 w2 := (Below.trans (by go_grown) (b2.mono (by first | omega | (simp; done) | (simp; omega))))
    have c2 : Below w.heap.size w w2 := c1.trans (d2.mono c1.size)
    have a0_2 : w2.cell? ⟨w.heap.size, 0, none⟩ = some (.int .i64 2) := (by rw [b2.cell (by first | omega | (simp; done) | (simp; omega))]; go_cell)
    have a1_2 : w2.cell? ⟨w.heap.size, 1, none⟩ = some (.int .i64 i1) := (by rw [b2.cell (by first | omega | (simp; done) | (simp; omega))]; go_cell)
    have a2_2 : w2.cell? ⟨w.heap.size, 2, none⟩ = some (.int .i64 i2) := (by rw [b2.cell (by first | omega | (simp; done) | (simp; omega))]; go_cell)
    have a3_2 : w2.cell? ⟨w.heap.size, 3, none⟩ = some (.int .i64 i3) := (by rw [b2.cell (by first | omega | (simp; done) | (simp; omega))]; go_cell)
    have a4_2 : w2.cell? ⟨w.heap.size, 4, none⟩ = some (.int .i64 i4) := (by rw [b2.cell (by first | omega | (simp; done) | (simp; omega))]; go_cell)
    have a5_2 : w2.cell? ⟨w.heap.size, 5, none⟩ = some (.int .i64 i5) := (by rw [b2.cell (by first | omega | (simp; done) | (simp; omega))]; go_cell)
    have a6_2 : w2.cell? ⟨w.heap.size, 6, none⟩ = some (.int .i64 i6) := (by rw [b2.cell (by first | omega | (simp; done) | (simp; omega))]; go_cell)
    have a7_2 : w2.cell? ⟨w.heap.size, 7, none⟩ = some (.int .i64 i7) := (by rw [b2.cell (by first | omega | (simp; done) | (simp; omega))]; go_cell)
    have a8_2 : w2.cell? ⟨w.heap.size, 8, none⟩ = some (.int .i64 i8) := (by rw [b2.cell (by first | omega | (simp; done) | (simp; omega))]; go_cell)
    have a9_2 : w2.cell? ⟨w.heap.size, 9, none⟩ = some (.int .i64 i9) := (by rw [b2.cell (by first | omega | (simp; done) | (simp; omega))]; go_cell)
    have a10_2 : w2.cell? ⟨w.heap.size, 10, none⟩ = some (.int .i64 i10) := (by rw [b2.cell (by first | omega | (simp; done) | (simp; omega))]; go_cell)
    have a11_2 : w2.cell? ⟨w.heap.size, 11, none⟩ = some (.int .i64 i11) := (by rw [b2.cell (by first | omega | (simp; done) | (simp; omega))]; go_cell)
    have a12_2 : w2.cell? ⟨w.heap.size, 12, none⟩ = some (.slice ao0 L0.length ac0) := (by rw [b2.cell (by first | omega | (simp; done) | (simp; omega))]; go_cell)
    have a13_2 : w2.cell? ⟨w.heap.size, 13, none⟩ = some (.slice ao1 L1.length ac1) := (by rw [b2.cell (by first | omega | (simp; done) | (simp; omega))]; go_cell)
    have a14_2 : w2.cell? ⟨w.heap.size, 14, none⟩ = some (.int .i64 i12) := (by rw [b2.cell (by first | omega | (simp; done) | (simp; omega))]; go_cell)
    have al_2 : w.heap.size < w2.heap.size := (by have := b2.size; first | omega | (revert this; simp; done) | (revert this; simp; omega))
    clear a0_1 a1_1 a2_1 a3_1 a4_1 a5_1 a6_1 a7_1 a8_1 a9_1 a10_1 a11_1 a12_1 a13_1 a14_1 al_1
    clear b2 d2
    go_wp2_with fail
    refine (l6None_any i5 i6 i7 i8 _).mono ?_
    rintro e w3 ⟨rfl, b3⟩
    have d3 : Below w2.heap.size w2 w3 := (Below.trans (by go_grown) (b3.mono (by first | omega | (simp; done) | (simp; omega))))
    have c3 : Below w.heap.size w w3 := c2.trans (d3.mono c2.size)
    have a0_3 : w3.cell? ⟨w.heap.size, 0, none⟩ = some (.int .i64 2) := (by rw [b3.cell (by first | omega | (simp; done) | (simp; omega))]; go_cell)
    have a1_3 : w3.cell? ⟨w.heap.size, 1, none⟩ = some (.int .i64 i1) := (by rw [b3.cell (by first | omega | (simp; done) | (simp; omega))]; go_cell)
    have a2_3 : w3.cell? ⟨w.heap.size, 2, none⟩ = some (.int .i64 i2) := (by rw [b3.cell (by first | omega | (simp; done) | (simp; omega))]; go_cell)
    have a3_3 : w3.cell? ⟨w.heap.size, 3, none⟩ = some (.int .i64 i3) := (by rw [b3.cell (by first | omega | (simp; done) | (simp; omega))]; go_cell)
    have a4_3 : w3.cell? ⟨w.heap.size, 4, none⟩ = some (.int .i64 i4) := (by rw [b3.cell (by first | omega | (simp; done) | (simp; omega))]; go_cell)
    have a5_3 : w3.cell? ⟨w.heap.size, 5, none⟩ = some (.int .i64 i5) := (by rw [b3.cell (by first | omega | (simp; done) | (simp; omega))]; go_cell)
    have a6_3 : w3.cell? ⟨w.heap.size, 6, none⟩ = some (.int .i64 i6) := (by rw [b3.cell (by first | omega | (simp; done) | (simp; omega))]; go_cell)
    have a7_3 : w3.cell? ⟨w.heap.size, 7, none⟩ = some (.int .i64 i7) := (by rw [b3.cell (by first | omega | (simp; done) | (simp; omega))]; go_cell)
    have a8_3 : w3.cell? ⟨w.heap.size, 8, none⟩ = some (.int .i64 i8) := (by rw [b3.cell (by first | omega | (simp; done) | (simp; omega))]; go_cell)
    have a9_3 : w3.cell? ⟨w.heap.size, 9, none⟩ = some (.int .i64 i9) := (by rw [b3.cell (by first | omega | (simp; done) | (simp; omega))]; go_cell)
    have a10_3 : w3.cell? ⟨w.heap.size, 10, none⟩ = some (.int .i64 i10) := (by rw [b3.cell (by first | omega | (simp; done) | (simp; omega))]; go_cell)
    have a11_3 : w3.cell? ⟨w.heap.size, 11, none⟩ = some (.int .i64 i11) := (by rw [b3.cell (by first | omega | (simp; done) | (simp; omega))]; go_cell)
    have a12_3 : w3.cell? ⟨w.heap.size, 12, none⟩ = some (.slice ao0 L0.length ac0) := (by rw [b3.cell (by first | omega | (simp; done) | (simp; omega))]; go_cell)
    have a13_3 : w3.cell? ⟨w.heap.size, 13, none⟩ = some (.slice ao1 L1.length ac1) := (by rw [b3.cell (by first | omega | (simp; done) | (simp; omega))]; go_cell)
    have a14_3 : w3.cell? ⟨w.heap.size, 14, none⟩ = some (.int .i64 i12) := (by rw [b3.cell (by first | omega | (simp; done) | (simp; omega))]; go_cell)
    have al_3 : w.heap.size < w3.heap.size := (by have := b3.size; first | omega | (revert this; simp; done) | (revert this; simp; omega))
    clear a0_2 a1_2 a2_2 a3_2 a4_2 a5_2 a6_2 a7_2 a8_2 a9_2 a10_2 a11_2 a12_2 a13_2 a14_2 al_2
    clear b3 d3
    cases h0 : zO i5 i6 i7 i8 with
    | false =>
      have H0 : Hid (¬ (i5 = 0 ∧ i6 = 0 ∧ i7 = 0 ∧ i8 = 0)) := hid (of_decide_eq_false h0)
      have HV : Hid (bodyM 2 i1 i2 i3 i4 i5 i6 i7 i8 i9 i10 i11 i12 L0 L1 = false) := hid (by rw [Bool.eq_false_iff]; exact fun h => H0.out ((body_2 i1 i2 i3 i4 i5 i6 i7 i8 i9 i10 i11 i12 L0 L1).1 h).1)
      go_wp2_with fail
      go_ret
      exact ⟨by simp [HV.out], c3⟩
    | true =>
      have H0 : Hid (i5 = 0 ∧ i6 = 0 ∧ i7 = 0 ∧ i8 = 0) := hid (of_decide_eq_true h0)
      clear h0
      cases itv with
      | false =>
        have H1 : Hid (¬ (itR i9 i10 i11 L0 = true ∧ partOf i9 = i2)) := hid (fun h => by have := HIT.out; rw [h.1] at this; simp [h.2] at this)
        have HV : Hid (bodyM 2 i1 i2 i3 i4 i5 i6 i7 i8 i9 i10 i11 i12 L0 L1 = false) := hid (by rw [Bool.eq_false_iff]; exact fun h => H1.out ((body_2 i1 i2 i3 i4 i5 i6 i7 i8 i9 i10 i11 i12 L0 L1).1 h).2.1)
        go_wp2_with fail
        go_ret
        exact ⟨by simp [HV.out], c3⟩
      | true =>
        have H1 : Hid (itR i9 i10 i11 L0 = true ∧ partOf i9 = i2) := hid (by have := HIT.out; simpa using this)
        by_cases h2 : L1 = []
        case neg =>
          have g2 : ((L1.length : Int) == 0) = false := by first | (simpa using h2) | (simp; omega)
          have H2 := hid h2
          clear h2
          have HV : Hid (bodyM 2 i1 i2 i3 i4 i5 i6 i7 i8 i9 i10 i11 i12 L0 L1 = false) := hid (by rw [Bool.eq_false_iff]; exact fun h => H2.out ((body_2 i1 i2 i3 i4 i5 i6 i7 i8 i9 i10 i11 i12 L0 L1).1 h).2.2.1)
          go_wp2_with fail
          go_ret
          exact ⟨by simp [HV.out], c3⟩
        have g2 : ((L1.length : Int) == 0) = true := by first | (simpa using h2) | (simp; omega)
        have H2 := hid h2
        clear h2
        by_cases h3 : i12 = 0
        case neg =>
          have g3 : (i12 == 0) = false := by first | (simpa using h3) | (simp; omega)
          have H3 := hid h3
          clear h3
          have HV : Hid (bodyM 2 i1 i2 i3 i4 i5 i6 i7 i8 i9 i10 i11 i12 L0 L1 = false) := hid (by rw [Bool.eq_false_iff]; exact fun h => H3.out ((body_2 i1 i2 i3 i4 i5 i6 i7 i8 i9 i10 i11 i12 L0 L1).1 h).2.2.2)
          go_wp2_with fail
          go_ret
          exact ⟨by simp [HV.out], c3⟩
        have g3 : (i12 == 0) = true := by first | (simpa using h3) | (simp; omega)
        have H3 := hid h3
        clear h3
        have HV : Hid (bodyM 2 i1 i2 i3 i4 i5 i6 i7 i8 i9 i10 i11 i12 L0 L1 = true) := hid ((body_2 i1 i2 i3 i4 i5 i6 i7 i8 i9 i10 i11 i12 L0 L1).2 ⟨H0.out, H1.out, H2.out, H3.out⟩)
        go_wp2_with fail
        go_ret
        exact ⟨by simp [HV.out], c3⟩

set_option maxRecDepth 100000 in
set_option maxHeartbeats 16000000 in
theorem l6Body_4 (i1 i2 i3 i4 i5 i6 i7 i8 i9 i10 i11 i12 : Int) (va0 va1 : Value) (L0 : List (Int × Int)) (L1 : List KD) (w : World) (ha : RSMsg w va0 va1 L0 L1) :
    Calls Tryz.prog 36 #[.agg #[.int .i64 4, .int .i64 i1, .int .i64 i2, .int .i64 i3, .int .i64 i4, .int .i64 i5, .int .i64 i6, .int .i64 i7, .int .i64 i8, .int .i64 i9, .int .i64 i10, .int .i64 i11, va0, va1, .int .i64 i12]] w fun e w' => e = .returned (.bool (bodyM 4 i1 i2 i3 i4 i5 i6 i7 i8 i9 i10 i11 i12 L0 L1)) ∧ Below w.heap.size w w' := by
  have HA := hid ha
  obtain ⟨ao0, ao1, ac0, ac1, rfl, rfl⟩ := ha.open
  clear ha
  obtain ⟨itv, hit⟩ : ∃ b : Bool, (itR i9 i10 i11 L0 && decide (partOf i9 = i2)) = b := ⟨_, rfl⟩
  have HIT := hid hit
  clear hit
  go_enter Tryz.func36, Tryz.ntmps36
  go_wp2_with fail
  have a0_1 : (w.alloc (.cells #[.int .i64 4, .int .i64 i1, .int .i64 i2, .int .i64 i3, .int .i64 i4, .int .i64 i5, .int .i64 i6, .int .i64 i7, .int .i64 i8, .int .i64 i9, .int .i64 i10, .int .i64 i11, .slice ao0 L0.length ac0, .slice ao1 L1.length ac1, .int .i64 i12] 32)).cell? ⟨w.heap.size, 0, none⟩ = some (.int .i64 4) := by go_cell
  have a1_1 : (w.alloc (.cells #[.int .i64 4, .int .i64 i1, .int .i64 i2, .int .i64 i3, .int .i64 i4, .int .i64 i5, .int .i64 i6, .int .i64 i7, .int .i64 i8, .int .i64 i9, .int .i64 i10, .int .i64 i11, .slice ao0 L0.length ac0, .slice ao1 L1.length ac1, .int .i64 i12] 32)).cell? ⟨w.heap.size, 1, none⟩ = some (.int .i64 i1) := by go_cell
  have a2_1 : (w.alloc (.cells #[.int .i64 4, .int .i64 i1, .int .i64 i2, .int .i64 i3, .int .i64 i4, .int .i64 i5, .int .i64 i6, .int .i64 i7, .int .i64 i8, .int .i64 i9, .int .i64 i10, .int .i64 i11, .slice ao0 L0.length ac0, .slice ao1 L1.length ac1, .int .i64 i12] 32)).cell? ⟨w.heap.size, 2, none⟩ = some (.int .i64 i2) := by go_cell
  have a3_1 : (w.alloc (.cells #[.int .i64 4, .int .i64 i1, .int .i64 i2, .int .i64 i3, .int .i64 i4, .int .i64 i5, .int .i64 i6, .int .i64 i7, .int .i64 i8, .int .i64 i9, .int .i64 i10, .int .i64 i11, .slice ao0 L0.length ac0, .slice ao1 L1.length ac1, .int .i64 i12] 32)).cell? ⟨w.heap.size, 3, none⟩ = some (.int .i64 i3) := by go_cell
  have a4_1 : (w.alloc (.cells #[.int .i64 4, .int .i64 i1, .int .i64 i2, .int .i64 i3, .int .i64 i4, .int .i64 i5, .int .i64 i6, .int .i64 i7, .int .i64 i8, .int .i64 i9, .int .i64 i10, .int .i64 i11, .slice ao0 L0.length ac0, .slice ao1 L1.length ac1, .int .i64 i12] 32)).cell? ⟨w.heap.size, 4, none⟩ = some (.int .i64 i4) := by go_cell
  have a5_1 : (w.alloc (.cells #[.int .i64 4, .int .i64 i1, .int .i64 i2, .int .i64 i3, .int .i64 i4, .int .i64 i5, .int .i64 i6, .int .i64 i7, .int .i64 i8, .int .i64 i9, .int .i64 i10, .int .i64 i11, .slice ao0 L0.length ac0, .slice ao1 L1.length ac1, .int .i64 i12] 32)).cell? ⟨w.heap.size, 5, none⟩ = some (.int .i64 i5) := by go_cell
  have a6_1 : (w.alloc (.cells #[.int .i64 4, .int .i64 i1, .int .i64 i2, .int .i64 i3, .int .i64 i4, .int .i64 i5, .int .i64 i6, .int .i64 i7, .int .i64 i8, .int .i64 i9, .int .i64 i10, .int .i64 i11, .slice ao0 L0.length ac0, .slice ao1 L1.length ac1, .int .i64 i12] 32)).cell? ⟨w.heap.size, 6, none⟩ = some (.int .i64 i6) := by go_cell
  have a7_1 : (w.alloc (.cells #[.int .i64 4, .int .i64 i1, .int .i64 i2, .int .i64 i3, .int .i64 i4, .int .i64 i5, .int .i64 i6, .int .i64 i7, .int .i64 i8, .int .i64 i9, .int .i64 i10, .int .i64 i11, .slice ao0 L0.length ac0, .slice ao1 L1.length ac1, .int .i64 i12] 32)).cell? ⟨w.heap.size, 7, none⟩ = some (.int .i64 i7) := by go_cell
  have a8_1 : (w.alloc (.cells #[.int .i64 4, .int .i64 i1, .int .i64 i2, .int .i64 i3, .int .i64 i4, .int .i64 i5, .int .i64 i6, .int .i64 i7, .int .i64 i8, .int .i64 i9, .int .i64 i10, .int .i64 i11, .slice ao0 L0.length ac0, .slice ao1 L1.length ac1, .int .i64 i12] 32)).cell? ⟨w.heap.size, 8, none⟩ = some (.int .i64 i8) := by go_cell
  have a9_1 : (w.alloc (.cells #[.int .i64 4, .int .i64 i1, .int .i64 i2, .int .i64 i3, .int .i64 i4, .int .i64 i5, .int .i64 i6, .int .i64 i7, .int .i64 i8, .int .i64 i9, .int .i64 i10, .int .i64 i11, .slice ao0 L0.length ac0, .slice ao1 L1.length ac1, .int .i64 i12] 32)).cell? ⟨w.heap.size, 9, none⟩ = some (.int .i64 i9) := by go_cell
  have a10_1 : (w.alloc (.cells #[.int .i64 4, .int .i64 i1, .int .i64 i2, .int .i64 i3, .int .i64 i4, .int .i64 i5, .int .i64 i6, .int .i64 i7, .int .i64 i8, .int .i64 i9, .int .i64 i10, .int .i64 i11, .slice ao0 L0.length ac0, .slice ao1 L1.length ac1, .int .i64 i12] 32)).cell? ⟨w.heap.size, 10, none⟩ = some (.int .i64 i10) := by go_cell
  have a11_1 : (w.alloc (.cells #[.int .i64 4, .int .i64 i1, .int .i64 i2, .int .i64 i3, .int .i64 i4, .int .i64 i5, .int .i64 i6, .int .i64 i7, .int .i64 i8, .int .i64 i9, .int .i64 i10, .int .i64 i11, .slice ao0 L0.length ac0, .slice ao1 L1.length ac1, .int .i64 i12] 32)).cell? ⟨w.heap.size, 11, none⟩ = some (.int .i64 i11) := by go_cell
  have a12_1 : (w.alloc (.cells #[.int .i64 4, .int .i64 i1, .int .i64 i2, .int .i64 i3, .int .i64 i4, .int .i64 i5, .int .i64 i6, .int .i64 i7, .int .i64 i8, .int .i64 i9, .int .i64 i10, .int .i64 i11, .slice ao0 L0.length ac0, .slice ao1 L1.length ac1, .int .i64 i12] 32)).cell? ⟨w.heap.size, 12, none⟩ = some (.slice ao0 L0.length ac0) := by go_cell
  have a13_1 : (w.alloc (.cells #[.int .i64 4, .int .i64 i1, .int .i64 i2, .int .i64 i3, .int .i64 i4, .int .i64 i5, .int .i64 i6, .int .i64 i7, .int .i64 i8, .int .i64 i9, .int .i64 i10, .int .i64 i11, .slice ao0 L0.length ac0, .slice ao1 L1.length ac1, .int .i64 i12] 32)).cell? ⟨w.heap.size, 13, none⟩ = some (.slice ao1 L1.length ac1) := by go_cell
  have a14_1 : (w.alloc (.cells #[.int .i64 4, .int .i64 i1, .int .i64 i2, .int .i64 i3, .int .i64 i4, .int .i64 i5, .int .i64 i6, .int .i64 i7, .int .i64 i8, .int .i64 i9, .int .i64 i10, .int .i64 i11, .slice ao0 L0.length ac0, .slice ao1 L1.length ac1, .int .i64 i12] 32)).cell? ⟨w.heap.size, 14, none⟩ = some (.int .i64 i12) := by go_cell
  have al_1 : w.heap.size < (w.alloc (.cells #[.int .i64 4, .int .i64 i1, .int .i64 i2, .int .i64 i3, .int .i64 i4, .int .i64 i5, .int .i64 i6, .int .i64 i7, .int .i64 i8, .int .i64 i9, .int .i64 i10, .int .i64 i11, .slice ao0 L0.length ac0, .slice ao1 L1.length ac1, .int .i64 i12] 32)).heap.size := by first | (simp; done) | (simp; omega)
  have c1 : Below w.heap.size w (w.alloc (.cells #[.int .i64 4, .int .i64 i1, .int .i64 i2, .int .i64 i3, .int .i64 i4, .int .i64 i5, .int .i64 i6, .int .i64 i7, .int .i64 i8, .int .i64 i9, .int .i64 i10, .int .i64 i11, .slice ao0 L0.length ac0, .slice ao1 L1.length ac1, .int .i64 i12] 32)) := by go_grown
  have s1 : (w.alloc (.cells #[.int .i64 4, .int .i64 i1, .int .i64 i2, .int .i64 i3, .int .i64 i4, .int .i64 i5, .int .i64 i6, .int .i64 i7, .int .i64 i8, .int .i64 i9, .int .i64 i10, .int .i64 i11, .slice ao0 L0.length ac0, .slice ao1 L1.length ac1, .int .i64 i12] 32)).heap.size = w.heap.size + 1 := by simp
  generalize (w.alloc (.cells #[.int .i64 4, .int .i64 i1, .int .i64 i2, .int .i64 i3, .int .i64 i4, .int .i64 i5, .int .i64 i6, .int .i64 i7, .int .i64 i8, .int .i64 i9, .int .i64 i10, .int .i64 i11, .slice ao0 L0.length ac0, .slice ao1 L1.length ac1, .int .i64 i12] 32)) = w1 at a0_1 a1_1 a2_1 a3_1 a4_1 a5_1 a6_1 a7_1 a8_1 a9_1 a10_1 a11_1 a12_1 a13_1 a14_1 al_1 c1 s1 ⊢
  have qa0_1 := cell_regrown a0_1
  have qa1_1 := cell_regrown a1_1
  have qa2_1 := cell_regrown a2_1
  have qa3_1 := cell_regrown a3_1
  have qa4_1 := cell_regrown a4_1
  have qa5_1 := cell_regrown a5_1
  have qa6_1 := cell_regrown a6_1
  have qa7_1 := cell_regrown a7_1
  have qa8_1 := cell_regrown a8_1
  have qa9_1 := cell_regrown a9_1
  have qa10_1 := cell_regrown a10_1
  have qa11_1 := cell_regrown a11_1
  have qa12_1 := cell_regrown a12_1
  have qa13_1 := cell_regrown a13_1
  have qa14_1 := cell_regrown a14_1
  go_cut [3] from 4 (fun s wx => s = .bool itv ∧ Below w1.heap.size w1 wx)
  case first =>
    cases hI : itR i9 i10 i11 L0 with
    | false =>
      refine wp_region_quiet_below (by kernel_rfl) (by kernel_rfl) ?_
      repeat (first | go_big_quiet_skip | (go_big_quiet_want; go_big_quiet_op; first | go_big_quiet_on | go_big_quiet_call (first | (go_at_call 75; exact Calls.regrown_of (specItem_any i9 i10 i11 _ L0 _ ((HA.out.h0.later c1).later (below_regrown _ _ _)) hI)) | (go_at_call 76; exact Calls.regrown_of (specShard_b i9 _)))))
      refine wpQuiet_nil ?_
      rintro wq ⟨pq, hwq⟩
      have hq : Below w1.heap.size w1 wq := by rw [hwq]; exact below_regrown _ _ _
      clear hwq pq
      go_wp2_with fail
      go_meet
      exact ⟨by rw [← HIT.out]; simp [hI], hq⟩
    | true =>
      by_cases hp : partOf i9 = i2
      · have hb : (partOf i9 == i2) = true := by simpa using hp
        have HP := hid hp
        clear hp
        refine wp_region_quiet_below (by kernel_rfl) (by kernel_rfl) ?_
        repeat (first | go_big_quiet_skip | (go_big_quiet_want; go_big_quiet_op; first | go_big_quiet_on | go_big_quiet_call (first | (go_at_call 75; exact Calls.regrown_of (specItem_any i9 i10 i11 _ L0 _ ((HA.out.h0.later c1).later (below_regrown _ _ _)) hI)) | (go_at_call 76; exact Calls.regrown_of (specShard_b i9 _)))))
        refine wpQuiet_nil ?_
        rintro wq ⟨pq, hwq⟩
        have hq : Below w1.heap.size w1 wq := by rw [hwq]; exact below_regrown _ _ _
        clear hwq pq
        go_wp2_with fail
        go_meet
        exact ⟨by rw [← HIT.out]; simp [hI, HP.out], hq⟩
      · have hb : (partOf i9 == i2) = false := by simpa using hp
        have HP := hid hp
        clear hp
        refine wp_region_quiet_below (by kernel_rfl) (by kernel_rfl) ?_
        repeat (first | go_big_quiet_skip | (go_big_quiet_want; go_big_quiet_op; first | go_big_quiet_on | go_big_quiet_call (first | (go_at_call 75; exact Calls.regrown_of (specItem_any i9 i10 i11 _ L0 _ ((HA.out.h0.later c1).later (below_regrown _ _ _)) hI)) | (go_at_call 76; exact Calls.regrown_of (specShard_b i9 _)))))
        refine wpQuiet_nil ?_
        rintro wq ⟨pq, hwq⟩
        have hq : Below w1.heap.size w1 wq := by rw [hwq]; exact below_regrown _ _ _
        clear hwq pq
        go_wp2_with fail
        go_meet
        exact ⟨by rw [← HIT.out]; simp [hI, HP.out], hq⟩
  case rest =>
    obtain ⟨rfl, b2⟩ := hcut
    obtain ⟨w2, hw2⟩ : ∃ x, x = wc := ⟨_, rfl⟩
    subst hw2
    have d2 : Below w1.heap.size w1 w2 := (Below.trans (by go_grown) (b2.mono (by first | omega | (simp; done) | (simp; omega))))
    have c2 : Below w.heap.size w w2 := c1.trans (d2.mono c1.size)
    have a0_2 : w2.cell? ⟨w.heap.size, 0, none⟩ = some (.int .i64 4) := (by rw [b2.cell (by first | omega | (simp; done) | (simp; omega))]; go_cell)
    have a1_2 : w2.cell? ⟨w.heap.size, 1, none⟩ = some (.int .i64 i1) := (by rw [b2.cell (by first | omega | (simp; done) | (simp; omega))]; go_cell)
    have a2_2 : w2.cell? ⟨w.heap.size, 2, none⟩ = some (.int .i64 i2) := (by rw [b2.cell (by first | omega | (simp; done) | (simp; omega))]; go_cell)
    have a3_2 : w2.cell? ⟨w.heap.size, 3, none⟩ = some (.int .i64 i3) := (by rw [b2.cell (by first | omega | (simp; done) | (simp; omega))]; go_cell)
    have a4_2 : w2.cell? ⟨w.heap.size, 4, none⟩ = some (.int .i64 i4) := (by rw [b2.cell (by first | omega | (simp; done) | (simp; omega))]; go_cell)
    have a5_2 : w2.cell? ⟨w.heap.size, 5, none⟩ = some (.int .i64 i5) := (by rw [b2.cell (by first | omega | (simp; done) | (simp; omega))]; go_cell)
    have a6_2 : w2.cell? ⟨w.heap.size, 6, none⟩ = some (.int .i64 i6) := (by rw [b2.cell (by first | omega | (simp; done) | (simp; omega))]; go_cell)
    have a7_2 : w2.cell? ⟨w.heap.size, 7, none⟩ = some (.int .i64 i7) := (by rw [b2.cell (by first | omega | (simp; done) | (simp; omega))]; go_cell)
    have a8_2 : w2.cell? ⟨w.heap.size, 8, none⟩ = some (.int .i64 i8) := (by rw [b2.cell (by first | omega | (simp; done) | (simp; omega))]; go_cell)
    have a9_2 : w2.cell? ⟨w.heap.size, 9, none⟩ = some (.int .i64 i9) := (by rw [b2.cell (by first | omega | (simp; done) | (simp; omega))]; go_cell)
    have a10_2 : w2.cell? ⟨w.heap.size, 10, none⟩ = some (.int .i64 i10) := (by rw [b2.cell (by first | omega | (simp; done) | (simp; omega))]; go_cell)
    have a11_2 : w2.cell? ⟨w.heap.size, 11, none⟩ = some (.int .i64 i11) := (by rw [b2.cell (by first | omega | (simp; done) | (simp; omega))]; go_cell)
    have a12_2 : w2.cell? ⟨w.heap.size, 12, none⟩ = some (.slice ao0 L0.length ac0) := (by rw [b2.cell (by first | omega | (simp; done) | (simp; omega))]; go_cell)
    have a13_2 : w2.cell? ⟨w.heap.size, 13, none⟩ = some (.slice ao1 L1.length ac1) := (by rw [b2.cell (by first | omega | (simp; done) | (simp; omega))]; go_cell)
    have a14_2 : w2.cell? ⟨w.heap.size, 14, none⟩ = some (.int .i64 i12) := (by rw [b2.cell (by first | omega | (simp; done) | (simp; omega))]; go_cell)
    have al_2 : w.heap.size < w2.heap.size := (by have := b2.size; first | omega | (revert this; simp; done) | (revert this; simp; omega))
    clear a0_1 a1_1 a2_1 a3_1 a4_1 a5_1 a6_1 a7_1 a8_1 a9_1 a10_1 a11_1 a12_1 a13_1 a14_1 al_1
    clear b2 d2
    go_wp2_with fail
    refine (l6None_any i5 i6 i7 i8 _).mono ?_
    rintro e w3 ⟨rfl, b3⟩
    have d3 : Below w2.heap.size w2 w3 := (Below.trans (by go_grown) (b3.mono (by first | omega | (simp; done) | (simp; omega))))
    have c3 : Below w.heap.size w w3 := c2.trans (d3.mono c2.size)
    have a0_3 : w3.cell? ⟨w.heap.size, 0, none⟩ = some (.int .i64 4) := (by rw [b3.cell (by first | omega | (simp; done) | (simp; omega))]; go_cell)
    have a1_3 : w3.cell? ⟨w.heap.size, 1, none⟩ = some (.int .i64 i1) := (by rw [b3.cell (by first | omega | (simp; done) | (simp; omega))]; go_cell)
    have a2_3 : w3.cell? ⟨w.heap.size, 2, none⟩ = some (.int .i64 i2) := (by rw [b3.cell (by first | omega | (simp; done) | (simp; omega))]; go_cell)
    have a3_3 : w3.cell? ⟨w.heap.size, 3, none⟩ = some (.int .i64 i3) := (by rw [b3.cell (by first | omega | (simp; done) | (simp; omega))]; go_cell)
    have a4_3 : w3.cell? ⟨w.heap.size, 4, none⟩ = some (.int .i64 i4) := (by rw [b3.cell (by first | omega | (simp; done) | (simp; omega))]; go_cell)
    have a5_3 : w3.cell? ⟨w.heap.size, 5, none⟩ = some (.int .i64 i5) := (by rw [b3.cell (by first | omega | (simp; done) | (simp; omega))]; go_cell)
    have a6_3 : w3.cell? ⟨w.heap.size, 6, none⟩ = some (.int .i64 i6) := (by rw [b3.cell (by first | omega | (simp; done) | (simp; omega))]; go_cell)
    have a7_3 : w3.cell? ⟨w.heap.size, 7, none⟩ = some (.int .i64 i7) := (by rw [b3.cell (by first | omega | (simp; done) | (simp; omega))]; go_cell)
    have a8_3 : w3.cell? ⟨w.heap.size, 8, none⟩ = some (.int .i64 i8) := (by rw [b3.cell (by first | omega | (simp; done) | (simp; omega))]; go_cell)
    have a9_3 : w3.cell? ⟨w.heap.size, 9, none⟩ = some (.int .i64 i9) := (by rw [b3.cell (by first | omega | (simp; done) | (simp; omega))]; go_cell)
    have a10_3 : w3.cell? ⟨w.heap.size, 10, none⟩ = some (.int .i64 i10) := (by rw [b3.cell (by first | omega | (simp; done) | (simp; omega))]; go_cell)
    have a11_3 : w3.cell? ⟨w.heap.size, 11, none⟩ = some (.int .i64 i11) := (by rw [b3.cell (by first | omega | (simp; done) | (simp; omega))]; go_cell)
    have a12_3 : w3.cell? ⟨w.heap.size, 12, none⟩ = some (.slice ao0 L0.length ac0) := (by rw [b3.cell (by first | omega | (simp; done) | (simp; omega))]; go_cell)
    have a13_3 : w3.cell? ⟨w.heap.size, 13, none⟩ = some (.slice ao1 L1.length ac1) := (by rw [b3.cell (by first | omega | (simp; done) | (simp; omega))]; go_cell)
    have a14_3 : w3.cell? ⟨w.heap.size, 14, none⟩ = some (.int .i64 i12) := (by rw [b3.cell (by first | omega | (simp; done) | (simp; omega))]; go_cell)
    have al_3 : w.heap.size < w3.heap.size := (by have := b3.size; first | omega | (revert this; simp; done) | (revert this; simp; omega))
    clear a0_2 a1_2 a2_2 a3_2 a4_2 a5_2 a6_2 a7_2 a8_2 a9_2 a10_2 a11_2 a12_2 a13_2 a14_2 al_2
    clear b3 d3
    cases h0 : zO i5 i6 i7 i8 with
    | false =>
      have H0 : Hid (¬ (i5 = 0 ∧ i6 = 0 ∧ i7 = 0 ∧ i8 = 0)) := hid (of_decide_eq_false h0)
      have HV : Hid (bodyM 4 i1 i2 i3 i4 i5 i6 i7 i8 i9 i10 i11 i12 L0 L1 = false) := hid (by rw [Bool.eq_false_iff]; exact fun h => H0.out ((body_4 i1 i2 i3 i4 i5 i6 i7 i8 i9 i10 i11 i12 L0 L1).1 h).1)
      go_wp2_with fail
      go_ret
      exact ⟨by simp [HV.out], c3⟩
    | true =>
      have H0 : Hid (i5 = 0 ∧ i6 = 0 ∧ i7 = 0 ∧ i8 = 0) := hid (of_decide_eq_true h0)
      clear h0
      cases itv with
      | false =>
        have H1 : Hid (¬ (itR i9 i10 i11 L0 = true ∧ partOf i9 = i2)) := hid (fun h => by have := HIT.out; rw [h.1] at this; simp [h.2] at this)
        have HV : Hid (bodyM 4 i1 i2 i3 i4 i5 i6 i7 i8 i9 i10 i11 i12 L0 L1 = false) := hid (by rw [Bool.eq_false_iff]; exact fun h => H1.out ((body_4 i1 i2 i3 i4 i5 i6 i7 i8 i9 i10 i11 i12 L0 L1).1 h).2.1)
        go_wp2_with fail
        go_ret
        exact ⟨by simp [HV.out], c3⟩
      | true =>
        have H1 : Hid (itR i9 i10 i11 L0 = true ∧ partOf i9 = i2) := hid (by have := HIT.out; simpa using this)
        by_cases h2 : L1 = []
        case neg =>
          have g2 : ((L1.length : Int) == 0) = false := by first | (simpa using h2) | (simp; omega)
          have H2 := hid h2
          clear h2
          have HV : Hid (bodyM 4 i1 i2 i3 i4 i5 i6 i7 i8 i9 i10 i11 i12 L0 L1 = false) := hid (by rw [Bool.eq_false_iff]; exact fun h => H2.out ((body_4 i1 i2 i3 i4 i5 i6 i7 i8 i9 i10 i11 i12 L0 L1).1 h).2.2.1)
          go_wp2_with fail
          go_ret
          exact ⟨by simp [HV.out], c3⟩
        have g2 : ((L1.length : Int) == 0) = true := by first | (simpa using h2) | (simp; omega)
        have H2 := hid h2
        clear h2
        by_cases h3 : 0 ≤ i12
        case neg =>
          have g3 : decide (i12 ≥ 0) = false := by first | (simpa using h3) | (simp; omega)
          have H3 := hid h3
          clear h3
          have HV : Hid (bodyM 4 i1 i2 i3 i4 i5 i6 i7 i8 i9 i10 i11 i12 L0 L1 = false) := hid (by rw [Bool.eq_false_iff]; exact fun h => H3.out ((body_4 i1 i2 i3 i4 i5 i6 i7 i8 i9 i10 i11 i12 L0 L1).1 h).2.2.2.1)
          go_wp2_with fail
          go_ret
          exact ⟨by simp [HV.out], c3⟩
        have g3 : decide (i12 ≥ 0) = true := by first | (simpa using h3) | (simp; omega)
        have H3 := hid h3
        clear h3
        by_cases h4 : i12 ≤ 5
        case neg =>
          have g4 : decide (i12 ≤ 5) = false := by first | (simpa using h4) | (simp; omega)
          have H4 := hid h4
          clear h4
          have HV : Hid (bodyM 4 i1 i2 i3 i4 i5 i6 i7 i8 i9 i10 i11 i12 L0 L1 = false) := hid (by rw [Bool.eq_false_iff]; exact fun h => H4.out ((body_4 i1 i2 i3 i4 i5 i6 i7 i8 i9 i10 i11 i12 L0 L1).1 h).2.2.2.2)
          go_wp2_with fail
          go_ret
          exact ⟨by simp [HV.out], c3⟩
        have g4 : decide (i12 ≤ 5) = true := by first | (simpa using h4) | (simp; omega)
        have H4 := hid h4
        clear h4
        have HV : Hid (bodyM 4 i1 i2 i3 i4 i5 i6 i7 i8 i9 i10 i11 i12 L0 L1 = true) := hid ((body_4 i1 i2 i3 i4 i5 i6 i7 i8 i9 i10 i11 i12 L0 L1).2 ⟨H0.out, H1.out, H2.out, H3.out, H4.out⟩)
        go_wp2_with fail
        go_ret
        exact ⟨by simp [HV.out], c3⟩

end Go.Proofs.YtfdcnolcjgjfjaaGreatDoor
