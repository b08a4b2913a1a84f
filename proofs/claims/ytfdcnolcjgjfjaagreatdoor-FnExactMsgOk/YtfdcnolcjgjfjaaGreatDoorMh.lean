/- impl.askTold: contract. Written by a program (gme.py). -/
import Derived.Test.YtfdcnolcjgjfjaaGreatDoorMd
import Derived.Test.YtfdcnolcjgjfjaaGreatDoorPb
import Derived.Test.YtfdcnolcjgjfjaaGreatDoorOz
import Derived.Deep.Cut
namespace Go.Proofs.YtfdcnolcjgjfjaaGreatDoor
open Go.RowKit
attribute [local go_sem ↓] Go.wp_at_zero Go.wp_at_succ

set_option maxRecDepth 100000 in
set_option maxHeartbeats 4000000 in
theorem askTold_any (i0 i1 i2 i3 i4 i5 i6 i7 i8 i9 i10 i11 i12 : Int) (va0 va1 : Value) (L0 : List (Int × Int)) (L1 : List KD) (w : World) (ha : RSMsg w va0 va1 L0 L1) (hE : ErrM w) :
    Calls Tryz.prog 74 #[.agg #[.int .i64 i0, .int .i64 i1, .int .i64 i2, .int .i64 i3, .int .i64 i4, .int .i64 i5, .int .i64 i6, .int .i64 i7, .int .i64 i8, .int .i64 i9, .int .i64 i10, .int .i64 i11, va0, va1, .int .i64 i12]] w fun e w' => Asked (toldM i0 i2 i5 i6 i7 i8 i9 i10 i11 i12 L0 L1) e ∧ Below w.heap.size w w' := by
  have HE := hid hE
  clear hE
  have HA := hid ha
  obtain ⟨ao0, ao1, ac0, ac1, rfl, rfl⟩ := ha.open
  clear ha
  by_cases h1 : i0 = 1
  case pos =>
    subst h1
    go_enter Tryz.func74, Tryz.ntmps74
    go_wp2_with fail
    have a0_1 : (w.alloc (.cells #[.int .i64 1, .int .i64 i1, .int .i64 i2, .int .i64 i3, .int .i64 i4, .int .i64 i5, .int .i64 i6, .int .i64 i7, .int .i64 i8, .int .i64 i9, .int .i64 i10, .int .i64 i11, .slice ao0 L0.length ac0, .slice ao1 L1.length ac1, .int .i64 i12] 32)).cell? ⟨w.heap.size, 0, none⟩ = some (.int .i64 1) := by go_cell
    have a1_1 : (w.alloc (.cells #[.int .i64 1, .int .i64 i1, .int .i64 i2, .int .i64 i3, .int .i64 i4, .int .i64 i5, .int .i64 i6, .int .i64 i7, .int .i64 i8, .int .i64 i9, .int .i64 i10, .int .i64 i11, .slice ao0 L0.length ac0, .slice ao1 L1.length ac1, .int .i64 i12] 32)).cell? ⟨w.heap.size, 1, none⟩ = some (.int .i64 i1) := by go_cell
    have a2_1 : (w.alloc (.cells #[.int .i64 1, .int .i64 i1, .int .i64 i2, .int .i64 i3, .int .i64 i4, .int .i64 i5, .int .i64 i6, .int .i64 i7, .int .i64 i8, .int .i64 i9, .int .i64 i10, .int .i64 i11, .slice ao0 L0.length ac0, .slice ao1 L1.length ac1, .int .i64 i12] 32)).cell? ⟨w.heap.size, 2, none⟩ = some (.int .i64 i2) := by go_cell
    have a3_1 : (w.alloc (.cells #[.int .i64 1, .int .i64 i1, .int .i64 i2, .int .i64 i3, .int .i64 i4, .int .i64 i5, .int .i64 i6, .int .i64 i7, .int .i64 i8, .int .i64 i9, .int .i64 i10, .int .i64 i11, .slice ao0 L0.length ac0, .slice ao1 L1.length ac1, .int .i64 i12] 32)).cell? ⟨w.heap.size, 3, none⟩ = some (.int .i64 i3) := by go_cell
    have a4_1 : (w.alloc (.cells #[.int .i64 1, .int .i64 i1, .int .i64 i2, .int .i64 i3, .int .i64 i4, .int .i64 i5, .int .i64 i6, .int .i64 i7, .int .i64 i8, .int .i64 i9, .int .i64 i10, .int .i64 i11, .slice ao0 L0.length ac0, .slice ao1 L1.length ac1, .int .i64 i12] 32)).cell? ⟨w.heap.size, 4, none⟩ = some (.int .i64 i4) := by go_cell
    have a5_1 : (w.alloc (.cells #[.int .i64 1, .int .i64 i1, .int .i64 i2, .int .i64 i3, .int .i64 i4, .int .i64 i5, .int .i64 i6, .int .i64 i7, .int .i64 i8, .int .i64 i9, .int .i64 i10, .int .i64 i11, .slice ao0 L0.length ac0, .slice ao1 L1.length ac1, .int .i64 i12] 32)).cell? ⟨w.heap.size, 5, none⟩ = some (.int .i64 i5) := by go_cell
    have a6_1 : (w.alloc (.cells #[.int .i64 1, .int .i64 i1, .int .i64 i2, .int .i64 i3, .int .i64 i4, .int .i64 i5, .int .i64 i6, .int .i64 i7, .int .i64 i8, .int .i64 i9, .int .i64 i10, .int .i64 i11, .slice ao0 L0.length ac0, .slice ao1 L1.length ac1, .int .i64 i12] 32)).cell? ⟨w.heap.size, 6, none⟩ = some (.int .i64 i6) := by go_cell
    have a7_1 : (w.alloc (.cells #[.int .i64 1, .int .i64 i1, .int .i64 i2, .int .i64 i3, .int .i64 i4, .int .i64 i5, .int .i64 i6, .int .i64 i7, .int .i64 i8, .int .i64 i9, .int .i64 i10, .int .i64 i11, .slice ao0 L0.length ac0, .slice ao1 L1.length ac1, .int .i64 i12] 32)).cell? ⟨w.heap.size, 7, none⟩ = some (.int .i64 i7) := by go_cell
    have a8_1 : (w.alloc (.cells #[.int .i64 1, .int .i64 i1, .int .i64 i2, .int .i64 i3, .int .i64 i4, .int .i64 i5, .int .i64 i6, .int .i64 i7, .int .i64 i8, .int .i64 i9, .int .i64 i10, .int .i64 i11, .slice ao0 L0.length ac0, .slice ao1 L1.length ac1, .int .i64 i12] 32)).cell? ⟨w.heap.size, 8, none⟩ = some (.int .i64 i8) := by go_cell
    have a9_1 : (w.alloc (.cells #[.int .i64 1, .int .i64 i1, .int .i64 i2, .int .i64 i3, .int .i64 i4, .int .i64 i5, .int .i64 i6, .int .i64 i7, .int .i64 i8, .int .i64 i9, .int .i64 i10, .int .i64 i11, .slice ao0 L0.length ac0, .slice ao1 L1.length ac1, .int .i64 i12] 32)).cell? ⟨w.heap.size, 9, none⟩ = some (.int .i64 i9) := by go_cell
    have a10_1 : (w.alloc (.cells #[.int .i64 1, .int .i64 i1, .int .i64 i2, .int .i64 i3, .int .i64 i4, .int .i64 i5, .int .i64 i6, .int .i64 i7, .int .i64 i8, .int .i64 i9, .int .i64 i10, .int .i64 i11, .slice ao0 L0.length ac0, .slice ao1 L1.length ac1, .int .i64 i12] 32)).cell? ⟨w.heap.size, 10, none⟩ = some (.int .i64 i10) := by go_cell
    have a11_1 : (w.alloc (.cells #[.int .i64 1, .int .i64 i1, .int .i64 i2, .int .i64 i3, .int .i64 i4, .int .i64 i5, .int .i64 i6, .int .i64 i7, .int .i64 i8, .int .i64 i9, .int .i64 i10, .int .i64 i11, .slice ao0 L0.length ac0, .slice ao1 L1.length ac1, .int .i64 i12] 32)).cell? ⟨w.heap.size, 11, none⟩ = some (.int .i64 i11) := by go_cell
    have a12_1 : (w.alloc (.cells #[.int .i64 1, .int .i64 i1, .int .i64 i2, .int .i64 i3, .int .i64 i4, .int .i64 i5, .int .i64 i6, .int .i64 i7, .int .i64 i8, .int .i64 i9, .int .i64 i10, .int .i64 i11, .slice ao0 L0.length ac0, .slice ao1 L1.length ac1, .int .i64 i12] 32)).cell? ⟨w.heap.size, 12, none⟩ = some (.slice ao0 L0.length ac0) := by go_cell
    have a13_1 : (w.alloc (.cells #[.int .i64 1, .int .i64 i1, .int .i64 i2, .int .i64 i3, .int .i64 i4, .int .i64 i5, .int .i64 i6, .int .i64 i7, .int .i64 i8, .int .i64 i9, .int .i64 i10, .int .i64 i11, .slice ao0 L0.length ac0, .slice ao1 L1.length ac1, .int .i64 i12] 32)).cell? ⟨w.heap.size, 13, none⟩ = some (.slice ao1 L1.length ac1) := by go_cell
    have a14_1 : (w.alloc (.cells #[.int .i64 1, .int .i64 i1, .int .i64 i2, .int .i64 i3, .int .i64 i4, .int .i64 i5, .int .i64 i6, .int .i64 i7, .int .i64 i8, .int .i64 i9, .int .i64 i10, .int .i64 i11, .slice ao0 L0.length ac0, .slice ao1 L1.length ac1, .int .i64 i12] 32)).cell? ⟨w.heap.size, 14, none⟩ = some (.int .i64 i12) := by go_cell
    have al_1 : w.heap.size < (w.alloc (.cells #[.int .i64 1, .int .i64 i1, .int .i64 i2, .int .i64 i3, .int .i64 i4, .int .i64 i5, .int .i64 i6, .int .i64 i7, .int .i64 i8, .int .i64 i9, .int .i64 i10, .int .i64 i11, .slice ao0 L0.length ac0, .slice ao1 L1.length ac1, .int .i64 i12] 32)).heap.size := by first | (simp; done) | (simp; omega)
    have c1 : Below w.heap.size w (w.alloc (.cells #[.int .i64 1, .int .i64 i1, .int .i64 i2, .int .i64 i3, .int .i64 i4, .int .i64 i5, .int .i64 i6, .int .i64 i7, .int .i64 i8, .int .i64 i9, .int .i64 i10, .int .i64 i11, .slice ao0 L0.length ac0, .slice ao1 L1.length ac1, .int .i64 i12] 32)) := by go_grown
    have s1 : (w.alloc (.cells #[.int .i64 1, .int .i64 i1, .int .i64 i2, .int .i64 i3, .int .i64 i4, .int .i64 i5, .int .i64 i6, .int .i64 i7, .int .i64 i8, .int .i64 i9, .int .i64 i10, .int .i64 i11, .slice ao0 L0.length ac0, .slice ao1 L1.length ac1, .int .i64 i12] 32)).heap.size = w.heap.size + 1 := by simp
    generalize (w.alloc (.cells #[.int .i64 1, .int .i64 i1, .int .i64 i2, .int .i64 i3, .int .i64 i4, .int .i64 i5, .int .i64 i6, .int .i64 i7, .int .i64 i8, .int .i64 i9, .int .i64 i10, .int .i64 i11, .slice ao0 L0.length ac0, .slice ao1 L1.length ac1, .int .i64 i12] 32)) = w1 at a0_1 a1_1 a2_1 a3_1 a4_1 a5_1 a6_1 a7_1 a8_1 a9_1 a10_1 a11_1 a12_1 a13_1 a14_1 al_1 c1 s1 ⊢
    have qa0_1 := cell_regrown a0_1
    have qa1_1 := cell_regrown a1_1
    have qa2_1 := cell_regrown a2_1
    have qa3_1 := cell_regrown a3_1
    have qa4_1 := cell_regrown a4_1
    have qa5_1 := cell_regrown a5_1
    have qa6_1 := cell_regrown a6_1
    have qa7_1 := cell_regrown a7_1
    have qa8_1 := cell_regrown a8_1
    have qa9_1 := cell_regrown a9_1
    have qa10_1 := cell_regrown a10_1
    have qa11_1 := cell_regrown a11_1
    have qa12_1 := cell_regrown a12_1
    have qa13_1 := cell_regrown a13_1
    have qa14_1 := cell_regrown a14_1
    have HIT := fun W h => itemRight_any i9 i10 i11 (.slice ao0 L0.length ac0) L0 W h
    cases hI : itR i9 i10 i11 L0 with
    | false =>
      rw [hI] at HIT
      first | go_region_with (first | (go_at_call 100; refine (HIT _ (HA.out.h0.later (c1.drew))).mono ?_; rintro e wi ⟨rfl, bi⟩; have di : Below w1.heap.size w1 wi := (Below.trans (by go_grown) (bi.mono (by first | omega | (simp; done) | (simp; omega)))); have ci : Below w.heap.size w wi := c1.trans (di.mono c1.size); have y2 : wi.cell? ⟨w.heap.size, 2, none⟩ = some (.int .i64 i2) := (by rw [bi.cell (by first | omega | (simp; done) | (simp; omega))]; go_cell); have y9 : wi.cell? ⟨w.heap.size, 9, none⟩ = some (.int .i64 i9) := (by rw [bi.cell (by first | omega | (simp; done) | (simp; omega))]; go_cell)) | (go_at_call 65; refine (need_no _ (HE.out.later ci)).mono ?_; rintro e wz ⟨⟨t, v, rfl⟩, rfl⟩; refine (fun (_ : wpAny Tryz.prog (default : Region.Mode) #[] (fun _ _ _ => True) 0 #[] ({ tmps := #[], defers := [] } : Act) w) => ?_) ?_; · exact ⟨rfl, Or.inr ⟨(by first | (simp [toldM]; done) | (simp_all [toldM]; done) | (simp [toldM]; omega) | (simp_all [toldM]; omega)), t, v, rfl⟩, ci⟩)) | fail
      all_goals trivial
    | true =>
      rw [hI] at HIT
      by_cases hp : partOf i9 = i2
      · have hb : (partOf i9 == i2) = true := by simpa using hp
        first | go_region_with (first | (go_at_call 100; refine (HIT _ (HA.out.h0.later (c1.drew))).mono ?_; rintro e wi ⟨rfl, bi⟩; have di : Below w1.heap.size w1 wi := (Below.trans (by go_grown) (bi.mono (by first | omega | (simp; done) | (simp; omega)))); have ci : Below w.heap.size w wi := c1.trans (di.mono c1.size); have y2 : wi.cell? ⟨w.heap.size, 2, none⟩ = some (.int .i64 i2) := (by rw [bi.cell (by first | omega | (simp; done) | (simp; omega))]; go_cell); have y9 : wi.cell? ⟨w.heap.size, 9, none⟩ = some (.int .i64 i9) := (by rw [bi.cell (by first | omega | (simp; done) | (simp; omega))]; go_cell)) | (go_at_call 101; refine (implShard_any i9 _).mono ?_; rintro e wk ⟨rfl, rfl⟩) | (go_at_call 65; refine (need_yes _).mono ?_; rintro e wz ⟨rfl, hz⟩; obtain rfl := hz.symm; clear hz)) | fail
        all_goals
          go_wp2_with fail
          exact ⟨rfl, .tuple #[], by simp [results, Tryz.results74, go_sem], Or.inl ⟨(by first | (simp [toldM]; done) | (simp_all [toldM]; done) | (simp [toldM]; omega) | (simp_all [toldM]; omega)), rfl⟩, ci⟩
      · have hb : (partOf i9 == i2) = false := by simpa using hp
        first | go_region_with (first | (go_at_call 100; refine (HIT _ (HA.out.h0.later (c1.drew))).mono ?_; rintro e wi ⟨rfl, bi⟩; have di : Below w1.heap.size w1 wi := (Below.trans (by go_grown) (bi.mono (by first | omega | (simp; done) | (simp; omega)))); have ci : Below w.heap.size w wi := c1.trans (di.mono c1.size); have y2 : wi.cell? ⟨w.heap.size, 2, none⟩ = some (.int .i64 i2) := (by rw [bi.cell (by first | omega | (simp; done) | (simp; omega))]; go_cell); have y9 : wi.cell? ⟨w.heap.size, 9, none⟩ = some (.int .i64 i9) := (by rw [bi.cell (by first | omega | (simp; done) | (simp; omega))]; go_cell)) | (go_at_call 101; refine (implShard_any i9 _).mono ?_; rintro e wk ⟨rfl, rfl⟩) | (go_at_call 65; refine (need_no _ (HE.out.later ci)).mono ?_; rintro e wz ⟨⟨t, v, rfl⟩, rfl⟩; refine (fun (_ : wpAny Tryz.prog (default : Region.Mode) #[] (fun _ _ _ => True) 0 #[] ({ tmps := #[], defers := [] } : Act) w) => ?_) ?_; · exact ⟨rfl, Or.inr ⟨(by first | (simp [toldM]; done) | (simp_all [toldM]; done) | (simp [toldM]; omega) | (simp_all [toldM]; omega)), t, v, rfl⟩, ci⟩)) | fail
        all_goals trivial
  by_cases h2 : i0 = 2
  case pos =>
    subst h2
    go_enter Tryz.func74, Tryz.ntmps74
    go_wp2_with fail
    have a0_1 : (w.alloc (.cells #[.int .i64 2, .int .i64 i1, .int .i64 i2, .int .i64 i3, .int .i64 i4, .int .i64 i5, .int .i64 i6, .int .i64 i7, .int .i64 i8, .int .i64 i9, .int .i64 i10, .int .i64 i11, .slice ao0 L0.length ac0, .slice ao1 L1.length ac1, .int .i64 i12] 32)).cell? ⟨w.heap.size, 0, none⟩ = some (.int .i64 2) := by go_cell
    have a1_1 : (w.alloc (.cells #[.int .i64 2, .int .i64 i1, .int .i64 i2, .int .i64 i3, .int .i64 i4, .int .i64 i5, .int .i64 i6, .int .i64 i7, .int .i64 i8, .int .i64 i9, .int .i64 i10, .int .i64 i11, .slice ao0 L0.length ac0, .slice ao1 L1.length ac1, .int .i64 i12] 32)).cell? ⟨w.heap.size, 1, none⟩ = some (.int .i64 i1) := by go_cell
    have a2_1 : (w.alloc (.cells #[.int .i64 2, .int .i64 i1, .int .i64 i2, .int .i64 i3, .int .i64 i4, .int .i64 i5, .int .i64 i6, .int .i64 i7, .int .i64 i8, .int .i64 i9, .int .i64 i10, .int .i64 i11, .slice ao0 L0.length ac0, .slice ao1 L1.length ac1, .int .i64 i12] 32)).cell? ⟨w.heap.size, 2, none⟩ = some (.int .i64 i2) := by go_cell
    have a3_1 : (w.alloc (.cells #[.int .i64 2, .int .i64 i1, .int .i64 i2, .int .i64 i3, .int .i64 i4, .int .i64 i5, .int .i64 i6, .int .i64 i7, .int .i64 i8, .int .i64 i9, .int .i64 i10, .int .i64 i11, .slice ao0 L0.length ac0, .slice ao1 L1.length ac1, .int .i64 i12] 32)).cell? ⟨w.heap.size, 3, none⟩ = some (.int .i64 i3) := by go_cell
    have a4_1 : (w.alloc (.cells #[.int .i64 2, .int .i64 i1, .int .i64 i2, .int .i64 i3, .int .i64 i4, .int .i64 i5, .int .i64 i6, .int .i64 i7, .int .i64 i8, .int .i64 i9, .int .i64 i10, .int .i64 i11, .slice ao0 L0.length ac0, .slice ao1 L1.length ac1, .int .i64 i12] 32)).cell? ⟨w.heap.size, 4, none⟩ = some (.int .i64 i4) := by go_cell
    have a5_1 : (w.alloc (.cells #[.int .i64 2, .int .i64 i1, .int .i64 i2, .int .i64 i3, .int .i64 i4, .int .i64 i5, .int .i64 i6, .int .i64 i7, .int .i64 i8, .int .i64 i9, .int .i64 i10, .int .i64 i11, .slice ao0 L0.length ac0, .slice ao1 L1.length ac1, .int .i64 i12] 32)).cell? ⟨w.heap.size, 5, none⟩ = some (.int .i64 i5) := by go_cell
    have a6_1 : (w.alloc (.cells #[.int .i64 2, .int .i64 i1, .int .i64 i2, .int .i64 i3, .int .i64 i4, .int .i64 i5, .int .i64 i6, .int .i64 i7, .int .i64 i8, .int .i64 i9, .int .i64 i10, .int .i64 i11, .slice ao0 L0.length ac0, .slice ao1 L1.length ac1, .int .i64 i12] 32)).cell? ⟨w.heap.size, 6, none⟩ = some (.int .i64 i6) := by go_cell
    have a7_1 : (w.alloc (.cells #[.int .i64 2, .int .i64 i1, .int .i64 i2, .int .i64 i3, .int .i64 i4, .int .i64 i5, .int .i64 i6, .int .i64 i7, .int .i64 i8, .int .i64 i9, .int .i64 i10, .int .i64 i11, .slice ao0 L0.length ac0, .slice ao1 L1.length ac1, .int .i64 i12] 32)).cell? ⟨w.heap.size, 7, none⟩ = some (.int .i64 i7) := by go_cell
    have a8_1 : (w.alloc (.cells #[.int .i64 2, .int .i64 i1, .int .i64 i2, .int .i64 i3, .int .i64 i4, .int .i64 i5, .int .i64 i6, .int .i64 i7, .int .i64 i8, .int .i64 i9, .int .i64 i10, .int .i64 i11, .slice ao0 L0.length ac0, .slice ao1 L1.length ac1, .int .i64 i12] 32)).cell? ⟨w.heap.size, 8, none⟩ = some (.int .i64 i8) := by go_cell
    have a9_1 : (w.alloc (.cells #[.int .i64 2, .int .i64 i1, .int .i64 i2, .int .i64 i3, .int .i64 i4, .int .i64 i5, .int .i64 i6, .int .i64 i7, .int .i64 i8, .int .i64 i9, .int .i64 i10, .int .i64 i11, .slice ao0 L0.length ac0, .slice ao1 L1.length ac1, .int .i64 i12] 32)).cell? ⟨w.heap.size, 9, none⟩ = some (.int .i64 i9) := by go_cell
    have a10_1 : (w.alloc (.cells #[.int .i64 2, .int .i64 i1, .int .i64 i2, .int .i64 i3, .int .i64 i4, .int .i64 i5, .int .i64 i6, .int .i64 i7, .int .i64 i8, .int .i64 i9, .int .i64 i10, .int .i64 i11, .slice ao0 L0.length ac0, .slice ao1 L1.length ac1, .int .i64 i12] 32)).cell? ⟨w.heap.size, 10, none⟩ = some (.int .i64 i10) := by go_cell
    have a11_1 : (w.alloc (.cells #[.int .i64 2, .int .i64 i1, .int .i64 i2, .int .i64 i3, .int .i64 i4, .int .i64 i5, .int .i64 i6, .int .i64 i7, .int .i64 i8, .int .i64 i9, .int .i64 i10, .int .i64 i11, .slice ao0 L0.length ac0, .slice ao1 L1.length ac1, .int .i64 i12] 32)).cell? ⟨w.heap.size, 11, none⟩ = some (.int .i64 i11) := by go_cell
    have a12_1 : (w.alloc (.cells #[.int .i64 2, .int .i64 i1, .int .i64 i2, .int .i64 i3, .int .i64 i4, .int .i64 i5, .int .i64 i6, .int .i64 i7, .int .i64 i8, .int .i64 i9, .int .i64 i10, .int .i64 i11, .slice ao0 L0.length ac0, .slice ao1 L1.length ac1, .int .i64 i12] 32)).cell? ⟨w.heap.size, 12, none⟩ = some (.slice ao0 L0.length ac0) := by go_cell
    have a13_1 : (w.alloc (.cells #[.int .i64 2, .int .i64 i1, .int .i64 i2, .int .i64 i3, .int .i64 i4, .int .i64 i5, .int .i64 i6, .int .i64 i7, .int .i64 i8, .int .i64 i9, .int .i64 i10, .int .i64 i11, .slice ao0 L0.length ac0, .slice ao1 L1.length ac1, .int .i64 i12] 32)).cell? ⟨w.heap.size, 13, none⟩ = some (.slice ao1 L1.length ac1) := by go_cell
    have a14_1 : (w.alloc (.cells #[.int .i64 2, .int .i64 i1, .int .i64 i2, .int .i64 i3, .int .i64 i4, .int .i64 i5, .int .i64 i6, .int .i64 i7, .int .i64 i8, .int .i64 i9, .int .i64 i10, .int .i64 i11, .slice ao0 L0.length ac0, .slice ao1 L1.length ac1, .int .i64 i12] 32)).cell? ⟨w.heap.size, 14, none⟩ = some (.int .i64 i12) := by go_cell
    have al_1 : w.heap.size < (w.alloc (.cells #[.int .i64 2, .int .i64 i1, .int .i64 i2, .int .i64 i3, .int .i64 i4, .int .i64 i5, .int .i64 i6, .int .i64 i7, .int .i64 i8, .int .i64 i9, .int .i64 i10, .int .i64 i11, .slice ao0 L0.length ac0, .slice ao1 L1.length ac1, .int .i64 i12] 32)).heap.size := by first | (simp; done) | (simp; omega)
    have c1 : Below w.heap.size w (w.alloc (.cells #[.int .i64 2, .int .i64 i1, .int .i64 i2, .int .i64 i3, .int .i64 i4, .int .i64 i5, .int .i64 i6, .int .i64 i7, .int .i64 i8, .int .i64 i9, .int .i64 i10, .int .i64 i11, .slice ao0 L0.length ac0, .slice ao1 L1.length ac1, .int .i64 i12] 32)) := by go_grown
    have s1 : (w.alloc (.cells #[.int .i64 2, .int .i64 i1, .int .i64 i2, .int .i64 i3, .int .i64 i4, .int .i64 i5, .int .i64 i6, .int .i64 i7, .int .i64 i8, .int .i64 i9, .int .i64 i10, .int .i64 i11, .slice ao0 L0.length ac0, .slice ao1 L1.length ac1, .int .i64 i12] 32)).heap.size = w.heap.size + 1 := by simp
    generalize (w.alloc (.cells #[.int .i64 2, .int .i64 i1, .int .i64 i2, .int .i64 i3, .int .i64 i4, .int .i64 i5, .int .i64 i6, .int .i64 i7, .int .i64 i8, .int .i64 i9, .int .i64 i10, .int .i64 i11, .slice ao0 L0.length ac0, .slice ao1 L1.length ac1, .int .i64 i12] 32)) = w1 at a0_1 a1_1 a2_1 a3_1 a4_1 a5_1 a6_1 a7_1 a8_1 a9_1 a10_1 a11_1 a12_1 a13_1 a14_1 al_1 c1 s1 ⊢
    have qa0_1 := cell_regrown a0_1
    have qa1_1 := cell_regrown a1_1
    have qa2_1 := cell_regrown a2_1
    have qa3_1 := cell_regrown a3_1
    have qa4_1 := cell_regrown a4_1
    have qa5_1 := cell_regrown a5_1
    have qa6_1 := cell_regrown a6_1
    have qa7_1 := cell_regrown a7_1
    have qa8_1 := cell_regrown a8_1
    have qa9_1 := cell_regrown a9_1
    have qa10_1 := cell_regrown a10_1
    have qa11_1 := cell_regrown a11_1
    have qa12_1 := cell_regrown a12_1
    have qa13_1 := cell_regrown a13_1
    have qa14_1 := cell_regrown a14_1
    have HIT := fun W h => itemRight_any i9 i10 i11 (.slice ao0 L0.length ac0) L0 W h
    cases hI : itR i9 i10 i11 L0 with
    | false =>
      rw [hI] at HIT
      first | go_region_with (first | (go_at_call 100; refine (HIT _ (HA.out.h0.later (c1.drew))).mono ?_; rintro e wi ⟨rfl, bi⟩; have di : Below w1.heap.size w1 wi := (Below.trans (by go_grown) (bi.mono (by first | omega | (simp; done) | (simp; omega)))); have ci : Below w.heap.size w wi := c1.trans (di.mono c1.size); have y2 : wi.cell? ⟨w.heap.size, 2, none⟩ = some (.int .i64 i2) := (by rw [bi.cell (by first | omega | (simp; done) | (simp; omega))]; go_cell); have y9 : wi.cell? ⟨w.heap.size, 9, none⟩ = some (.int .i64 i9) := (by rw [bi.cell (by first | omega | (simp; done) | (simp; omega))]; go_cell)) | (go_at_call 65; refine (need_no _ (HE.out.later ci)).mono ?_; rintro e wz ⟨⟨t, v, rfl⟩, rfl⟩; refine (fun (_ : wpAny Tryz.prog (default : Region.Mode) #[] (fun _ _ _ => True) 0 #[] ({ tmps := #[], defers := [] } : Act) w) => ?_) ?_; · exact ⟨rfl, Or.inr ⟨(by first | (simp [toldM]; done) | (simp_all [toldM]; done) | (simp [toldM]; omega) | (simp_all [toldM]; omega)), t, v, rfl⟩, ci⟩)) | fail
      all_goals trivial
    | true =>
      rw [hI] at HIT
      by_cases hp : partOf i9 = i2
      · have hb : (partOf i9 == i2) = true := by simpa using hp
        first | go_region_with (first | (go_at_call 100; refine (HIT _ (HA.out.h0.later (c1.drew))).mono ?_; rintro e wi ⟨rfl, bi⟩; have di : Below w1.heap.size w1 wi := (Below.trans (by go_grown) (bi.mono (by first | omega | (simp; done) | (simp; omega)))); have ci : Below w.heap.size w wi := c1.trans (di.mono c1.size); have y2 : wi.cell? ⟨w.heap.size, 2, none⟩ = some (.int .i64 i2) := (by rw [bi.cell (by first | omega | (simp; done) | (simp; omega))]; go_cell); have y9 : wi.cell? ⟨w.heap.size, 9, none⟩ = some (.int .i64 i9) := (by rw [bi.cell (by first | omega | (simp; done) | (simp; omega))]; go_cell)) | (go_at_call 101; refine (implShard_any i9 _).mono ?_; rintro e wk ⟨rfl, rfl⟩) | (go_at_call 65; refine (need_yes _).mono ?_; rintro e wz ⟨rfl, hz⟩; obtain rfl := hz.symm; clear hz)) | fail
        all_goals
          go_wp2_with fail
          exact ⟨rfl, .tuple #[], by simp [results, Tryz.results74, go_sem], Or.inl ⟨(by first | (simp [toldM]; done) | (simp_all [toldM]; done) | (simp [toldM]; omega) | (simp_all [toldM]; omega)), rfl⟩, ci⟩
      · have hb : (partOf i9 == i2) = false := by simpa using hp
        first | go_region_with (first | (go_at_call 100; refine (HIT _ (HA.out.h0.later (c1.drew))).mono ?_; rintro e wi ⟨rfl, bi⟩; have di : Below w1.heap.size w1 wi := (Below.trans (by go_grown) (bi.mono (by first | omega | (simp; done) | (simp; omega)))); have ci : Below w.heap.size w wi := c1.trans (di.mono c1.size); have y2 : wi.cell? ⟨w.heap.size, 2, none⟩ = some (.int .i64 i2) := (by rw [bi.cell (by first | omega | (simp; done) | (simp; omega))]; go_cell); have y9 : wi.cell? ⟨w.heap.size, 9, none⟩ = some (.int .i64 i9) := (by rw [bi.cell (by first | omega | (simp; done) | (simp; omega))]; go_cell)) | (go_at_call 101; refine (implShard_any i9 _).mono ?_; rintro e wk ⟨rfl, rfl⟩) | (go_at_call 65; refine (need_no _ (HE.out.later ci)).mono ?_; rintro e wz ⟨⟨t, v, rfl⟩, rfl⟩; refine (fun (_ : wpAny Tryz.prog (default : Region.Mode) #[] (fun _ _ _ => True) 0 #[] ({ tmps := #[], defers := [] } : Act) w) => ?_) ?_; · exact ⟨rfl, Or.inr ⟨(by first | (simp [toldM]; done) | (simp_all [toldM]; done) | (simp [toldM]; omega) | (simp_all [toldM]; omega)), t, v, rfl⟩, ci⟩)) | fail
        all_goals trivial
  by_cases h3 : i0 = 3
  case pos =>
    subst h3
    go_enter Tryz.func74, Tryz.ntmps74
    go_wp2_with fail
    have a0_1 : (w.alloc (.cells #[.int .i64 3, .int .i64 i1, .int .i64 i2, .int .i64 i3, .int .i64 i4, .int .i64 i5, .int .i64 i6, .int .i64 i7, .int .i64 i8, .int .i64 i9, .int .i64 i10, .int .i64 i11, .slice ao0 L0.length ac0, .slice ao1 L1.length ac1, .int .i64 i12] 32)).cell? ⟨w.heap.size, 0, none⟩ = some (.int .i64 3) := by go_cell
    have a1_1 : (w.alloc (.cells #[.int .i64 3, .int .i64 i1, .int .i64 i2, .int .i64 i3, .int .i64 i4, .int .i64 i5, .int .i64 i6, .int .i64 i7, .int .i64 i8, .int .i64 i9, .int .i64 i10, .int .i64 i11, .slice ao0 L0.length ac0, .slice ao1 L1.length ac1, .int .i64 i12] 32)).cell? ⟨w.heap.size, 1, none⟩ = some (.int .i64 i1) := by go_cell
    have a2_1 : (w.alloc (.cells #[.int .i64 3, .int .i64 i1, .int .i64 i2, .int .i64 i3, .int .i64 i4, .int .i64 i5, .int .i64 i6, .int .i64 i7, .int .i64 i8, .int .i64 i9, .int .i64 i10, .int .i64 i11, .slice ao0 L0.length ac0, .slice ao1 L1.length ac1, .int .i64 i12] 32)).cell? ⟨w.heap.size, 2, none⟩ = some (.int .i64 i2) := by go_cell
    have a3_1 : (w.alloc (.cells #[.int .i64 3, .int .i64 i1, .int .i64 i2, .int .i64 i3, .int .i64 i4, .int .i64 i5, .int .i64 i6, .int .i64 i7, .int .i64 i8, .int .i64 i9, .int .i64 i10, .int .i64 i11, .slice ao0 L0.length ac0, .slice ao1 L1.length ac1, .int .i64 i12] 32)).cell? ⟨w.heap.size, 3, none⟩ = some (.int .i64 i3) := by go_cell
    have a4_1 : (w.alloc (.cells #[.int .i64 3, .int .i64 i1, .int .i64 i2, .int .i64 i3, .int .i64 i4, .int .i64 i5, .int .i64 i6, .int .i64 i7, .int .i64 i8, .int .i64 i9, .int .i64 i10, .int .i64 i11, .slice ao0 L0.length ac0, .slice ao1 L1.length ac1, .int .i64 i12] 32)).cell? ⟨w.heap.size, 4, none⟩ = some (.int .i64 i4) := by go_cell
    have a5_1 : (w.alloc (.cells #[.int .i64 3, .int .i64 i1, .int .i64 i2, .int .i64 i3, .int .i64 i4, .int .i64 i5, .int .i64 i6, .int .i64 i7, .int .i64 i8, .int .i64 i9, .int .i64 i10, .int .i64 i11, .slice ao0 L0.length ac0, .slice ao1 L1.length ac1, .int .i64 i12] 32)).cell? ⟨w.heap.size, 5, none⟩ = some (.int .i64 i5) := by go_cell
    have a6_1 : (w.alloc (.cells #[.int .i64 3, .int .i64 i1, .int .i64 i2, .int .i64 i3, .int .i64 i4, .int .i64 i5, .int .i64 i6, .int .i64 i7, .int .i64 i8, .int .i64 i9, .int .i64 i10, .int .i64 i11, .slice ao0 L0.length ac0, .slice ao1 L1.length ac1, .int .i64 i12] 32)).cell? ⟨w.heap.size, 6, none⟩ = some (.int .i64 i6) := by go_cell
    have a7_1 : (w.alloc (.cells #[.int .i64 3, .int .i64 i1, .int .i64 i2, .int .i64 i3, .int .i64 i4, .int .i64 i5, .int .i64 i6, .int .i64 i7, .int .i64 i8, .int .i64 i9, .int .i64 i10, .int .i64 i11, .slice ao0 L0.length ac0, .slice ao1 L1.length ac1, .int .i64 i12] 32)).cell? ⟨w.heap.size, 7, none⟩ = some (.int .i64 i7) := by go_cell
    have a8_1 : (w.alloc (.cells #[.int .i64 3, .int .i64 i1, .int .i64 i2, .int .i64 i3, .int .i64 i4, .int .i64 i5, .int .i64 i6, .int .i64 i7, .int .i64 i8, .int .i64 i9, .int .i64 i10, .int .i64 i11, .slice ao0 L0.length ac0, .slice ao1 L1.length ac1, .int .i64 i12] 32)).cell? ⟨w.heap.size, 8, none⟩ = some (.int .i64 i8) := by go_cell
    have a9_1 : (w.alloc (.cells #[.int .i64 3, .int .i64 i1, .int .i64 i2, .int .i64 i3, .int .i64 i4, .int .i64 i5, .int .i64 i6, .int .i64 i7, .int .i64 i8, .int .i64 i9, .int .i64 i10, .int .i64 i11, .slice ao0 L0.length ac0, .slice ao1 L1.length ac1, .int .i64 i12] 32)).cell? ⟨w.heap.size, 9, none⟩ = some (.int .i64 i9) := by go_cell
    have a10_1 : (w.alloc (.cells #[.int .i64 3, .int .i64 i1, .int .i64 i2, .int .i64 i3, .int .i64 i4, .int .i64 i5, .int .i64 i6, .int .i64 i7, .int .i64 i8, .int .i64 i9, .int .i64 i10, .int .i64 i11, .slice ao0 L0.length ac0, .slice ao1 L1.length ac1, .int .i64 i12] 32)).cell? ⟨w.heap.size, 10, none⟩ = some (.int .i64 i10) := by go_cell
    have a11_1 : (w.alloc (.cells #[.int .i64 3, .int .i64 i1, .int .i64 i2, .int .i64 i3, .int .i64 i4, .int .i64 i5, .int .i64 i6, .int .i64 i7, .int .i64 i8, .int .i64 i9, .int .i64 i10, .int .i64 i11, .slice ao0 L0.length ac0, .slice ao1 L1.length ac1, .int .i64 i12] 32)).cell? ⟨w.heap.size, 11, none⟩ = some (.int .i64 i11) := by go_cell
    have a12_1 : (w.alloc (.cells #[.int .i64 3, .int .i64 i1, .int .i64 i2, .int .i64 i3, .int .i64 i4, .int .i64 i5, .int .i64 i6, .int .i64 i7, .int .i64 i8, .int .i64 i9, .int .i64 i10, .int .i64 i11, .slice ao0 L0.length ac0, .slice ao1 L1.length ac1, .int .i64 i12] 32)).cell? ⟨w.heap.size, 12, none⟩ = some (.slice ao0 L0.length ac0) := by go_cell
    have a13_1 : (w.alloc (.cells #[.int .i64 3, .int .i64 i1, .int .i64 i2, .int .i64 i3, .int .i64 i4, .int .i64 i5, .int .i64 i6, .int .i64 i7, .int .i64 i8, .int .i64 i9, .int .i64 i10, .int .i64 i11, .slice ao0 L0.length ac0, .slice ao1 L1.length ac1, .int .i64 i12] 32)).cell? ⟨w.heap.size, 13, none⟩ = some (.slice ao1 L1.length ac1) := by go_cell
    have a14_1 : (w.alloc (.cells #[.int .i64 3, .int .i64 i1, .int .i64 i2, .int .i64 i3, .int .i64 i4, .int .i64 i5, .int .i64 i6, .int .i64 i7, .int .i64 i8, .int .i64 i9, .int .i64 i10, .int .i64 i11, .slice ao0 L0.length ac0, .slice ao1 L1.length ac1, .int .i64 i12] 32)).cell? ⟨w.heap.size, 14, none⟩ = some (.int .i64 i12) := by go_cell
    have al_1 : w.heap.size < (w.alloc (.cells #[.int .i64 3, .int .i64 i1, .int .i64 i2, .int .i64 i3, .int .i64 i4, .int .i64 i5, .int .i64 i6, .int .i64 i7, .int .i64 i8, .int .i64 i9, .int .i64 i10, .int .i64 i11, .slice ao0 L0.length ac0, .slice ao1 L1.length ac1, .int .i64 i12] 32)).heap.size := by first | (simp; done) | (simp; omega)
    have c1 : Below w.heap.size w (w.alloc (.cells #[.int .i64 3, .int .i64 i1, .int .i64 i2, .int .i64 i3, .int .i64 i4, .int .i64 i5, .int .i64 i6, .int .i64 i7, .int .i64 i8, .int .i64 i9, .int .i64 i10, .int .i64 i11, .slice ao0 L0.length ac0, .slice ao1 L1.length ac1, .int .i64 i12] 32)) := by go_grown
    have s1 : (w.alloc (.cells #[.int .i64 3, .int .i64 i1, .int .i64 i2, .int .i64 i3, .int .i64 i4, .int .i64 i5, .int .i64 i6, .int .i64 i7, .int .i64 i8, .int .i64 i9, .int .i64 i10, .int .i64 i11, .slice ao0 L0.length ac0, .slice ao1 L1.length ac1, .int .i64 i12] 32)).heap.size = w.heap.size + 1 := by simp
    generalize (w.alloc (.cells #[.int .i64 3, .int .i64 i1, .int .i64 i2, .int .i64 i3, .int .i64 i4, .int .i64 i5, .int .i64 i6, .int .i64 i7, .int .i64 i8, .int .i64 i9, .int .i64 i10, .int .i64 i11, .slice ao0 L0.length ac0, .slice ao1 L1.length ac1, .int .i64 i12] 32)) = w1 at a0_1 a1_1 a2_1 a3_1 a4_1 a5_1 a6_1 a7_1 a8_1 a9_1 a10_1 a11_1 a12_1 a13_1 a14_1 al_1 c1 s1 ⊢
    have qa0_1 := cell_regrown a0_1
    have qa1_1 := cell_regrown a1_1
    have qa2_1 := cell_regrown a2_1
    have qa3_1 := cell_regrown a3_1
    have qa4_1 := cell_regrown a4_1
    have qa5_1 := cell_regrown a5_1
    have qa6_1 := cell_regrown a6_1
    have qa7_1 := cell_regrown a7_1
    have qa8_1 := cell_regrown a8_1
    have qa9_1 := cell_regrown a9_1
    have qa10_1 := cell_regrown a10_1
    have qa11_1 := cell_regrown a11_1
    have qa12_1 := cell_regrown a12_1
    have qa13_1 := cell_regrown a13_1
    have qa14_1 := cell_regrown a14_1
    by_cases hp : partOf (opKey i5 i6 i7 i8) = i2
    · have hb : (partOf (opKey i5 i6 i7 i8) == i2) = true := by simpa using hp
      first | go_region_with (first | (go_at_call 102; refine (implOpKey_any i5 i6 i7 i8 _).mono ?_; rintro e wi ⟨rfl, bi⟩; have di : Below w1.heap.size w1 wi := (Below.trans (by go_grown) (bi.mono (by first | omega | (simp; done) | (simp; omega)))); have ci : Below w.heap.size w wi := c1.trans (di.mono c1.size); have y2 : wi.cell? ⟨w.heap.size, 2, none⟩ = some (.int .i64 i2) := (by rw [bi.cell (by first | omega | (simp; done) | (simp; omega))]; go_cell); have y9 : wi.cell? ⟨w.heap.size, 9, none⟩ = some (.int .i64 i9) := (by rw [bi.cell (by first | omega | (simp; done) | (simp; omega))]; go_cell)) | (go_at_call 101; refine (implShard_any _ _).mono ?_; rintro e wk ⟨rfl, rfl⟩) | (go_at_call 65; refine (need_yes _).mono ?_; rintro e wz ⟨rfl, hz⟩; obtain rfl := hz.symm; clear hz)) | fail
      all_goals
        go_wp2_with fail
        exact ⟨rfl, .tuple #[], by simp [results, Tryz.results74, go_sem], Or.inl ⟨(by first | (simp [toldM]; done) | (simp_all [toldM]; done) | (simp [toldM]; omega) | (simp_all [toldM]; omega)), rfl⟩, ci⟩
    · have hb : (partOf (opKey i5 i6 i7 i8) == i2) = false := by simpa using hp
      first | go_region_with (first | (go_at_call 102; refine (implOpKey_any i5 i6 i7 i8 _).mono ?_; rintro e wi ⟨rfl, bi⟩; have di : Below w1.heap.size w1 wi := (Below.trans (by go_grown) (bi.mono (by first | omega | (simp; done) | (simp; omega)))); have ci : Below w.heap.size w wi := c1.trans (di.mono c1.size); have y2 : wi.cell? ⟨w.heap.size, 2, none⟩ = some (.int .i64 i2) := (by rw [bi.cell (by first | omega | (simp; done) | (simp; omega))]; go_cell); have y9 : wi.cell? ⟨w.heap.size, 9, none⟩ = some (.int .i64 i9) := (by rw [bi.cell (by first | omega | (simp; done) | (simp; omega))]; go_cell)) | (go_at_call 101; refine (implShard_any _ _).mono ?_; rintro e wk ⟨rfl, rfl⟩) | (go_at_call 65; refine (need_no _ (HE.out.later ci)).mono ?_; rintro e wz ⟨⟨t, v, rfl⟩, rfl⟩; refine (fun (_ : wpAny Tryz.prog (default : Region.Mode) #[] (fun _ _ _ => True) 0 #[] ({ tmps := #[], defers := [] } : Act) w) => ?_) ?_; · exact ⟨rfl, Or.inr ⟨(by first | (simp [toldM]; done) | (simp_all [toldM]; done) | (simp [toldM]; omega) | (simp_all [toldM]; omega)), t, v, rfl⟩, ci⟩)) | fail
      all_goals trivial
  by_cases h4 : i0 = 4
  case pos =>
    subst h4
    by_cases h0 : 0 ≤ i12
    · have hn0 : decide (0 ≤ i12) = true := by simpa using h0
      by_cases h1 : i12 ≤ 5
      · have hn1 : decide (i12 ≤ 5) = true := by simpa using h1
        go_enter Tryz.func74, Tryz.ntmps74
        go_wp2_with fail
        have a0_1 : (w.alloc (.cells #[.int .i64 4, .int .i64 i1, .int .i64 i2, .int .i64 i3, .int .i64 i4, .int .i64 i5, .int .i64 i6, .int .i64 i7, .int .i64 i8, .int .i64 i9, .int .i64 i10, .int .i64 i11, .slice ao0 L0.length ac0, .slice ao1 L1.length ac1, .int .i64 i12] 32)).cell? ⟨w.heap.size, 0, none⟩ = some (.int .i64 4) := by go_cell
        have a1_1 : (w.alloc (.cells #[.int .i64 4, .int .i64 i1, .int .i64 i2, .int .i64 i3, .int .i64 i4, .int .i64 i5, .int .i64 i6, .int .i64 i7, .int .i64 i8, .int .i64 i9, .int .i64 i10, .int .i64 i11, .slice ao0 L0.length ac0, .slice ao1 L1.length ac1, .int .i64 i12] 32)).cell? ⟨w.heap.size, 1, none⟩ = some (.int .i64 i1) := by go_cell
        have a2_1 : (w.alloc (.cells #[.int .i64 4, .int .i64 i1, .int .i64 i2, .int .i64 i3, .int .i64 i4, .int .i64 i5, .int .i64 i6, .int .i64 i7, .int .i64 i8, .int .i64 i9, .int .i64 i10, .int .i64 i11, .slice ao0 L0.length ac0, .slice ao1 L1.length ac1, .int .i64 i12] 32)).cell? ⟨w.heap.size, 2, none⟩ = some (.int .i64 i2) := by go_cell
        have a3_1 : (w.alloc (.cells #[.int .i64 4, .int .i64 i1, .int .i64 i2, .int .i64 i3, .int .i64 i4, .int .i64 i5, .int .i64 i6, .int .i64 i7, .int .i64 i8, .int .i64 i9, .int .i64 i10, .int .i64 i11, .slice ao0 L0.length ac0, .slice ao1 L1.length ac1, .int .i64 i12] 32)).cell? ⟨w.heap.size, 3, none⟩ = some (.int .i64 i3) := by go_cell
        have a4_1 : (w.alloc (.cells #[.int .i64 4, .int .i64 i1, .int .i64 i2, .int .i64 i3, .int .i64 i4, .int .i64 i5, .int .i64 i6, .int .i64 i7, .int .i64 i8, .int .i64 i9, .int .i64 i10, .int .i64 i11, .slice ao0 L0.length ac0, .slice ao1 L1.length ac1, .int .i64 i12] 32)).cell? ⟨w.heap.size, 4, none⟩ = some (.int .i64 i4) := by go_cell
        have a5_1 : (w.alloc (.cells #[.int .i64 4, .int .i64 i1, .int .i64 i2, .int .i64 i3, .int .i64 i4, .int .i64 i5, .int .i64 i6, .int .i64 i7, .int .i64 i8, .int .i64 i9, .int .i64 i10, .int .i64 i11, .slice ao0 L0.length ac0, .slice ao1 L1.length ac1, .int .i64 i12] 32)).cell? ⟨w.heap.size, 5, none⟩ = some (.int .i64 i5) := by go_cell
        have a6_1 : (w.alloc (.cells #[.int .i64 4, .int .i64 i1, .int .i64 i2, .int .i64 i3, .int .i64 i4, .int .i64 i5, .int .i64 i6, .int .i64 i7, .int .i64 i8, .int .i64 i9, .int .i64 i10, .int .i64 i11, .slice ao0 L0.length ac0, .slice ao1 L1.length ac1, .int .i64 i12] 32)).cell? ⟨w.heap.size, 6, none⟩ = some (.int .i64 i6) := by go_cell
        have a7_1 : (w.alloc (.cells #[.int .i64 4, .int .i64 i1, .int .i64 i2, .int .i64 i3, .int .i64 i4, .int .i64 i5, .int .i64 i6, .int .i64 i7, .int .i64 i8, .int .i64 i9, .int .i64 i10, .int .i64 i11, .slice ao0 L0.length ac0, .slice ao1 L1.length ac1, .int .i64 i12] 32)).cell? ⟨w.heap.size, 7, none⟩ = some (.int .i64 i7) := by go_cell
        have a8_1 : (w.alloc (.cells #[.int .i64 4, .int .i64 i1, .int .i64 i2, .int .i64 i3, .int .i64 i4, .int .i64 i5, .int .i64 i6, .int .i64 i7, .int .i64 i8, .int .i64 i9, .int .i64 i10, .int .i64 i11, .slice ao0 L0.length ac0, .slice ao1 L1.length ac1, .int .i64 i12] 32)).cell? ⟨w.heap.size, 8, none⟩ = some (.int .i64 i8) := by go_cell
        have a9_1 : (w.alloc (.cells #[.int .i64 4, .int .i64 i1, .int .i64 i2, .int .i64 i3, .int .i64 i4, .int .i64 i5, .int .i64 i6, .int .i64 i7, .int .i64 i8, .int .i64 i9, .int .i64 i10, .int .i64 i11, .slice ao0 L0.length ac0, .slice ao1 L1.length ac1, .int .i64 i12] 32)).cell? ⟨w.heap.size, 9, none⟩ = some (.int .i64 i9) := by go_cell
        have a10_1 : (w.alloc (.cells #[.int .i64 4, .int .i64 i1, .int .i64 i2, .int .i64 i3, .int .i64 i4, .int .i64 i5, .int .i64 i6, .int .i64 i7, .int .i64 i8, .int .i64 i9, .int .i64 i10, .int .i64 i11, .slice ao0 L0.length ac0, .slice ao1 L1.length ac1, .int .i64 i12] 32)).cell? ⟨w.heap.size, 10, none⟩ = some (.int .i64 i10) := by go_cell
        have a11_1 : (w.alloc (.cells #[.int .i64 4, .int .i64 i1, .int .i64 i2, .int .i64 i3, .int .i64 i4, .int .i64 i5, .int .i64 i6, .int .i64 i7, .int .i64 i8, .int .i64 i9, .int .i64 i10, .int .i64 i11, .slice ao0 L0.length ac0, .slice ao1 L1.length ac1, .int .i64 i12] 32)).cell? ⟨w.heap.size, 11, none⟩ = some (.int .i64 i11) := by go_cell
        have a12_1 : (w.alloc (.cells #[.int .i64 4, .int .i64 i1, .int .i64 i2, .int .i64 i3, .int .i64 i4, .int .i64 i5, .int .i64 i6, .int .i64 i7, .int .i64 i8, .int .i64 i9, .int .i64 i10, .int .i64 i11, .slice ao0 L0.length ac0, .slice ao1 L1.length ac1, .int .i64 i12] 32)).cell? ⟨w.heap.size, 12, none⟩ = some (.slice ao0 L0.length ac0) := by go_cell
        have a13_1 : (w.alloc (.cells #[.int .i64 4, .int .i64 i1, .int .i64 i2, .int .i64 i3, .int .i64 i4, .int .i64 i5, .int .i64 i6, .int .i64 i7, .int .i64 i8, .int .i64 i9, .int .i64 i10, .int .i64 i11, .slice ao0 L0.length ac0, .slice ao1 L1.length ac1, .int .i64 i12] 32)).cell? ⟨w.heap.size, 13, none⟩ = some (.slice ao1 L1.length ac1) := by go_cell
        have a14_1 : (w.alloc (.cells #[.int .i64 4, .int .i64 i1, .int .i64 i2, .int .i64 i3, .int .i64 i4, .int .i64 i5, .int .i64 i6, .int .i64 i7, .int .i64 i8, .int .i64 i9, .int .i64 i10, .int .i64 i11, .slice ao0 L0.length ac0, .slice ao1 L1.length ac1, .int .i64 i12] 32)).cell? ⟨w.heap.size, 14, none⟩ = some (.int .i64 i12) := by go_cell
        have al_1 : w.heap.size < (w.alloc (.cells #[.int .i64 4, .int .i64 i1, .int .i64 i2, .int .i64 i3, .int .i64 i4, .int .i64 i5, .int .i64 i6, .int .i64 i7, .int .i64 i8, .int .i64 i9, .int .i64 i10, .int .i64 i11, .slice ao0 L0.length ac0, .slice ao1 L1.length ac1, .int .i64 i12] 32)).heap.size := by first | (simp; done) | (simp; omega)
        have c1 : Below w.heap.size w (w.alloc (.cells #[.int .i64 4, .int .i64 i1, .int .i64 i2, .int .i64 i3, .int .i64 i4, .int .i64 i5, .int .i64 i6, .int .i64 i7, .int .i64 i8, .int .i64 i9, .int .i64 i10, .int .i64 i11, .slice ao0 L0.length ac0, .slice ao1 L1.length ac1, .int .i64 i12] 32)) := by go_grown
        have s1 : (w.alloc (.cells #[.int .i64 4, .int .i64 i1, .int .i64 i2, .int .i64 i3, .int .i64 i4, .int .i64 i5, .int .i64 i6, .int .i64 i7, .int .i64 i8, .int .i64 i9, .int .i64 i10, .int .i64 i11, .slice ao0 L0.length ac0, .slice ao1 L1.length ac1, .int .i64 i12] 32)).heap.size = w.heap.size + 1 := by simp
        generalize (w.alloc (.cells #[.int .i64 4, .int .i64 i1, .int .i64 i2, .int .i64 i3, .int .i64 i4, .int .i64 i5, .int .i64 i6, .int .i64 i7, .int .i64 i8, .int .i64 i9, .int .i64 i10, .int .i64 i11, .slice ao0 L0.length ac0, .slice ao1 L1.length ac1, .int .i64 i12] 32)) = w1 at a0_1 a1_1 a2_1 a3_1 a4_1 a5_1 a6_1 a7_1 a8_1 a9_1 a10_1 a11_1 a12_1 a13_1 a14_1 al_1 c1 s1 ⊢
        have qa0_1 := cell_regrown a0_1
        have qa1_1 := cell_regrown a1_1
        have qa2_1 := cell_regrown a2_1
        have qa3_1 := cell_regrown a3_1
        have qa4_1 := cell_regrown a4_1
        have qa5_1 := cell_regrown a5_1
        have qa6_1 := cell_regrown a6_1
        have qa7_1 := cell_regrown a7_1
        have qa8_1 := cell_regrown a8_1
        have qa9_1 := cell_regrown a9_1
        have qa10_1 := cell_regrown a10_1
        have qa11_1 := cell_regrown a11_1
        have qa12_1 := cell_regrown a12_1
        have qa13_1 := cell_regrown a13_1
        have qa14_1 := cell_regrown a14_1
        refine (need_yes _).mono ?_
        rintro e wz ⟨rfl, hz⟩
        obtain rfl := hz.symm
        clear hz
        go_wp2_with fail
        have HIT := fun W h => itemRight_any i9 i10 i11 (.slice ao0 L0.length ac0) L0 W h
        cases hI : itR i9 i10 i11 L0 with
        | false =>
          rw [hI] at HIT
          first | go_region_with (first | (go_at_call 100; refine (HIT _ (HA.out.h0.later (c1.drew))).mono ?_; rintro e wi ⟨rfl, bi⟩; have di : Below w1.heap.size w1 wi := (Below.trans (by go_grown) (bi.mono (by first | omega | (simp; done) | (simp; omega)))); have ci : Below w.heap.size w wi := c1.trans (di.mono c1.size); have y2 : wi.cell? ⟨w.heap.size, 2, none⟩ = some (.int .i64 i2) := (by rw [bi.cell (by first | omega | (simp; done) | (simp; omega))]; go_cell); have y9 : wi.cell? ⟨w.heap.size, 9, none⟩ = some (.int .i64 i9) := (by rw [bi.cell (by first | omega | (simp; done) | (simp; omega))]; go_cell)) | (go_at_call 65; refine (need_no _ (HE.out.later ci)).mono ?_; rintro e wz ⟨⟨t, v, rfl⟩, rfl⟩; refine (fun (_ : wpAny Tryz.prog (default : Region.Mode) #[] (fun _ _ _ => True) 0 #[] ({ tmps := #[], defers := [] } : Act) w) => ?_) ?_; · exact ⟨rfl, Or.inr ⟨(by first | (simp [toldM]; done) | (simp_all [toldM]; done) | (simp [toldM]; omega) | (simp_all [toldM]; omega)), t, v, rfl⟩, ci⟩)) | fail
          all_goals trivial
        | true =>
          rw [hI] at HIT
          by_cases hp : partOf i9 = i2
          · have hb : (partOf i9 == i2) = true := by simpa using hp
            first | go_region_with (first | (go_at_call 100; refine (HIT _ (HA.out.h0.later (c1.drew))).mono ?_; rintro e wi ⟨rfl, bi⟩; have di : Below w1.heap.size w1 wi := (Below.trans (by go_grown) (bi.mono (by first | omega | (simp; done) | (simp; omega)))); have ci : Below w.heap.size w wi := c1.trans (di.mono c1.size); have y2 : wi.cell? ⟨w.heap.size, 2, none⟩ = some (.int .i64 i2) := (by rw [bi.cell (by first | omega | (simp; done) | (simp; omega))]; go_cell); have y9 : wi.cell? ⟨w.heap.size, 9, none⟩ = some (.int .i64 i9) := (by rw [bi.cell (by first | omega | (simp; done) | (simp; omega))]; go_cell)) | (go_at_call 101; refine (implShard_any i9 _).mono ?_; rintro e wk ⟨rfl, rfl⟩) | (go_at_call 65; refine (need_yes _).mono ?_; rintro e wz ⟨rfl, hz⟩; obtain rfl := hz.symm; clear hz)) | fail
            all_goals
              go_wp2_with fail
              exact ⟨rfl, .tuple #[], by simp [results, Tryz.results74, go_sem], Or.inl ⟨(by first | (simp [toldM]; done) | (simp_all [toldM]; done) | (simp [toldM]; omega) | (simp_all [toldM]; omega)), rfl⟩, ci⟩
          · have hb : (partOf i9 == i2) = false := by simpa using hp
            first | go_region_with (first | (go_at_call 100; refine (HIT _ (HA.out.h0.later (c1.drew))).mono ?_; rintro e wi ⟨rfl, bi⟩; have di : Below w1.heap.size w1 wi := (Below.trans (by go_grown) (bi.mono (by first | omega | (simp; done) | (simp; omega)))); have ci : Below w.heap.size w wi := c1.trans (di.mono c1.size); have y2 : wi.cell? ⟨w.heap.size, 2, none⟩ = some (.int .i64 i2) := (by rw [bi.cell (by first | omega | (simp; done) | (simp; omega))]; go_cell); have y9 : wi.cell? ⟨w.heap.size, 9, none⟩ = some (.int .i64 i9) := (by rw [bi.cell (by first | omega | (simp; done) | (simp; omega))]; go_cell)) | (go_at_call 101; refine (implShard_any i9 _).mono ?_; rintro e wk ⟨rfl, rfl⟩) | (go_at_call 65; refine (need_no _ (HE.out.later ci)).mono ?_; rintro e wz ⟨⟨t, v, rfl⟩, rfl⟩; refine (fun (_ : wpAny Tryz.prog (default : Region.Mode) #[] (fun _ _ _ => True) 0 #[] ({ tmps := #[], defers := [] } : Act) w) => ?_) ?_; · exact ⟨rfl, Or.inr ⟨(by first | (simp [toldM]; done) | (simp_all [toldM]; done) | (simp [toldM]; omega) | (simp_all [toldM]; omega)), t, v, rfl⟩, ci⟩)) | fail
            all_goals trivial
      · have hn : decide (i12 ≤ 5) = false := by simpa using h1
        go_enter Tryz.func74, Tryz.ntmps74
        go_wp2_with fail
        have a0_1 : (w.alloc (.cells #[.int .i64 4, .int .i64 i1, .int .i64 i2, .int .i64 i3, .int .i64 i4, .int .i64 i5, .int .i64 i6, .int .i64 i7, .int .i64 i8, .int .i64 i9, .int .i64 i10, .int .i64 i11, .slice ao0 L0.length ac0, .slice ao1 L1.length ac1, .int .i64 i12] 32)).cell? ⟨w.heap.size, 0, none⟩ = some (.int .i64 4) := by go_cell
        have a1_1 : (w.alloc (.cells #[.int .i64 4, .int .i64 i1, .int .i64 i2, .int .i64 i3, .int .i64 i4, .int .i64 i5, .int .i64 i6, .int .i64 i7, .int .i64 i8, .int .i64 i9, .int .i64 i10, .int .i64 i11, .slice ao0 L0.length ac0, .slice ao1 L1.length ac1, .int .i64 i12] 32)).cell? ⟨w.heap.size, 1, none⟩ = some (.int .i64 i1) := by go_cell
        have a2_1 : (w.alloc (.cells #[.int .i64 4, .int .i64 i1, .int .i64 i2, .int .i64 i3, .int .i64 i4, .int .i64 i5, .int .i64 i6, .int .i64 i7, .int .i64 i8, .int .i64 i9, .int .i64 i10, .int .i64 i11, .slice ao0 L0.length ac0, .slice ao1 L1.length ac1, .int .i64 i12] 32)).cell? ⟨w.heap.size, 2, none⟩ = some (.int .i64 i2) := by go_cell
        have a3_1 : (w.alloc (.cells #[.int .i64 4, .int .i64 i1, .int .i64 i2, .int .i64 i3, .int .i64 i4, .int .i64 i5, .int .i64 i6, .int .i64 i7, .int .i64 i8, .int .i64 i9, .int .i64 i10, .int .i64 i11, .slice ao0 L0.length ac0, .slice ao1 L1.length ac1, .int .i64 i12] 32)).cell? ⟨w.heap.size, 3, none⟩ = some (.int .i64 i3) := by go_cell
        have a4_1 : (w.alloc (.cells #[.int .i64 4, .int .i64 i1, .int .i64 i2, .int .i64 i3, .int .i64 i4, .int .i64 i5, .int .i64 i6, .int .i64 i7, .int .i64 i8, .int .i64 i9, .int .i64 i10, .int .i64 i11, .slice ao0 L0.length ac0, .slice ao1 L1.length ac1, .int .i64 i12] 32)).cell? ⟨w.heap.size, 4, none⟩ = some (.int .i64 i4) := by go_cell
        have a5_1 : (w.alloc (.cells #[.int .i64 4, .int .i64 i1, .int .i64 i2, .int .i64 i3, .int .i64 i4, .int .i64 i5, .int .i64 i6, .int .i64 i7, .int .i64 i8, .int .i64 i9, .int .i64 i10, .int .i64 i11, .slice ao0 L0.length ac0, .slice ao1 L1.length ac1, .int .i64 i12] 32)).cell? ⟨w.heap.size, 5, none⟩ = some (.int .i64 i5) := by go_cell
        have a6_1 : (w.alloc (.cells #[.int .i64 4, .int .i64 i1, .int .i64 i2, .int .i64 i3, .int .i64 i4, .int .i64 i5, .int .i64 i6, .int .i64 i7, .int .i64 i8, .int .i64 i9, .int .i64 i10, .int .i64 i11, .slice ao0 L0.length ac0, .slice ao1 L1.length ac1, .int .i64 i12] 32)).cell? ⟨w.heap.size, 6, none⟩ = some (.int .i64 i6) := by go_cell
        have a7_1 : (w.alloc (.cells #[.int .i64 4, .int .i64 i1, .int .i64 i2, .int .i64 i3, .int .i64 i4, .int .i64 i5, .int .i64 i6, .int .i64 i7, .int .i64 i8, .int .i64 i9, .int .i64 i10, .int .i64 i11, .slice ao0 L0.length ac0, .slice ao1 L1.length ac1, .int .i64 i12] 32)).cell? ⟨w.heap.size, 7, none⟩ = some (.int .i64 i7) := by go_cell
        have a8_1 : (w.alloc (.cells #[.int .i64 4, .int .i64 i1, .int .i64 i2, .int .i64 i3, .int .i64 i4, .int .i64 i5, .int .i64 i6, .int .i64 i7, .int .i64 i8, .int .i64 i9, .int .i64 i10, .int .i64 i11, .slice ao0 L0.length ac0, .slice ao1 L1.length ac1, .int .i64 i12] 32)).cell? ⟨w.heap.size, 8, none⟩ = some (.int .i64 i8) := by go_cell
        have a9_1 : (w.alloc (.cells #[.int .i64 4, .int .i64 i1, .int .i64 i2, .int .i64 i3, .int .i64 i4, .int .i64 i5, .int .i64 i6, .int .i64 i7, .int .i64 i8, .int .i64 i9, .int .i64 i10, .int .i64 i11, .slice ao0 L0.length ac0, .slice ao1 L1.length ac1, .int .i64 i12] 32)).cell? ⟨w.heap.size, 9, none⟩ = some (.int .i64 i9) := by go_cell
        have a10_1 : (w.alloc (.cells #[.int .i64 4, .int .i64 i1, .int .i64 i2, .int .i64 i3, .int .i64 i4, .int .i64 i5, .int .i64 i6, .int .i64 i7, .int .i64 i8, .int .i64 i9, .int .i64 i10, .int .i64 i11, .slice ao0 L0.length ac0, .slice ao1 L1.length ac1, .int .i64 i12] 32)).cell? ⟨w.heap.size, 10, none⟩ = some (.int .i64 i10) := by go_cell
        have a11_1 : (w.alloc (.cells #[.int .i64 4, .int .i64 i1, .int .i64 i2, .int .i64 i3, .int .i64 i4, .int .i64 i5, .int .i64 i6, .int .i64 i7, .int .i64 i8, .int .i64 i9, .int .i64 i10, .int .i64 i11, .slice ao0 L0.length ac0, .slice ao1 L1.length ac1, .int .i64 i12] 32)).cell? ⟨w.heap.size, 11, none⟩ = some (.int .i64 i11) := by go_cell
        have a12_1 : (w.alloc (.cells #[.int .i64 4, .int .i64 i1, .int .i64 i2, .int .i64 i3, .int .i64 i4, .int .i64 i5, .int .i64 i6, .int .i64 i7, .int .i64 i8, .int .i64 i9, .int .i64 i10, .int .i64 i11, .slice ao0 L0.length ac0, .slice ao1 L1.length ac1, .int .i64 i12] 32)).cell? ⟨w.heap.size, 12, none⟩ = some (.slice ao0 L0.length ac0) := by go_cell
        have a13_1 : (w.alloc (.cells #[.int .i64 4, .int .i64 i1, .int .i64 i2, .int .i64 i3, .int .i64 i4, .int .i64 i5, .int .i64 i6, .int .i64 i7, .int .i64 i8, .int .i64 i9, .int .i64 i10, .int .i64 i11, .slice ao0 L0.length ac0, .slice ao1 L1.length ac1, .int .i64 i12] 32)).cell? ⟨w.heap.size, 13, none⟩ = some (.slice ao1 L1.length ac1) := by go_cell
        have a14_1 : (w.alloc (.cells #[.int .i64 4, .int .i64 i1, .int .i64 i2, .int .i64 i3, .int .i64 i4, .int .i64 i5, .int .i64 i6, .int .i64 i7, .int .i64 i8, .int .i64 i9, .int .i64 i10, .int .i64 i11, .slice ao0 L0.length ac0, .slice ao1 L1.length ac1, .int .i64 i12] 32)).cell? ⟨w.heap.size, 14, none⟩ = some (.int .i64 i12) := by go_cell
        have al_1 : w.heap.size < (w.alloc (.cells #[.int .i64 4, .int .i64 i1, .int .i64 i2, .int .i64 i3, .int .i64 i4, .int .i64 i5, .int .i64 i6, .int .i64 i7, .int .i64 i8, .int .i64 i9, .int .i64 i10, .int .i64 i11, .slice ao0 L0.length ac0, .slice ao1 L1.length ac1, .int .i64 i12] 32)).heap.size := by first | (simp; done) | (simp; omega)
        have c1 : Below w.heap.size w (w.alloc (.cells #[.int .i64 4, .int .i64 i1, .int .i64 i2, .int .i64 i3, .int .i64 i4, .int .i64 i5, .int .i64 i6, .int .i64 i7, .int .i64 i8, .int .i64 i9, .int .i64 i10, .int .i64 i11, .slice ao0 L0.length ac0, .slice ao1 L1.length ac1, .int .i64 i12] 32)) := by go_grown
        have s1 : (w.alloc (.cells #[.int .i64 4, .int .i64 i1, .int .i64 i2, .int .i64 i3, .int .i64 i4, .int .i64 i5, .int .i64 i6, .int .i64 i7, .int .i64 i8, .int .i64 i9, .int .i64 i10, .int .i64 i11, .slice ao0 L0.length ac0, .slice ao1 L1.length ac1, .int .i64 i12] 32)).heap.size = w.heap.size + 1 := by simp
        generalize (w.alloc (.cells #[.int .i64 4, .int .i64 i1, .int .i64 i2, .int .i64 i3, .int .i64 i4, .int .i64 i5, .int .i64 i6, .int .i64 i7, .int .i64 i8, .int .i64 i9, .int .i64 i10, .int .i64 i11, .slice ao0 L0.length ac0, .slice ao1 L1.length ac1, .int .i64 i12] 32)) = w1 at a0_1 a1_1 a2_1 a3_1 a4_1 a5_1 a6_1 a7_1 a8_1 a9_1 a10_1 a11_1 a12_1 a13_1 a14_1 al_1 c1 s1 ⊢
        have qa0_1 := cell_regrown a0_1
        have qa1_1 := cell_regrown a1_1
        have qa2_1 := cell_regrown a2_1
        have qa3_1 := cell_regrown a3_1
        have qa4_1 := cell_regrown a4_1
        have qa5_1 := cell_regrown a5_1
        have qa6_1 := cell_regrown a6_1
        have qa7_1 := cell_regrown a7_1
        have qa8_1 := cell_regrown a8_1
        have qa9_1 := cell_regrown a9_1
        have qa10_1 := cell_regrown a10_1
        have qa11_1 := cell_regrown a11_1
        have qa12_1 := cell_regrown a12_1
        have qa13_1 := cell_regrown a13_1
        have qa14_1 := cell_regrown a14_1
        refine (need_no _ (HE.out.later c1)).mono ?_
        rintro e wz ⟨⟨t, v, rfl⟩, rfl⟩
        exact ⟨rfl, Or.inr ⟨(by first | (simp [toldM]; done) | (simp_all [toldM]; done) | (simp [toldM]; omega) | (simp_all [toldM]; omega)), t, v, rfl⟩, c1⟩
    · have hn : decide (0 ≤ i12) = false := by simpa using h0
      go_enter Tryz.func74, Tryz.ntmps74
      go_wp2_with fail
      have a0_1 : (w.alloc (.cells #[.int .i64 4, .int .i64 i1, .int .i64 i2, .int .i64 i3, .int .i64 i4, .int .i64 i5, .int .i64 i6, .int .i64 i7, .int .i64 i8, .int .i64 i9, .int .i64 i10, .int .i64 i11, .slice ao0 L0.length ac0, .slice ao1 L1.length ac1, .int .i64 i12] 32)).cell? ⟨w.heap.size, 0, none⟩ = some (.int .i64 4) := by go_cell
      have a1_1 : (w.alloc (.cells #[.int .i64 4, .int .i64 i1, .int .i64 i2, .int .i64 i3, .int .i64 i4, .int .i64 i5, .int .i64 i6, .int .i64 i7, .int .i64 i8, .int .i64 i9, .int .i64 i10, .int .i64 i11, .slice ao0 L0.length ac0, .slice ao1 L1.length ac1, .int .i64 i12] 32)).cell? ⟨w.heap.size, 1, none⟩ = some (.int .i64 i1) := by go_cell
      have a2_1 : (w.alloc (.cells #[.int .i64 4, .int .i64 i1, .int .i64 i2, .int .i64 i3, .int .i64 i4, .int .i64 i5, .int .i64 i6, .int .i64 i7, .int .i64 i8, .int .i64 i9, .int .i64 i10, .int .i64 i11, .slice ao0 L0.length ac0, .slice ao1 L1.length ac1, .int .i64 i12] 32)).cell? ⟨w.heap.size, 2, none⟩ = some (.int .i64 i2) := by go_cell
      have a3_1 : (w.alloc (.cells #[.int .i64 4, .int .i64 i1, .int .i64 i2, .int .i64 i3, .int .i64 i4, .int .i64 i5, .int .i64 i6, .int .i64 i7, .int .i64 i8, .int .i64 i9, .int .i64 i10, .int .i64 i11, .slice ao0 L0.length ac0, .slice ao1 L1.length ac1, .int .i64 i12] 32)).cell? ⟨w.heap.size, 3, none⟩ = some (.int .i64 i3) := by go_cell
      have a4_1 : (w.alloc (.cells #[.int .i64 4, .int .i64 i1, .int .i64 i2, .int .i64 i3, .int .i64 i4, .int .i64 i5, .int .i64 i6, .int .i64 i7, .int .i64 i8, .int .i64 i9, .int .i64 i10, .int .i64 i11, .slice ao0 L0.length ac0, .slice ao1 L1.length ac1, .int .i64 i12] 32)).cell? ⟨w.heap.size, 4, none⟩ = some (.int .i64 i4) := by go_cell
      have a5_1 : (w.alloc (.cells #[.int .i64 4, .int .i64 i1, .int .i64 i2, .int .i64 i3, .int .i64 i4, .int .i64 i5, .int .i64 i6, .int .i64 i7, .int .i64 i8, .int .i64 i9, .int .i64 i10, .int .i64 i11, .slice ao0 L0.length ac0, .slice ao1 L1.length ac1, .int .i64 i12] 32)).cell? ⟨w.heap.size, 5, none⟩ = some (.int .i64 i5) := by go_cell
      have a6_1 : (w.alloc (.cells #[.int .i64 4, .int .i64 i1, .int .i64 i2, .int .i64 i3, .int .i64 i4, .int .i64 i5, .int .i64 i6, .int .i64 i7, .int .i64 i8, .int .i64 i9, .int .i64 i10, .int .i64 i11, .slice ao0 L0.length ac0, .slice ao1 L1.length ac1, .int .i64 i12] 32)).cell? ⟨w.heap.size, 6, none⟩ = some (.int .i64 i6) := by go_cell
      have a7_1 : (w.alloc (.cells #[.int .i64 4, .int .i64 i1, .int .i64 i2, .int .i64 i3, .int .i64 i4, .int .i64 i5, .int .i64 i6, .int .i64 i7, .int .i64 i8, .int .i64 i9, .int .i64 i10, .int .i64 i11, .slice ao0 L0.length ac0, .slice ao1 L1.length ac1, .int .i64 i12] 32)).cell? ⟨w.heap.size, 7, none⟩ = some (.int .i64 i7) := by go_cell
      have a8_1 : (w.alloc (.cells #[.int .i64 4, .int .i64 i1, .int .i64 i2, .int .i64 i3, .int .i64 i4, .int .i64 i5, .int .i64 i6, .int .i64 i7, .int .i64 i8, .int .i64 i9, .int .i64 i10, .int .i64 i11, .slice ao0 L0.length ac0, .slice ao1 L1.length ac1, .int .i64 i12] 32)).cell? ⟨w.heap.size, 8, none⟩ = some (.int .i64 i8) := by go_cell
      have a9_1 : (w.alloc (.cells #[.int .i64 4, .int .i64 i1, .int .i64 i2, .int .i64 i3, .int .i64 i4, .int .i64 i5, .int .i64 i6, .int .i64 i7, .int .i64 i8, .int .i64 i9, .int .i64 i10, .int .i64 i11, .slice ao0 L0.length ac0, .slice ao1 L1.length ac1, .int .i64 i12] 32)).cell? ⟨w.heap.size, 9, none⟩ = some (.int .i64 i9) := by go_cell
      have a10_1 : (w.alloc (.cells #[.int .i64 4, .int .i64 i1, .int .i64 i2, .int .i64 i3, .int .i64 i4, .int .i64 i5, .int .i64 i6, .int .i64 i7, .int .i64 i8, .int .i64 i9, .int .i64 i10, .int .i64 i11, .slice ao0 L0.length ac0, .slice ao1 L1.length ac1, .int .i64 i12] 32)).cell? ⟨w.heap.size, 10, none⟩ = some (.int .i64 i10) := by go_cell
      have a11_1 : (w.alloc (.cells #[.int .i64 4, .int .i64 i1, .int .i64 i2, .int .i64 i3, .int .i64 i4, .int .i64 i5, .int .i64 i6, .int .i64 i7, .int .i64 i8, .int .i64 i9, .int .i64 i10, .int .i64 i11, .slice ao0 L0.length ac0, .slice ao1 L1.length ac1, .int .i64 i12] 32)).cell? ⟨w.heap.size, 11, none⟩ = some (.int .i64 i11) := by go_cell
      have a12_1 : (w.alloc (.cells #[.int .i64 4, .int .i64 i1, .int .i64 i2, .int .i64 i3, .int .i64 i4, .int .i64 i5, .int .i64 i6, .int .i64 i7, .int .i64 i8, .int .i64 i9, .int .i64 i10, .int .i64 i11, .slice ao0 L0.length ac0, .slice ao1 L1.length ac1, .int .i64 i12] 32)).cell? ⟨w.heap.size, 12, none⟩ = some (.slice ao0 L0.length ac0) := by go_cell
      have a13_1 : (w.alloc (.cells #[.int .i64 4, .int .i64 i1, .int .i64 i2, .int .i64 i3, .int .i64 i4, .int .i64 i5, .int .i64 i6, .int .i64 i7, .int .i64 i8, .int .i64 i9, .int .i64 i10, .int .i64 i11, .slice ao0 L0.length ac0, .slice ao1 L1.length ac1, .int .i64 i12] 32)).cell? ⟨w.heap.size, 13, none⟩ = some (.slice ao1 L1.length ac1) := by go_cell
      have a14_1 : (w.alloc (.cells #[.int .i64 4, .int .i64 i1, .int .i64 i2, .int .i64 i3, .int .i64 i4, .int .i64 i5, .int .i64 i6, .int .i64 i7, .int .i64 i8, .int .i64 i9, .int .i64 i10, .int .i64 i11, .slice ao0 L0.length ac0, .slice ao1 L1.length ac1, .int .i64 i12] 32)).cell? ⟨w.heap.size, 14, none⟩ = some (.int .i64 i12) := by go_cell
      have al_1 : w.heap.size < (w.alloc (.cells #[.int .i64 4, .int .i64 i1, .int .i64 i2, .int .i64 i3, .int .i64 i4, .int .i64 i5, .int .i64 i6, .int .i64 i7, .int .i64 i8, .int .i64 i9, .int .i64 i10, .int .i64 i11, .slice ao0 L0.length ac0, .slice ao1 L1.length ac1, .int .i64 i12] 32)).heap.size := by first | (simp; done) | (simp; omega)
      have c1 : Below w.heap.size w (w.alloc (.cells #[.int .i64 4, .int .i64 i1, .int .i64 i2, .int .i64 i3, .int .i64 i4, .int .i64 i5, .int .i64 i6, .int .i64 i7, .int .i64 i8, .int .i64 i9, .int .i64 i10, .int .i64 i11, .slice ao0 L0.length ac0, .slice ao1 L1.length ac1, .int .i64 i12] 32)) := by go_grown
      have s1 : (w.alloc (.cells #[.int .i64 4, .int .i64 i1, .int .i64 i2, .int .i64 i3, .int .i64 i4, .int .i64 i5, .int .i64 i6, .int .i64 i7, .int .i64 i8, .int .i64 i9, .int .i64 i10, .int .i64 i11, .slice ao0 L0.length ac0, .slice ao1 L1.length ac1, .int .i64 i12] 32)).heap.size = w.heap.size + 1 := by simp
      generalize (w.alloc (.cells #[.int .i64 4, .int .i64 i1, .int .i64 i2, .int .i64 i3, .int .i64 i4, .int .i64 i5, .int .i64 i6, .int .i64 i7, .int .i64 i8, .int .i64 i9, .int .i64 i10, .int .i64 i11, .slice ao0 L0.length ac0, .slice ao1 L1.length ac1, .int .i64 i12] 32)) = w1 at a0_1 a1_1 a2_1 a3_1 a4_1 a5_1 a6_1 a7_1 a8_1 a9_1 a10_1 a11_1 a12_1 a13_1 a14_1 al_1 c1 s1 ⊢
      have qa0_1 := cell_regrown a0_1
      have qa1_1 := cell_regrown a1_1
      have qa2_1 := cell_regrown a2_1
      have qa3_1 := cell_regrown a3_1
      have qa4_1 := cell_regrown a4_1
      have qa5_1 := cell_regrown a5_1
      have qa6_1 := cell_regrown a6_1
      have qa7_1 := cell_regrown a7_1
      have qa8_1 := cell_regrown a8_1
      have qa9_1 := cell_regrown a9_1
      have qa10_1 := cell_regrown a10_1
      have qa11_1 := cell_regrown a11_1
      have qa12_1 := cell_regrown a12_1
      have qa13_1 := cell_regrown a13_1
      have qa14_1 := cell_regrown a14_1
      refine (need_no _ (HE.out.later c1)).mono ?_
      rintro e wz ⟨⟨t, v, rfl⟩, rfl⟩
      exact ⟨rfl, Or.inr ⟨(by first | (simp [toldM]; done) | (simp_all [toldM]; done) | (simp [toldM]; omega) | (simp_all [toldM]; omega)), t, v, rfl⟩, c1⟩
  by_cases h5 : i0 = 5
  case pos =>
    subst h5
    go_enter Tryz.func74, Tryz.ntmps74
    go_wp2_with fail
    have a0_1 : (w.alloc (.cells #[.int .i64 5, .int .i64 i1, .int .i64 i2, .int .i64 i3, .int .i64 i4, .int .i64 i5, .int .i64 i6, .int .i64 i7, .int .i64 i8, .int .i64 i9, .int .i64 i10, .int .i64 i11, .slice ao0 L0.length ac0, .slice ao1 L1.length ac1, .int .i64 i12] 32)).cell? ⟨w.heap.size, 0, none⟩ = some (.int .i64 5) := by go_cell
    have a1_1 : (w.alloc (.cells #[.int .i64 5, .int .i64 i1, .int .i64 i2, .int .i64 i3, .int .i64 i4, .int .i64 i5, .int .i64 i6, .int .i64 i7, .int .i64 i8, .int .i64 i9, .int .i64 i10, .int .i64 i11, .slice ao0 L0.length ac0, .slice ao1 L1.length ac1, .int .i64 i12] 32)).cell? ⟨w.heap.size, 1, none⟩ = some (.int .i64 i1) := by go_cell
    have a2_1 : (w.alloc (.cells #[.int .i64 5, .int .i64 i1, .int .i64 i2, .int .i64 i3, .int .i64 i4, .int .i64 i5, .int .i64 i6, .int .i64 i7, .int .i64 i8, .int .i64 i9, .int .i64 i10, .int .i64 i11, .slice ao0 L0.length ac0, .slice ao1 L1.length ac1, .int .i64 i12] 32)).cell? ⟨w.heap.size, 2, none⟩ = some (.int .i64 i2) := by go_cell
    have a3_1 : (w.alloc (.cells #[.int .i64 5, .int .i64 i1, .int .i64 i2, .int .i64 i3, .int .i64 i4, .int .i64 i5, .int .i64 i6, .int .i64 i7, .int .i64 i8, .int .i64 i9, .int .i64 i10, .int .i64 i11, .slice ao0 L0.length ac0, .slice ao1 L1.length ac1, .int .i64 i12] 32)).cell? ⟨w.heap.size, 3, none⟩ = some (.int .i64 i3) := by go_cell
    have a4_1 : (w.alloc (.cells #[.int .i64 5, .int .i64 i1, .int .i64 i2, .int .i64 i3, .int .i64 i4, .int .i64 i5, .int .i64 i6, .int .i64 i7, .int .i64 i8, .int .i64 i9, .int .i64 i10, .int .i64 i11, .slice ao0 L0.length ac0, .slice ao1 L1.length ac1, .int .i64 i12] 32)).cell? ⟨w.heap.size, 4, none⟩ = some (.int .i64 i4) := by go_cell
    have a5_1 : (w.alloc (.cells #[.int .i64 5, .int .i64 i1, .int .i64 i2, .int .i64 i3, .int .i64 i4, .int .i64 i5, .int .i64 i6, .int .i64 i7, .int .i64 i8, .int .i64 i9, .int .i64 i10, .int .i64 i11, .slice ao0 L0.length ac0, .slice ao1 L1.length ac1, .int .i64 i12] 32)).cell? ⟨w.heap.size, 5, none⟩ = some (.int .i64 i5) := by go_cell
    have a6_1 : (w.alloc (.cells #[.int .i64 5, .int .i64 i1, .int .i64 i2, .int .i64 i3, .int .i64 i4, .int .i64 i5, .int .i64 i6, .int .i64 i7, .int .i64 i8, .int .i64 i9, .int .i64 i10, .int .i64 i11, .slice ao0 L0.length ac0, .slice ao1 L1.length ac1, .int .i64 i12] 32)).cell? ⟨w.heap.size, 6, none⟩ = some (.int .i64 i6) := by go_cell
    have a7_1 : (w.alloc (.cells #[.int .i64 5, .int .i64 i1, .int .i64 i2, .int .i64 i3, .int .i64 i4, .int .i64 i5, .int .i64 i6, .int .i64 i7, .int .i64 i8, .int .i64 i9, .int .i64 i10, .int .i64 i11, .slice ao0 L0.length ac0, .slice ao1 L1.length ac1, .int .i64 i12] 32)).cell? ⟨w.heap.size, 7, none⟩ = some (.int .i64 i7) := by go_cell
    have a8_1 : (w.alloc (.cells #[.int .i64 5, .int .i64 i1, .int .i64 i2, .int .i64 i3, .int .i64 i4, .int .i64 i5, .int .i64 i6, .int .i64 i7, .int .i64 i8, .int .i64 i9, .int .i64 i10, .int .i64 i11, .slice ao0 L0.length ac0, .slice ao1 L1.length ac1, .int .i64 i12] 32)).cell? ⟨w.heap.size, 8, none⟩ = some (.int .i64 i8) := by go_cell
    have a9_1 : (w.alloc (.cells #[.int .i64 5, .int .i64 i1, .int .i64 i2, .int .i64 i3, .int .i64 i4, .int .i64 i5, .int .i64 i6, .int .i64 i7, .int .i64 i8, .int .i64 i9, .int .i64 i10, .int .i64 i11, .slice ao0 L0.length ac0, .slice ao1 L1.length ac1, .int .i64 i12] 32)).cell? ⟨w.heap.size, 9, none⟩ = some (.int .i64 i9) := by go_cell
    have a10_1 : (w.alloc (.cells #[.int .i64 5, .int .i64 i1, .int .i64 i2, .int .i64 i3, .int .i64 i4, .int .i64 i5, .int .i64 i6, .int .i64 i7, .int .i64 i8, .int .i64 i9, .int .i64 i10, .int .i64 i11, .slice ao0 L0.length ac0, .slice ao1 L1.length ac1, .int .i64 i12] 32)).cell? ⟨w.heap.size, 10, none⟩ = some (.int .i64 i10) := by go_cell
    have a11_1 : (w.alloc (.cells #[.int .i64 5, .int .i64 i1, .int .i64 i2, .int .i64 i3, .int .i64 i4, .int .i64 i5, .int .i64 i6, .int .i64 i7, .int .i64 i8, .int .i64 i9, .int .i64 i10, .int .i64 i11, .slice ao0 L0.length ac0, .slice ao1 L1.length ac1, .int .i64 i12] 32)).cell? ⟨w.heap.size, 11, none⟩ = some (.int .i64 i11) := by go_cell
    have a12_1 : (w.alloc (.cells #[.int .i64 5, .int .i64 i1, .int .i64 i2, .int .i64 i3, .int .i64 i4, .int .i64 i5, .int .i64 i6, .int .i64 i7, .int .i64 i8, .int .i64 i9, .int .i64 i10, .int .i64 i11, .slice ao0 L0.length ac0, .slice ao1 L1.length ac1, .int .i64 i12] 32)).cell? ⟨w.heap.size, 12, none⟩ = some (.slice ao0 L0.length ac0) := by go_cell
    have a13_1 : (w.alloc (.cells #[.int .i64 5, .int .i64 i1, .int .i64 i2, .int .i64 i3, .int .i64 i4, .int .i64 i5, .int .i64 i6, .int .i64 i7, .int .i64 i8, .int .i64 i9, .int .i64 i10, .int .i64 i11, .slice ao0 L0.length ac0, .slice ao1 L1.length ac1, .int .i64 i12] 32)).cell? ⟨w.heap.size, 13, none⟩ = some (.slice ao1 L1.length ac1) := by go_cell
    have a14_1 : (w.alloc (.cells #[.int .i64 5, .int .i64 i1, .int .i64 i2, .int .i64 i3, .int .i64 i4, .int .i64 i5, .int .i64 i6, .int .i64 i7, .int .i64 i8, .int .i64 i9, .int .i64 i10, .int .i64 i11, .slice ao0 L0.length ac0, .slice ao1 L1.length ac1, .int .i64 i12] 32)).cell? ⟨w.heap.size, 14, none⟩ = some (.int .i64 i12) := by go_cell
    have al_1 : w.heap.size < (w.alloc (.cells #[.int .i64 5, .int .i64 i1, .int .i64 i2, .int .i64 i3, .int .i64 i4, .int .i64 i5, .int .i64 i6, .int .i64 i7, .int .i64 i8, .int .i64 i9, .int .i64 i10, .int .i64 i11, .slice ao0 L0.length ac0, .slice ao1 L1.length ac1, .int .i64 i12] 32)).heap.size := by first | (simp; done) | (simp; omega)
    have c1 : Below w.heap.size w (w.alloc (.cells #[.int .i64 5, .int .i64 i1, .int .i64 i2, .int .i64 i3, .int .i64 i4, .int .i64 i5, .int .i64 i6, .int .i64 i7, .int .i64 i8, .int .i64 i9, .int .i64 i10, .int .i64 i11, .slice ao0 L0.length ac0, .slice ao1 L1.length ac1, .int .i64 i12] 32)) := by go_grown
    have s1 : (w.alloc (.cells #[.int .i64 5, .int .i64 i1, .int .i64 i2, .int .i64 i3, .int .i64 i4, .int .i64 i5, .int .i64 i6, .int .i64 i7, .int .i64 i8, .int .i64 i9, .int .i64 i10, .int .i64 i11, .slice ao0 L0.length ac0, .slice ao1 L1.length ac1, .int .i64 i12] 32)).heap.size = w.heap.size + 1 := by simp
    generalize (w.alloc (.cells #[.int .i64 5, .int .i64 i1, .int .i64 i2, .int .i64 i3, .int .i64 i4, .int .i64 i5, .int .i64 i6, .int .i64 i7, .int .i64 i8, .int .i64 i9, .int .i64 i10, .int .i64 i11, .slice ao0 L0.length ac0, .slice ao1 L1.length ac1, .int .i64 i12] 32)) = w1 at a0_1 a1_1 a2_1 a3_1 a4_1 a5_1 a6_1 a7_1 a8_1 a9_1 a10_1 a11_1 a12_1 a13_1 a14_1 al_1 c1 s1 ⊢
    have qa0_1 := cell_regrown a0_1
    have qa1_1 := cell_regrown a1_1
    have qa2_1 := cell_regrown a2_1
    have qa3_1 := cell_regrown a3_1
    have qa4_1 := cell_regrown a4_1
    have qa5_1 := cell_regrown a5_1
    have qa6_1 := cell_regrown a6_1
    have qa7_1 := cell_regrown a7_1
    have qa8_1 := cell_regrown a8_1
    have qa9_1 := cell_regrown a9_1
    have qa10_1 := cell_regrown a10_1
    have qa11_1 := cell_regrown a11_1
    have qa12_1 := cell_regrown a12_1
    have qa13_1 := cell_regrown a13_1
    have qa14_1 := cell_regrown a14_1
    have HIT := fun W h => itemRight_any i9 i10 i11 (.slice ao0 L0.length ac0) L0 W h
    cases hI : itR i9 i10 i11 L0 with
    | false =>
      rw [hI] at HIT
      first | go_region_with (first | (go_at_call 100; refine (HIT _ (HA.out.h0.later (c1.drew))).mono ?_; rintro e wi ⟨rfl, bi⟩; have di : Below w1.heap.size w1 wi := (Below.trans (by go_grown) (bi.mono (by first | omega | (simp; done) | (simp; omega)))); have ci : Below w.heap.size w wi := c1.trans (di.mono c1.size); have y2 : wi.cell? ⟨w.heap.size, 2, none⟩ = some (.int .i64 i2) := (by rw [bi.cell (by first | omega | (simp; done) | (simp; omega))]; go_cell); have y9 : wi.cell? ⟨w.heap.size, 9, none⟩ = some (.int .i64 i9) := (by rw [bi.cell (by first | omega | (simp; done) | (simp; omega))]; go_cell)) | (go_at_call 65; refine (need_no _ (HE.out.later ci)).mono ?_; rintro e wz ⟨⟨t, v, rfl⟩, rfl⟩; refine (fun (_ : wpAny Tryz.prog (default : Region.Mode) #[] (fun _ _ _ => True) 0 #[] ({ tmps := #[], defers := [] } : Act) w) => ?_) ?_; · exact ⟨rfl, Or.inr ⟨(by first | (simp [toldM]; done) | (simp_all [toldM]; done) | (simp [toldM]; omega) | (simp_all [toldM]; omega)), t, v, rfl⟩, ci⟩)) | fail
      all_goals trivial
    | true =>
      rw [hI] at HIT
      by_cases hp : partOf i9 = i2
      · have hb : (partOf i9 == i2) = true := by simpa using hp
        first | go_region_with (first | (go_at_call 100; refine (HIT _ (HA.out.h0.later (c1.drew))).mono ?_; rintro e wi ⟨rfl, bi⟩; have di : Below w1.heap.size w1 wi := (Below.trans (by go_grown) (bi.mono (by first | omega | (simp; done) | (simp; omega)))); have ci : Below w.heap.size w wi := c1.trans (di.mono c1.size); have y2 : wi.cell? ⟨w.heap.size, 2, none⟩ = some (.int .i64 i2) := (by rw [bi.cell (by first | omega | (simp; done) | (simp; omega))]; go_cell); have y9 : wi.cell? ⟨w.heap.size, 9, none⟩ = some (.int .i64 i9) := (by rw [bi.cell (by first | omega | (simp; done) | (simp; omega))]; go_cell)) | (go_at_call 101; refine (implShard_any i9 _).mono ?_; rintro e wk ⟨rfl, rfl⟩) | (go_at_call 65; refine (need_yes _).mono ?_; rintro e wz ⟨rfl, hz⟩; obtain rfl := hz.symm; clear hz)) | fail
        all_goals
          go_wp2_with fail
          exact ⟨rfl, .tuple #[], by simp [results, Tryz.results74, go_sem], Or.inl ⟨(by first | (simp [toldM]; done) | (simp_all [toldM]; done) | (simp [toldM]; omega) | (simp_all [toldM]; omega)), rfl⟩, ci⟩
      · have hb : (partOf i9 == i2) = false := by simpa using hp
        first | go_region_with (first | (go_at_call 100; refine (HIT _ (HA.out.h0.later (c1.drew))).mono ?_; rintro e wi ⟨rfl, bi⟩; have di : Below w1.heap.size w1 wi := (Below.trans (by go_grown) (bi.mono (by first | omega | (simp; done) | (simp; omega)))); have ci : Below w.heap.size w wi := c1.trans (di.mono c1.size); have y2 : wi.cell? ⟨w.heap.size, 2, none⟩ = some (.int .i64 i2) := (by rw [bi.cell (by first | omega | (simp; done) | (simp; omega))]; go_cell); have y9 : wi.cell? ⟨w.heap.size, 9, none⟩ = some (.int .i64 i9) := (by rw [bi.cell (by first | omega | (simp; done) | (simp; omega))]; go_cell)) | (go_at_call 101; refine (implShard_any i9 _).mono ?_; rintro e wk ⟨rfl, rfl⟩) | (go_at_call 65; refine (need_no _ (HE.out.later ci)).mono ?_; rintro e wz ⟨⟨t, v, rfl⟩, rfl⟩; refine (fun (_ : wpAny Tryz.prog (default : Region.Mode) #[] (fun _ _ _ => True) 0 #[] ({ tmps := #[], defers := [] } : Act) w) => ?_) ?_; · exact ⟨rfl, Or.inr ⟨(by first | (simp [toldM]; done) | (simp_all [toldM]; done) | (simp [toldM]; omega) | (simp_all [toldM]; omega)), t, v, rfl⟩, ci⟩)) | fail
        all_goals trivial
  by_cases h6 : i0 = 6
  case pos =>
    subst h6
    go_enter Tryz.func74, Tryz.ntmps74
    go_wp2_with fail
    have a0_1 : (w.alloc (.cells #[.int .i64 6, .int .i64 i1, .int .i64 i2, .int .i64 i3, .int .i64 i4, .int .i64 i5, .int .i64 i6, .int .i64 i7, .int .i64 i8, .int .i64 i9, .int .i64 i10, .int .i64 i11, .slice ao0 L0.length ac0, .slice ao1 L1.length ac1, .int .i64 i12] 32)).cell? ⟨w.heap.size, 0, none⟩ = some (.int .i64 6) := by go_cell
    have a1_1 : (w.alloc (.cells #[.int .i64 6, .int .i64 i1, .int .i64 i2, .int .i64 i3, .int .i64 i4, .int .i64 i5, .int .i64 i6, .int .i64 i7, .int .i64 i8, .int .i64 i9, .int .i64 i10, .int .i64 i11, .slice ao0 L0.length ac0, .slice ao1 L1.length ac1, .int .i64 i12] 32)).cell? ⟨w.heap.size, 1, none⟩ = some (.int .i64 i1) := by go_cell
    have a2_1 : (w.alloc (.cells #[.int .i64 6, .int .i64 i1, .int .i64 i2, .int .i64 i3, .int .i64 i4, .int .i64 i5, .int .i64 i6, .int .i64 i7, .int .i64 i8, .int .i64 i9, .int .i64 i10, .int .i64 i11, .slice ao0 L0.length ac0, .slice ao1 L1.length ac1, .int .i64 i12] 32)).cell? ⟨w.heap.size, 2, none⟩ = some (.int .i64 i2) := by go_cell
    have a3_1 : (w.alloc (.cells #[.int .i64 6, .int .i64 i1, .int .i64 i2, .int .i64 i3, .int .i64 i4, .int .i64 i5, .int .i64 i6, .int .i64 i7, .int .i64 i8, .int .i64 i9, .int .i64 i10, .int .i64 i11, .slice ao0 L0.length ac0, .slice ao1 L1.length ac1, .int .i64 i12] 32)).cell? ⟨w.heap.size, 3, none⟩ = some (.int .i64 i3) := by go_cell
    have a4_1 : (w.alloc (.cells #[.int .i64 6, .int .i64 i1, .int .i64 i2, .int .i64 i3, .int .i64 i4, .int .i64 i5, .int .i64 i6, .int .i64 i7, .int .i64 i8, .int .i64 i9, .int .i64 i10, .int .i64 i11, .slice ao0 L0.length ac0, .slice ao1 L1.length ac1, .int .i64 i12] 32)).cell? ⟨w.heap.size, 4, none⟩ = some (.int .i64 i4) := by go_cell
    have a5_1 : (w.alloc (.cells #[.int .i64 6, .int .i64 i1, .int .i64 i2, .int .i64 i3, .int .i64 i4, .int .i64 i5, .int .i64 i6, .int .i64 i7, .int .i64 i8, .int .i64 i9, .int .i64 i10, .int .i64 i11, .slice ao0 L0.length ac0, .slice ao1 L1.length ac1, .int .i64 i12] 32)).cell? ⟨w.heap.size, 5, none⟩ = some (.int .i64 i5) := by go_cell
    have a6_1 : (w.alloc (.cells #[.int .i64 6, .int .i64 i1, .int .i64 i2, .int .i64 i3, .int .i64 i4, .int .i64 i5, .int .i64 i6, .int .i64 i7, .int .i64 i8, .int .i64 i9, .int .i64 i10, .int .i64 i11, .slice ao0 L0.length ac0, .slice ao1 L1.length ac1, .int .i64 i12] 32)).cell? ⟨w.heap.size, 6, none⟩ = some (.int .i64 i6) := by go_cell
    have a7_1 : (w.alloc (.cells #[.int .i64 6, .int .i64 i1, .int .i64 i2, .int .i64 i3, .int .i64 i4, .int .i64 i5, .int .i64 i6, .int .i64 i7, .int .i64 i8, .int .i64 i9, .int .i64 i10, .int .i64 i11, .slice ao0 L0.length ac0, .slice ao1 L1.length ac1, .int .i64 i12] 32)).cell? ⟨w.heap.size, 7, none⟩ = some (.int .i64 i7) := by go_cell
    have a8_1 : (w.alloc (.cells #[.int .i64 6, .int .i64 i1, .int .i64 i2, .int .i64 i3, .int .i64 i4, .int .i64 i5, .int .i64 i6, .int .i64 i7, .int .i64 i8, .int .i64 i9, .int .i64 i10, .int .i64 i11, .slice ao0 L0.length ac0, .slice ao1 L1.length ac1, .int .i64 i12] 32)).cell? ⟨w.heap.size, 8, none⟩ = some (.int .i64 i8) := by go_cell
    have a9_1 : (w.alloc (.cells #[.int .i64 6, .int .i64 i1, .int .i64 i2, .int .i64 i3, .int .i64 i4, .int .i64 i5, .int .i64 i6, .int .i64 i7, .int .i64 i8, .int .i64 i9, .int .i64 i10, .int .i64 i11, .slice ao0 L0.length ac0, .slice ao1 L1.length ac1, .int .i64 i12] 32)).cell? ⟨w.heap.size, 9, none⟩ = some (.int .i64 i9) := by go_cell
    have a10_1 : (w.alloc (.cells #[.int .i64 6, .int .i64 i1, .int .i64 i2, .int .i64 i3, .int .i64 i4, .int .i64 i5, .int .i64 i6, .int .i64 i7, .int .i64 i8, .int .i64 i9, .int .i64 i10, .int .i64 i11, .slice ao0 L0.length ac0, .slice ao1 L1.length ac1, .int .i64 i12] 32)).cell? ⟨w.heap.size, 10, none⟩ = some (.int .i64 i10) := by go_cell
    have a11_1 : (w.alloc (.cells #[.int .i64 6, .int .i64 i1, .int .i64 i2, .int .i64 i3, .int .i64 i4, .int .i64 i5, .int .i64 i6, .int .i64 i7, .int .i64 i8, .int .i64 i9, .int .i64 i10, .int .i64 i11, .slice ao0 L0.length ac0, .slice ao1 L1.length ac1, .int .i64 i12] 32)).cell? ⟨w.heap.size, 11, none⟩ = some (.int .i64 i11) := by go_cell
    have a12_1 : (w.alloc (.cells #[.int .i64 6, .int .i64 i1, .int .i64 i2, .int .i64 i3, .int .i64 i4, .int .i64 i5, .int .i64 i6, .int .i64 i7, .int .i64 i8, .int .i64 i9, .int .i64 i10, .int .i64 i11, .slice ao0 L0.length ac0, .slice ao1 L1.length ac1, .int .i64 i12] 32)).cell? ⟨w.heap.size, 12, none⟩ = some (.slice ao0 L0.length ac0) := by go_cell
    have a13_1 : (w.alloc (.cells #[.int .i64 6, .int .i64 i1, .int .i64 i2, .int .i64 i3, .int .i64 i4, .int .i64 i5, .int .i64 i6, .int .i64 i7, .int .i64 i8, .int .i64 i9, .int .i64 i10, .int .i64 i11, .slice ao0 L0.length ac0, .slice ao1 L1.length ac1, .int .i64 i12] 32)).cell? ⟨w.heap.size, 13, none⟩ = some (.slice ao1 L1.length ac1) := by go_cell
    have a14_1 : (w.alloc (.cells #[.int .i64 6, .int .i64 i1, .int .i64 i2, .int .i64 i3, .int .i64 i4, .int .i64 i5, .int .i64 i6, .int .i64 i7, .int .i64 i8, .int .i64 i9, .int .i64 i10, .int .i64 i11, .slice ao0 L0.length ac0, .slice ao1 L1.length ac1, .int .i64 i12] 32)).cell? ⟨w.heap.size, 14, none⟩ = some (.int .i64 i12) := by go_cell
    have al_1 : w.heap.size < (w.alloc (.cells #[.int .i64 6, .int .i64 i1, .int .i64 i2, .int .i64 i3, .int .i64 i4, .int .i64 i5, .int .i64 i6, .int .i64 i7, .int .i64 i8, .int .i64 i9, .int .i64 i10, .int .i64 i11, .slice ao0 L0.length ac0, .slice ao1 L1.length ac1, .int .i64 i12] 32)).heap.size := by first | (simp; done) | (simp; omega)
    have c1 : Below w.heap.size w (w.alloc (.cells #[.int .i64 6, .int .i64 i1, .int .i64 i2, .int .i64 i3, .int .i64 i4, .int .i64 i5, .int .i64 i6, .int .i64 i7, .int .i64 i8, .int .i64 i9, .int .i64 i10, .int .i64 i11, .slice ao0 L0.length ac0, .slice ao1 L1.length ac1, .int .i64 i12] 32)) := by go_grown
    have s1 : (w.alloc (.cells #[.int .i64 6, .int .i64 i1, .int .i64 i2, .int .i64 i3, .int .i64 i4, .int .i64 i5, .int .i64 i6, .int .i64 i7, .int .i64 i8, .int .i64 i9, .int .i64 i10, .int .i64 i11, .slice ao0 L0.length ac0, .slice ao1 L1.length ac1, .int .i64 i12] 32)).heap.size = w.heap.size + 1 := by simp
    generalize (w.alloc (.cells #[.int .i64 6, .int .i64 i1, .int .i64 i2, .int .i64 i3, .int .i64 i4, .int .i64 i5, .int .i64 i6, .int .i64 i7, .int .i64 i8, .int .i64 i9, .int .i64 i10, .int .i64 i11, .slice ao0 L0.length ac0, .slice ao1 L1.length ac1, .int .i64 i12] 32)) = w1 at a0_1 a1_1 a2_1 a3_1 a4_1 a5_1 a6_1 a7_1 a8_1 a9_1 a10_1 a11_1 a12_1 a13_1 a14_1 al_1 c1 s1 ⊢
    have qa0_1 := cell_regrown a0_1
    have qa1_1 := cell_regrown a1_1
    have qa2_1 := cell_regrown a2_1
    have qa3_1 := cell_regrown a3_1
    have qa4_1 := cell_regrown a4_1
    have qa5_1 := cell_regrown a5_1
    have qa6_1 := cell_regrown a6_1
    have qa7_1 := cell_regrown a7_1
    have qa8_1 := cell_regrown a8_1
    have qa9_1 := cell_regrown a9_1
    have qa10_1 := cell_regrown a10_1
    have qa11_1 := cell_regrown a11_1
    have qa12_1 := cell_regrown a12_1
    have qa13_1 := cell_regrown a13_1
    have qa14_1 := cell_regrown a14_1
    have HIT := fun W h => itemRight_any i9 i10 i11 (.slice ao0 L0.length ac0) L0 W h
    cases hI : itR i9 i10 i11 L0 with
    | false =>
      rw [hI] at HIT
      first | go_region_with (first | (go_at_call 100; refine (HIT _ (HA.out.h0.later (c1.drew))).mono ?_; rintro e wi ⟨rfl, bi⟩; have di : Below w1.heap.size w1 wi := (Below.trans (by go_grown) (bi.mono (by first | omega | (simp; done) | (simp; omega)))); have ci : Below w.heap.size w wi := c1.trans (di.mono c1.size); have y2 : wi.cell? ⟨w.heap.size, 2, none⟩ = some (.int .i64 i2) := (by rw [bi.cell (by first | omega | (simp; done) | (simp; omega))]; go_cell); have y9 : wi.cell? ⟨w.heap.size, 9, none⟩ = some (.int .i64 i9) := (by rw [bi.cell (by first | omega | (simp; done) | (simp; omega))]; go_cell)) | (go_at_call 65; refine (need_no _ (HE.out.later ci)).mono ?_; rintro e wz ⟨⟨t, v, rfl⟩, rfl⟩; refine (fun (_ : wpAny Tryz.prog (default : Region.Mode) #[] (fun _ _ _ => True) 0 #[] ({ tmps := #[], defers := [] } : Act) w) => ?_) ?_; · exact ⟨rfl, Or.inr ⟨(by first | (simp [toldM]; done) | (simp_all [toldM]; done) | (simp [toldM]; omega) | (simp_all [toldM]; omega)), t, v, rfl⟩, ci⟩)) | fail
      all_goals trivial
    | true =>
      rw [hI] at HIT
      by_cases hp : partOf i9 = i2
      · have hb : (partOf i9 == i2) = true := by simpa using hp
        first | go_region_with (first | (go_at_call 100; refine (HIT _ (HA.out.h0.later (c1.drew))).mono ?_; rintro e wi ⟨rfl, bi⟩; have di : Below w1.heap.size w1 wi := (Below.trans (by go_grown) (bi.mono (by first | omega | (simp; done) | (simp; omega)))); have ci : Below w.heap.size w wi := c1.trans (di.mono c1.size); have y2 : wi.cell? ⟨w.heap.size, 2, none⟩ = some (.int .i64 i2) := (by rw [bi.cell (by first | omega | (simp; done) | (simp; omega))]; go_cell); have y9 : wi.cell? ⟨w.heap.size, 9, none⟩ = some (.int .i64 i9) := (by rw [bi.cell (by first | omega | (simp; done) | (simp; omega))]; go_cell)) | (go_at_call 101; refine (implShard_any i9 _).mono ?_; rintro e wk ⟨rfl, rfl⟩) | (go_at_call 65; refine (need_yes _).mono ?_; rintro e wz ⟨rfl, hz⟩; obtain rfl := hz.symm; clear hz)) | fail
        all_goals
          go_wp2_with fail
          exact ⟨rfl, .tuple #[], by simp [results, Tryz.results74, go_sem], Or.inl ⟨(by first | (simp [toldM]; done) | (simp_all [toldM]; done) | (simp [toldM]; omega) | (simp_all [toldM]; omega)), rfl⟩, ci⟩
      · have hb : (partOf i9 == i2) = false := by simpa using hp
        first | go_region_with (first | (go_at_call 100; refine (HIT _ (HA.out.h0.later (c1.drew))).mono ?_; rintro e wi ⟨rfl, bi⟩; have di : Below w1.heap.size w1 wi := (Below.trans (by go_grown) (bi.mono (by first | omega | (simp; done) | (simp; omega)))); have ci : Below w.heap.size w wi := c1.trans (di.mono c1.size); have y2 : wi.cell? ⟨w.heap.size, 2, none⟩ = some (.int .i64 i2) := (by rw [bi.cell (by first | omega | (simp; done) | (simp; omega))]; go_cell); have y9 : wi.cell? ⟨w.heap.size, 9, none⟩ = some (.int .i64 i9) := (by rw [bi.cell (by first | omega | (simp; done) | (simp; omega))]; go_cell)) | (go_at_call 101; refine (implShard_any i9 _).mono ?_; rintro e wk ⟨rfl, rfl⟩) | (go_at_call 65; refine (need_no _ (HE.out.later ci)).mono ?_; rintro e wz ⟨⟨t, v, rfl⟩, rfl⟩; refine (fun (_ : wpAny Tryz.prog (default : Region.Mode) #[] (fun _ _ _ => True) 0 #[] ({ tmps := #[], defers := [] } : Act) w) => ?_) ?_; · exact ⟨rfl, Or.inr ⟨(by first | (simp [toldM]; done) | (simp_all [toldM]; done) | (simp [toldM]; omega) | (simp_all [toldM]; omega)), t, v, rfl⟩, ci⟩)) | fail
        all_goals trivial
  by_cases h7 : i0 = 7
  case pos =>
    subst h7
    go_enter Tryz.func74, Tryz.ntmps74
    go_wp2_with fail
    have c1 : Below w.heap.size w (w.alloc (.cells #[.int .i64 7, .int .i64 i1, .int .i64 i2, .int .i64 i3, .int .i64 i4, .int .i64 i5, .int .i64 i6, .int .i64 i7, .int .i64 i8, .int .i64 i9, .int .i64 i10, .int .i64 i11, .slice ao0 L0.length ac0, .slice ao1 L1.length ac1, .int .i64 i12] 32)) := by go_grown
    exact ⟨rfl, .tuple #[], by simp [results, Tryz.results74, go_sem], Or.inl ⟨(by first | (simp [toldM]; done) | (simp_all [toldM]; done) | (simp [toldM]; omega) | (simp_all [toldM]; omega)), rfl⟩, c1⟩
  by_cases h8 : i0 = 8
  case pos =>
    subst h8
    go_enter Tryz.func74, Tryz.ntmps74
    go_wp2_with fail
    have a0_1 : (w.alloc (.cells #[.int .i64 8, .int .i64 i1, .int .i64 i2, .int .i64 i3, .int .i64 i4, .int .i64 i5, .int .i64 i6, .int .i64 i7, .int .i64 i8, .int .i64 i9, .int .i64 i10, .int .i64 i11, .slice ao0 L0.length ac0, .slice ao1 L1.length ac1, .int .i64 i12] 32)).cell? ⟨w.heap.size, 0, none⟩ = some (.int .i64 8) := by go_cell
    have a1_1 : (w.alloc (.cells #[.int .i64 8, .int .i64 i1, .int .i64 i2, .int .i64 i3, .int .i64 i4, .int .i64 i5, .int .i64 i6, .int .i64 i7, .int .i64 i8, .int .i64 i9, .int .i64 i10, .int .i64 i11, .slice ao0 L0.length ac0, .slice ao1 L1.length ac1, .int .i64 i12] 32)).cell? ⟨w.heap.size, 1, none⟩ = some (.int .i64 i1) := by go_cell
    have a2_1 : (w.alloc (.cells #[.int .i64 8, .int .i64 i1, .int .i64 i2, .int .i64 i3, .int .i64 i4, .int .i64 i5, .int .i64 i6, .int .i64 i7, .int .i64 i8, .int .i64 i9, .int .i64 i10, .int .i64 i11, .slice ao0 L0.length ac0, .slice ao1 L1.length ac1, .int .i64 i12] 32)).cell? ⟨w.heap.size, 2, none⟩ = some (.int .i64 i2) := by go_cell
    have a3_1 : (w.alloc (.cells #[.int .i64 8, .int .i64 i1, .int .i64 i2, .int .i64 i3, .int .i64 i4, .int .i64 i5, .int .i64 i6, .int .i64 i7, .int .i64 i8, .int .i64 i9, .int .i64 i10, .int .i64 i11, .slice ao0 L0.length ac0, .slice ao1 L1.length ac1, .int .i64 i12] 32)).cell? ⟨w.heap.size, 3, none⟩ = some (.int .i64 i3) := by go_cell
    have a4_1 : (w.alloc (.cells #[.int .i64 8, .int .i64 i1, .int .i64 i2, .int .i64 i3, .int .i64 i4, .int .i64 i5, .int .i64 i6, .int .i64 i7, .int .i64 i8, .int .i64 i9, .int .i64 i10, .int .i64 i11, .slice ao0 L0.length ac0, .slice ao1 L1.length ac1, .int .i64 i12] 32)).cell? ⟨w.heap.size, 4, none⟩ = some (.int .i64 i4) := by go_cell
    have a5_1 : (w.alloc (.cells #[.int .i64 8, .int .i64 i1, .int .i64 i2, .int .i64 i3, .int .i64 i4, .int .i64 i5, .int .i64 i6, .int .i64 i7, .int .i64 i8, .int .i64 i9, .int .i64 i10, .int .i64 i11, .slice ao0 L0.length ac0, .slice ao1 L1.length ac1, .int .i64 i12] 32)).cell? ⟨w.heap.size, 5, none⟩ = some (.int .i64 i5) := by go_cell
    have a6_1 : (w.alloc (.cells #[.int .i64 8, .int .i64 i1, .int .i64 i2, .int .i64 i3, .int .i64 i4, .int .i64 i5, .int .i64 i6, .int .i64 i7, .int .i64 i8, .int .i64 i9, .int .i64 i10, .int .i64 i11, .slice ao0 L0.length ac0, .slice ao1 L1.length ac1, .int .i64 i12] 32)).cell? ⟨w.heap.size, 6, none⟩ = some (.int .i64 i6) := by go_cell
    have a7_1 : (w.alloc (.cells #[.int .i64 8, .int .i64 i1, .int .i64 i2, .int .i64 i3, .int .i64 i4, .int .i64 i5, .int .i64 i6, .int .i64 i7, .int .i64 i8, .int .i64 i9, .int .i64 i10, .int .i64 i11, .slice ao0 L0.length ac0, .slice ao1 L1.length ac1, .int .i64 i12] 32)).cell? ⟨w.heap.size, 7, none⟩ = some (.int .i64 i7) := by go_cell
    have a8_1 : (w.alloc (.cells #[.int .i64 8, .int .i64 i1, .int .i64 i2, .int .i64 i3, .int .i64 i4, .int .i64 i5, .int .i64 i6, .int .i64 i7, .int .i64 i8, .int .i64 i9, .int .i64 i10, .int .i64 i11, .slice ao0 L0.length ac0, .slice ao1 L1.length ac1, .int .i64 i12] 32)).cell? ⟨w.heap.size, 8, none⟩ = some (.int .i64 i8) := by go_cell
    have a9_1 : (w.alloc (.cells #[.int .i64 8, .int .i64 i1, .int .i64 i2, .int .i64 i3, .int .i64 i4, .int .i64 i5, .int .i64 i6, .int .i64 i7, .int .i64 i8, .int .i64 i9, .int .i64 i10, .int .i64 i11, .slice ao0 L0.length ac0, .slice ao1 L1.length ac1, .int .i64 i12] 32)).cell? ⟨w.heap.size, 9, none⟩ = some (.int .i64 i9) := by go_cell
    have a10_1 : (w.alloc (.cells #[.int .i64 8, .int .i64 i1, .int .i64 i2, .int .i64 i3, .int .i64 i4, .int .i64 i5, .int .i64 i6, .int .i64 i7, .int .i64 i8, .int .i64 i9, .int .i64 i10, .int .i64 i11, .slice ao0 L0.length ac0, .slice ao1 L1.length ac1, .int .i64 i12] 32)).cell? ⟨w.heap.size, 10, none⟩ = some (.int .i64 i10) := by go_cell
    have a11_1 : (w.alloc (.cells #[.int .i64 8, .int .i64 i1, .int .i64 i2, .int .i64 i3, .int .i64 i4, .int .i64 i5, .int .i64 i6, .int .i64 i7, .int .i64 i8, .int .i64 i9, .int .i64 i10, .int .i64 i11, .slice ao0 L0.length ac0, .slice ao1 L1.length ac1, .int .i64 i12] 32)).cell? ⟨w.heap.size, 11, none⟩ = some (.int .i64 i11) := by go_cell
    have a12_1 : (w.alloc (.cells #[.int .i64 8, .int .i64 i1, .int .i64 i2, .int .i64 i3, .int .i64 i4, .int .i64 i5, .int .i64 i6, .int .i64 i7, .int .i64 i8, .int .i64 i9, .int .i64 i10, .int .i64 i11, .slice ao0 L0.length ac0, .slice ao1 L1.length ac1, .int .i64 i12] 32)).cell? ⟨w.heap.size, 12, none⟩ = some (.slice ao0 L0.length ac0) := by go_cell
    have a13_1 : (w.alloc (.cells #[.int .i64 8, .int .i64 i1, .int .i64 i2, .int .i64 i3, .int .i64 i4, .int .i64 i5, .int .i64 i6, .int .i64 i7, .int .i64 i8, .int .i64 i9, .int .i64 i10, .int .i64 i11, .slice ao0 L0.length ac0, .slice ao1 L1.length ac1, .int .i64 i12] 32)).cell? ⟨w.heap.size, 13, none⟩ = some (.slice ao1 L1.length ac1) := by go_cell
    have a14_1 : (w.alloc (.cells #[.int .i64 8, .int .i64 i1, .int .i64 i2, .int .i64 i3, .int .i64 i4, .int .i64 i5, .int .i64 i6, .int .i64 i7, .int .i64 i8, .int .i64 i9, .int .i64 i10, .int .i64 i11, .slice ao0 L0.length ac0, .slice ao1 L1.length ac1, .int .i64 i12] 32)).cell? ⟨w.heap.size, 14, none⟩ = some (.int .i64 i12) := by go_cell
    have al_1 : w.heap.size < (w.alloc (.cells #[.int .i64 8, .int .i64 i1, .int .i64 i2, .int .i64 i3, .int .i64 i4, .int .i64 i5, .int .i64 i6, .int .i64 i7, .int .i64 i8, .int .i64 i9, .int .i64 i10, .int .i64 i11, .slice ao0 L0.length ac0, .slice ao1 L1.length ac1, .int .i64 i12] 32)).heap.size := by first | (simp; done) | (simp; omega)
    have c1 : Below w.heap.size w (w.alloc (.cells #[.int .i64 8, .int .i64 i1, .int .i64 i2, .int .i64 i3, .int .i64 i4, .int .i64 i5, .int .i64 i6, .int .i64 i7, .int .i64 i8, .int .i64 i9, .int .i64 i10, .int .i64 i11, .slice ao0 L0.length ac0, .slice ao1 L1.length ac1, .int .i64 i12] 32)) := by go_grown
    have s1 : (w.alloc (.cells #[.int .i64 8, .int .i64 i1, .int .i64 i2, .int .i64 i3, .int .i64 i4, .int .i64 i5, .int .i64 i6, .int .i64 i7, .int .i64 i8, .int .i64 i9, .int .i64 i10, .int .i64 i11, .slice ao0 L0.length ac0, .slice ao1 L1.length ac1, .int .i64 i12] 32)).heap.size = w.heap.size + 1 := by simp
    generalize (w.alloc (.cells #[.int .i64 8, .int .i64 i1, .int .i64 i2, .int .i64 i3, .int .i64 i4, .int .i64 i5, .int .i64 i6, .int .i64 i7, .int .i64 i8, .int .i64 i9, .int .i64 i10, .int .i64 i11, .slice ao0 L0.length ac0, .slice ao1 L1.length ac1, .int .i64 i12] 32)) = w1 at a0_1 a1_1 a2_1 a3_1 a4_1 a5_1 a6_1 a7_1 a8_1 a9_1 a10_1 a11_1 a12_1 a13_1 a14_1 al_1 c1 s1 ⊢
    have qa0_1 := cell_regrown a0_1
    have qa1_1 := cell_regrown a1_1
    have qa2_1 := cell_regrown a2_1
    have qa3_1 := cell_regrown a3_1
    have qa4_1 := cell_regrown a4_1
    have qa5_1 := cell_regrown a5_1
    have qa6_1 := cell_regrown a6_1
    have qa7_1 := cell_regrown a7_1
    have qa8_1 := cell_regrown a8_1
    have qa9_1 := cell_regrown a9_1
    have qa10_1 := cell_regrown a10_1
    have qa11_1 := cell_regrown a11_1
    have qa12_1 := cell_regrown a12_1
    have qa13_1 := cell_regrown a13_1
    have qa14_1 := cell_regrown a14_1
    refine (floorsRight_any _ L1 _ (HA.out.h1.later c1)).mono ?_
    rintro e w2 ⟨rfl, b2⟩
    have c2 := c1.trans (b2.mono c1.size)
    cases hv : vsR L1 with
    | true =>
      go_wp2_with fail
      refine (need_yes _).mono ?_
      rintro e wz ⟨rfl, hz⟩
      obtain rfl := hz.symm
      clear hz
      go_wp2_with fail
      exact ⟨rfl, .tuple #[], by simp [results, Tryz.results74, go_sem], Or.inl ⟨(by first | (simp [toldM]; done) | (simp_all [toldM]; done) | (simp [toldM]; omega) | (simp_all [toldM]; omega)), rfl⟩, c2⟩
    | false =>
      go_wp2_with fail
      refine (need_no _ (HE.out.later c2)).mono ?_
      rintro e wz ⟨⟨t, v, rfl⟩, rfl⟩
      exact ⟨rfl, Or.inr ⟨(by first | (simp [toldM]; done) | (simp_all [toldM]; done) | (simp [toldM]; omega) | (simp_all [toldM]; omega)), t, v, rfl⟩, c2⟩
  by_cases h9 : i0 = 9
  case pos =>
    subst h9
    go_enter Tryz.func74, Tryz.ntmps74
    go_wp2_with fail
    have a0_1 : (w.alloc (.cells #[.int .i64 9, .int .i64 i1, .int .i64 i2, .int .i64 i3, .int .i64 i4, .int .i64 i5, .int .i64 i6, .int .i64 i7, .int .i64 i8, .int .i64 i9, .int .i64 i10, .int .i64 i11, .slice ao0 L0.length ac0, .slice ao1 L1.length ac1, .int .i64 i12] 32)).cell? ⟨w.heap.size, 0, none⟩ = some (.int .i64 9) := by go_cell
    have a1_1 : (w.alloc (.cells #[.int .i64 9, .int .i64 i1, .int .i64 i2, .int .i64 i3, .int .i64 i4, .int .i64 i5, .int .i64 i6, .int .i64 i7, .int .i64 i8, .int .i64 i9, .int .i64 i10, .int .i64 i11, .slice ao0 L0.length ac0, .slice ao1 L1.length ac1, .int .i64 i12] 32)).cell? ⟨w.heap.size, 1, none⟩ = some (.int .i64 i1) := by go_cell
    have a2_1 : (w.alloc (.cells #[.int .i64 9, .int .i64 i1, .int .i64 i2, .int .i64 i3, .int .i64 i4, .int .i64 i5, .int .i64 i6, .int .i64 i7, .int .i64 i8, .int .i64 i9, .int .i64 i10, .int .i64 i11, .slice ao0 L0.length ac0, .slice ao1 L1.length ac1, .int .i64 i12] 32)).cell? ⟨w.heap.size, 2, none⟩ = some (.int .i64 i2) := by go_cell
    have a3_1 : (w.alloc (.cells #[.int .i64 9, .int .i64 i1, .int .i64 i2, .int .i64 i3, .int .i64 i4, .int .i64 i5, .int .i64 i6, .int .i64 i7, .int .i64 i8, .int .i64 i9, .int .i64 i10, .int .i64 i11, .slice ao0 L0.length ac0, .slice ao1 L1.length ac1, .int .i64 i12] 32)).cell? ⟨w.heap.size, 3, none⟩ = some (.int .i64 i3) := by go_cell
    have a4_1 : (w.alloc (.cells #[.int .i64 9, .int .i64 i1, .int .i64 i2, .int .i64 i3, .int .i64 i4, .int .i64 i5, .int .i64 i6, .int .i64 i7, .int .i64 i8, .int .i64 i9, .int .i64 i10, .int .i64 i11, .slice ao0 L0.length ac0, .slice ao1 L1.length ac1, .int .i64 i12] 32)).cell? ⟨w.heap.size, 4, none⟩ = some (.int .i64 i4) := by go_cell
    have a5_1 : (w.alloc (.cells #[.int .i64 9, .int .i64 i1, .int .i64 i2, .int .i64 i3, .int .i64 i4, .int .i64 i5, .int .i64 i6, .int .i64 i7, .int .i64 i8, .int .i64 i9, .int .i64 i10, .int .i64 i11, .slice ao0 L0.length ac0, .slice ao1 L1.length ac1, .int .i64 i12] 32)).cell? ⟨w.heap.size, 5, none⟩ = some (.int .i64 i5) := by go_cell
    have a6_1 : (w.alloc (.cells #[.int .i64 9, .int .i64 i1, .int .i64 i2, .int .i64 i3, .int .i64 i4, .int .i64 i5, .int .i64 i6, .int .i64 i7, .int .i64 i8, .int .i64 i9, .int .i64 i10, .int .i64 i11, .slice ao0 L0.length ac0, .slice ao1 L1.length ac1, .int .i64 i12] 32)).cell? ⟨w.heap.size, 6, none⟩ = some (.int .i64 i6) := by go_cell
    have a7_1 : (w.alloc (.cells #[.int .i64 9, .int .i64 i1, .int .i64 i2, .int .i64 i3, .int .i64 i4, .int .i64 i5, .int .i64 i6, .int .i64 i7, .int .i64 i8, .int .i64 i9, .int .i64 i10, .int .i64 i11, .slice ao0 L0.length ac0, .slice ao1 L1.length ac1, .int .i64 i12] 32)).cell? ⟨w.heap.size, 7, none⟩ = some (.int .i64 i7) := by go_cell
    have a8_1 : (w.alloc (.cells #[.int .i64 9, .int .i64 i1, .int .i64 i2, .int .i64 i3, .int .i64 i4, .int .i64 i5, .int .i64 i6, .int .i64 i7, .int .i64 i8, .int .i64 i9, .int .i64 i10, .int .i64 i11, .slice ao0 L0.length ac0, .slice ao1 L1.length ac1, .int .i64 i12] 32)).cell? ⟨w.heap.size, 8, none⟩ = some (.int .i64 i8) := by go_cell
    have a9_1 : (w.alloc (.cells #[.int .i64 9, .int .i64 i1, .int .i64 i2, .int .i64 i3, .int .i64 i4, .int .i64 i5, .int .i64 i6, .int .i64 i7, .int .i64 i8, .int .i64 i9, .int .i64 i10, .int .i64 i11, .slice ao0 L0.length ac0, .slice ao1 L1.length ac1, .int .i64 i12] 32)).cell? ⟨w.heap.size, 9, none⟩ = some (.int .i64 i9) := by go_cell
    have a10_1 : (w.alloc (.cells #[.int .i64 9, .int .i64 i1, .int .i64 i2, .int .i64 i3, .int .i64 i4, .int .i64 i5, .int .i64 i6, .int .i64 i7, .int .i64 i8, .int .i64 i9, .int .i64 i10, .int .i64 i11, .slice ao0 L0.length ac0, .slice ao1 L1.length ac1, .int .i64 i12] 32)).cell? ⟨w.heap.size, 10, none⟩ = some (.int .i64 i10) := by go_cell
    have a11_1 : (w.alloc (.cells #[.int .i64 9, .int .i64 i1, .int .i64 i2, .int .i64 i3, .int .i64 i4, .int .i64 i5, .int .i64 i6, .int .i64 i7, .int .i64 i8, .int .i64 i9, .int .i64 i10, .int .i64 i11, .slice ao0 L0.length ac0, .slice ao1 L1.length ac1, .int .i64 i12] 32)).cell? ⟨w.heap.size, 11, none⟩ = some (.int .i64 i11) := by go_cell
    have a12_1 : (w.alloc (.cells #[.int .i64 9, .int .i64 i1, .int .i64 i2, .int .i64 i3, .int .i64 i4, .int .i64 i5, .int .i64 i6, .int .i64 i7, .int .i64 i8, .int .i64 i9, .int .i64 i10, .int .i64 i11, .slice ao0 L0.length ac0, .slice ao1 L1.length ac1, .int .i64 i12] 32)).cell? ⟨w.heap.size, 12, none⟩ = some (.slice ao0 L0.length ac0) := by go_cell
    have a13_1 : (w.alloc (.cells #[.int .i64 9, .int .i64 i1, .int .i64 i2, .int .i64 i3, .int .i64 i4, .int .i64 i5, .int .i64 i6, .int .i64 i7, .int .i64 i8, .int .i64 i9, .int .i64 i10, .int .i64 i11, .slice ao0 L0.length ac0, .slice ao1 L1.length ac1, .int .i64 i12] 32)).cell? ⟨w.heap.size, 13, none⟩ = some (.slice ao1 L1.length ac1) := by go_cell
    have a14_1 : (w.alloc (.cells #[.int .i64 9, .int .i64 i1, .int .i64 i2, .int .i64 i3, .int .i64 i4, .int .i64 i5, .int .i64 i6, .int .i64 i7, .int .i64 i8, .int .i64 i9, .int .i64 i10, .int .i64 i11, .slice ao0 L0.length ac0, .slice ao1 L1.length ac1, .int .i64 i12] 32)).cell? ⟨w.heap.size, 14, none⟩ = some (.int .i64 i12) := by go_cell
    have al_1 : w.heap.size < (w.alloc (.cells #[.int .i64 9, .int .i64 i1, .int .i64 i2, .int .i64 i3, .int .i64 i4, .int .i64 i5, .int .i64 i6, .int .i64 i7, .int .i64 i8, .int .i64 i9, .int .i64 i10, .int .i64 i11, .slice ao0 L0.length ac0, .slice ao1 L1.length ac1, .int .i64 i12] 32)).heap.size := by first | (simp; done) | (simp; omega)
    have c1 : Below w.heap.size w (w.alloc (.cells #[.int .i64 9, .int .i64 i1, .int .i64 i2, .int .i64 i3, .int .i64 i4, .int .i64 i5, .int .i64 i6, .int .i64 i7, .int .i64 i8, .int .i64 i9, .int .i64 i10, .int .i64 i11, .slice ao0 L0.length ac0, .slice ao1 L1.length ac1, .int .i64 i12] 32)) := by go_grown
    have s1 : (w.alloc (.cells #[.int .i64 9, .int .i64 i1, .int .i64 i2, .int .i64 i3, .int .i64 i4, .int .i64 i5, .int .i64 i6, .int .i64 i7, .int .i64 i8, .int .i64 i9, .int .i64 i10, .int .i64 i11, .slice ao0 L0.length ac0, .slice ao1 L1.length ac1, .int .i64 i12] 32)).heap.size = w.heap.size + 1 := by simp
    generalize (w.alloc (.cells #[.int .i64 9, .int .i64 i1, .int .i64 i2, .int .i64 i3, .int .i64 i4, .int .i64 i5, .int .i64 i6, .int .i64 i7, .int .i64 i8, .int .i64 i9, .int .i64 i10, .int .i64 i11, .slice ao0 L0.length ac0, .slice ao1 L1.length ac1, .int .i64 i12] 32)) = w1 at a0_1 a1_1 a2_1 a3_1 a4_1 a5_1 a6_1 a7_1 a8_1 a9_1 a10_1 a11_1 a12_1 a13_1 a14_1 al_1 c1 s1 ⊢
    have qa0_1 := cell_regrown a0_1
    have qa1_1 := cell_regrown a1_1
    have qa2_1 := cell_regrown a2_1
    have qa3_1 := cell_regrown a3_1
    have qa4_1 := cell_regrown a4_1
    have qa5_1 := cell_regrown a5_1
    have qa6_1 := cell_regrown a6_1
    have qa7_1 := cell_regrown a7_1
    have qa8_1 := cell_regrown a8_1
    have qa9_1 := cell_regrown a9_1
    have qa10_1 := cell_regrown a10_1
    have qa11_1 := cell_regrown a11_1
    have qa12_1 := cell_regrown a12_1
    have qa13_1 := cell_regrown a13_1
    have qa14_1 := cell_regrown a14_1
    by_cases hp : partOf (opOther i5 i6 i7 i8) = i2
    · have hb : (partOf (opOther i5 i6 i7 i8) == i2) = true := by simpa using hp
      first | go_region_with (first | (go_at_call 103; refine (implOther_any i5 i6 i7 i8 _).mono ?_; rintro e wi ⟨rfl, bi⟩; have di : Below w1.heap.size w1 wi := (Below.trans (by go_grown) (bi.mono (by first | omega | (simp; done) | (simp; omega)))); have ci : Below w.heap.size w wi := c1.trans (di.mono c1.size); have y2 : wi.cell? ⟨w.heap.size, 2, none⟩ = some (.int .i64 i2) := (by rw [bi.cell (by first | omega | (simp; done) | (simp; omega))]; go_cell); have y9 : wi.cell? ⟨w.heap.size, 9, none⟩ = some (.int .i64 i9) := (by rw [bi.cell (by first | omega | (simp; done) | (simp; omega))]; go_cell)) | (go_at_call 101; refine (implShard_any _ _).mono ?_; rintro e wk ⟨rfl, rfl⟩) | (go_at_call 65; refine (need_yes _).mono ?_; rintro e wz ⟨rfl, hz⟩; obtain rfl := hz.symm; clear hz)) | fail
      all_goals
        go_wp2_with fail
        exact ⟨rfl, .tuple #[], by simp [results, Tryz.results74, go_sem], Or.inl ⟨(by first | (simp [toldM]; done) | (simp_all [toldM]; done) | (simp [toldM]; omega) | (simp_all [toldM]; omega)), rfl⟩, ci⟩
    · have hb : (partOf (opOther i5 i6 i7 i8) == i2) = false := by simpa using hp
      first | go_region_with (first | (go_at_call 103; refine (implOther_any i5 i6 i7 i8 _).mono ?_; rintro e wi ⟨rfl, bi⟩; have di : Below w1.heap.size w1 wi := (Below.trans (by go_grown) (bi.mono (by first | omega | (simp; done) | (simp; omega)))); have ci : Below w.heap.size w wi := c1.trans (di.mono c1.size); have y2 : wi.cell? ⟨w.heap.size, 2, none⟩ = some (.int .i64 i2) := (by rw [bi.cell (by first | omega | (simp; done) | (simp; omega))]; go_cell); have y9 : wi.cell? ⟨w.heap.size, 9, none⟩ = some (.int .i64 i9) := (by rw [bi.cell (by first | omega | (simp; done) | (simp; omega))]; go_cell)) | (go_at_call 101; refine (implShard_any _ _).mono ?_; rintro e wk ⟨rfl, rfl⟩) | (go_at_call 65; refine (need_no _ (HE.out.later ci)).mono ?_; rintro e wz ⟨⟨t, v, rfl⟩, rfl⟩; refine (fun (_ : wpAny Tryz.prog (default : Region.Mode) #[] (fun _ _ _ => True) 0 #[] ({ tmps := #[], defers := [] } : Act) w) => ?_) ?_; · exact ⟨rfl, Or.inr ⟨(by first | (simp [toldM]; done) | (simp_all [toldM]; done) | (simp [toldM]; omega) | (simp_all [toldM]; omega)), t, v, rfl⟩, ci⟩)) | fail
      all_goals trivial
  by_cases h10 : i0 = 10
  case pos =>
    subst h10
    go_enter Tryz.func74, Tryz.ntmps74
    go_wp2_with fail
    have c1 : Below w.heap.size w (w.alloc (.cells #[.int .i64 10, .int .i64 i1, .int .i64 i2, .int .i64 i3, .int .i64 i4, .int .i64 i5, .int .i64 i6, .int .i64 i7, .int .i64 i8, .int .i64 i9, .int .i64 i10, .int .i64 i11, .slice ao0 L0.length ac0, .slice ao1 L1.length ac1, .int .i64 i12] 32)) := by go_grown
    exact ⟨rfl, .tuple #[], by simp [results, Tryz.results74, go_sem], Or.inl ⟨(by first | (simp [toldM]; done) | (simp_all [toldM]; done) | (simp [toldM]; omega) | (simp_all [toldM]; omega)), rfl⟩, c1⟩
  have g1 : (i0 == 1) = false := by simpa using h1
  have g2 : (i0 == 2) = false := by simpa using h2
  have g3 : (i0 == 3) = false := by simpa using h3
  have g4 : (i0 == 4) = false := by simpa using h4
  have g5 : (i0 == 5) = false := by simpa using h5
  have g6 : (i0 == 6) = false := by simpa using h6
  have g7 : (i0 == 7) = false := by simpa using h7
  have g8 : (i0 == 8) = false := by simpa using h8
  have g9 : (i0 == 9) = false := by simpa using h9
  have g10 : (i0 == 10) = false := by simpa using h10
  obtain ⟨⟨t, v, hcv⟩, hl⟩ := HE.out
  have hcv' : ∀ (cs : Array Value) (T : TypeId), (w.alloc (.cells cs T)).cell? ⟨1, 0, none⟩ = some (.iface t v) := fun cs T => (((Below.refl _ _).alloc (Nat.le_refl _) (.cells cs T)).cell (p := ⟨1, 0, none⟩) hl).trans hcv
  go_enter Tryz.func74, Tryz.ntmps74
  go_wp2
  exact ⟨rfl, Or.inr ⟨(by first | (simp [toldM]; done) | (simp_all [toldM]; done) | (simp [toldM]; omega) | (simp_all [toldM]; omega)), _, _, rfl⟩, by go_grown⟩

end Go.Proofs.YtfdcnolcjgjfjaaGreatDoor
