/- Proved here: FnExactCachePut returns true for every cache and every item (no condition); what it was handed reads as before. -/
import Derived.Test.YtnenlnadmdlcfaaRowCPutAll0
import Derived.Test.YtnenlnadmdlcfaaZItem
import Derived.Deep.Cut
import Derived.Test.YtnenlnadmdlcfaaPl
import Derived.ProofKit
import Derived.Lib.SmallJoins
import Derived.Test.YtnenlnadmdlcfaaFb
import Derived.Test.YtnenlnadmdlcfaaSCache
import Derived.Test.YtnenlnadmdlcfaaRows
import Derived.WalkKit
/- Part: The law FnExactCachePut: its walk. Written by a program (glcp.py). -/
namespace Go.Proofs.Ytnenlnadmdlcfaa
open Go.RowKit
attribute [local go_sem ↓] Go.wp_at_zero Go.wp_at_succ

set_option maxRecDepth 100000 in
set_option maxHeartbeats 16000000 in
theorem lawCPut_any (va0 va1 : Value) (A0 A1 : List KD) (k v n : Int) (u : Value) (l : List (Int × Int)) (w : World) (ha : RSCache w va0 va1 A0 A1) (hu : Rd w u l) :
    Calls Try.prog 6 #[.agg #[va0, va1], .agg #[.int .i64 k, .int .i64 v, .int .i64 n, u]] w fun e w' => e = .returned (.bool true) ∧ Below w.heap.size w w' := by
  have HA := hid ha
  have HU := hid hu
  have hM := ansP_small A0 A1 k v n l ha.h1
  obtain ⟨ao0, ao1, ac0, ac1, rfl, rfl⟩ := ha.open
  obtain ⟨uo, uc, rfl, hum, _⟩ := hu
  have SD := fun (v0 v1 u : Value) (W : World) (h0 : RdM 4 3 true W v0 A0) (h1 : RdM 1 1 false W v1 A1) (hu : Rd W u l) => specCPut_any v0 v1 A0 A1 k v n u l W h0 h1 hu rfl
  have ID := fun (v0 v1 u : Value) (W : World) (h0 : RdM 4 3 true W v0 A0) (h1 : RdM 1 1 false W v1 A1) (hu : Rd W u l) => implCPut_any v0 v1 A0 A1 k v n u l W h0 h1 hu rfl
  unfold EndP at SD
  generalize ansP A0 A1 k v n l = D at SD ID hM
  obtain ⟨⟨L0, L1⟩, c⟩ := D
  simp only at SD ID hM
  have HM := hid hM
  have hpL0 := cntM_pos 3 L0
  have hpL1 := cntM_pos 1 L1
  go_enter Try.func6, Try.ntmps6
  go_wp2_with fail
  have a0_1 : ((w.alloc (.cells #[.slice ao0 A0.length ac0, .slice ao1 A1.length ac1] 25)).alloc (.cells #[.int .i64 k, .int .i64 v, .int .i64 n, .slice uo l.length uc] 50)).cell? ⟨w.heap.size, 0, none⟩ = some (.slice ao0 A0.length ac0) := by go_cell
  have a1_1 : ((w.alloc (.cells #[.slice ao0 A0.length ac0, .slice ao1 A1.length ac1] 25)).alloc (.cells #[.int .i64 k, .int .i64 v, .int .i64 n, .slice uo l.length uc] 50)).cell? ⟨w.heap.size, 1, none⟩ = some (.slice ao1 A1.length ac1) := by go_cell
  have al_1 : w.heap.size < ((w.alloc (.cells #[.slice ao0 A0.length ac0, .slice ao1 A1.length ac1] 25)).alloc (.cells #[.int .i64 k, .int .i64 v, .int .i64 n, .slice uo l.length uc] 50)).heap.size := by first | (simp; done) | (simp; omega)
  have b0_1 : ((w.alloc (.cells #[.slice ao0 A0.length ac0, .slice ao1 A1.length ac1] 25)).alloc (.cells #[.int .i64 k, .int .i64 v, .int .i64 n, .slice uo l.length uc] 50)).cell? ⟨w.heap.size + 1, 0, none⟩ = some (.int .i64 k) := by go_cell
  have b1_1 : ((w.alloc (.cells #[.slice ao0 A0.length ac0, .slice ao1 A1.length ac1] 25)).alloc (.cells #[.int .i64 k, .int .i64 v, .int .i64 n, .slice uo l.length uc] 50)).cell? ⟨w.heap.size + 1, 1, none⟩ = some (.int .i64 v) := by go_cell
  have b2_1 : ((w.alloc (.cells #[.slice ao0 A0.length ac0, .slice ao1 A1.length ac1] 25)).alloc (.cells #[.int .i64 k, .int .i64 v, .int .i64 n, .slice uo l.length uc] 50)).cell? ⟨w.heap.size + 1, 2, none⟩ = some (.int .i64 n) := by go_cell
  have b3_1 : ((w.alloc (.cells #[.slice ao0 A0.length ac0, .slice ao1 A1.length ac1] 25)).alloc (.cells #[.int .i64 k, .int .i64 v, .int .i64 n, .slice uo l.length uc] 50)).cell? ⟨w.heap.size + 1, 3, none⟩ = some (.slice uo l.length uc) := by go_cell
  have bl_1 : w.heap.size + 1 < ((w.alloc (.cells #[.slice ao0 A0.length ac0, .slice ao1 A1.length ac1] 25)).alloc (.cells #[.int .i64 k, .int .i64 v, .int .i64 n, .slice uo l.length uc] 50)).heap.size := by first | (simp; done) | (simp; omega)
  have c1 : Below w.heap.size w ((w.alloc (.cells #[.slice ao0 A0.length ac0, .slice ao1 A1.length ac1] 25)).alloc (.cells #[.int .i64 k, .int .i64 v, .int .i64 n, .slice uo l.length uc] 50)) := by go_grown
  have s1 : ((w.alloc (.cells #[.slice ao0 A0.length ac0, .slice ao1 A1.length ac1] 25)).alloc (.cells #[.int .i64 k, .int .i64 v, .int .i64 n, .slice uo l.length uc] 50)).heap.size = w.heap.size + 2 := by simp
  generalize ((w.alloc (.cells #[.slice ao0 A0.length ac0, .slice ao1 A1.length ac1] 25)).alloc (.cells #[.int .i64 k, .int .i64 v, .int .i64 n, .slice uo l.length uc] 50)) = w1 at a0_1 a1_1 al_1 b0_1 b1_1 b2_1 b3_1 bl_1 c1 s1 ⊢
  have qa0_1 := cell_regrown a0_1
  have qa1_1 := cell_regrown a1_1
  have qb0_1 := cell_regrown b0_1
  have qb1_1 := cell_regrown b1_1
  have qb2_1 := cell_regrown b2_1
  have qb3_1 := cell_regrown b3_1
  refine (szCache_rd _ _ A0 A1 _ _ (HA.out.later c1) (by omega) (by omega)).mono ?_
  rintro e w2 ⟨hs, b2⟩
  have d2 : Below w1.heap.size w1 w2 := (Below.trans (by go_grown) (b2.mono (by first | omega | (simp; done) | (simp; omega))))
  have c2 : Below w.heap.size w w2 := c1.trans (d2.mono c1.size)
  have a0_2 : w2.cell? ⟨w.heap.size, 0, none⟩ = some (.slice ao0 A0.length ac0) := (by rw [b2.cell (by first | omega | (simp; done) | (simp; omega))]; go_cell)
  have a1_2 : w2.cell? ⟨w.heap.size, 1, none⟩ = some (.slice ao1 A1.length ac1) := (by rw [b2.cell (by first | omega | (simp; done) | (simp; omega))]; go_cell)
  have al_2 : w.heap.size < w2.heap.size := (by have := b2.size; first | omega | (revert this; simp; done) | (revert this; simp; omega))
  have b0_2 : w2.cell? ⟨w.heap.size + 1, 0, none⟩ = some (.int .i64 k) := (by rw [b2.cell (by first | omega | (simp; done) | (simp; omega))]; go_cell)
  have b1_2 : w2.cell? ⟨w.heap.size + 1, 1, none⟩ = some (.int .i64 v) := (by rw [b2.cell (by first | omega | (simp; done) | (simp; omega))]; go_cell)
  have b2_2 : w2.cell? ⟨w.heap.size + 1, 2, none⟩ = some (.int .i64 n) := (by rw [b2.cell (by first | omega | (simp; done) | (simp; omega))]; go_cell)
  have b3_2 : w2.cell? ⟨w.heap.size + 1, 3, none⟩ = some (.slice uo l.length uc) := (by rw [b2.cell (by first | omega | (simp; done) | (simp; omega))]; go_cell)
  have bl_2 : w.heap.size + 1 < w2.heap.size := (by have := b2.size; first | omega | (revert this; simp; done) | (revert this; simp; omega))
  clear a0_1 a1_1 al_1 b0_1 b1_1 b2_1 b3_1 bl_1
  clear b2 d2
  rcases hs with ⟨r, rfl, hr0, hr1, hA⟩ | rfl
  · have HLA := hid hA
    have hr2 : ¬ (r < 0) := by omega
    have hb0 := hA A0 (by simp)
    have hb1 := hA A1 (by simp)
    have hk0 : ∀ i, i < A0.length → (A0.getD i kd0).2.length ≤ 1048576 := fun i hi => by have := bulkM_get A0 i hi; omega
    have hc0 := cntM_bulk 3 A0
    have hc1 := cntM_bulk 1 A1
    have hp0 := cntM_pos 3 A0
    have hp1 := cntM_pos 1 A1
    have HN := hid (show 1 + cntM 3 A0 + cntM 1 A1 ≤ 1099511000000 from by omega)
    have HK0 := hid hk0
    have HC := hid (And.intro hb0 hb1)
    have HP := hid (And.intro hp0 hp1)
    have HPL := hid (And.intro hpL0 hpL1)
    clear hA hb0 hb1 hk0 hc0 hc1 hp0 hp1 hpL0 hpL1 hM
    go_wp2_with fail
    refine (szItem_two k v n _ l r _ (HU.out.later c2) hr0 (by omega)).mono ?_
    rintro e w3 ⟨⟨r', rfl, hs⟩, b3⟩
    have d3 : Below w2.heap.size w2 w3 := (Below.trans (by go_grown) (b3.mono (by first | omega | (simp; done) | (simp; omega))))
    have c3 : Below w.heap.size w w3 := c2.trans (d3.mono c2.size)
    have a0_3 : w3.cell? ⟨w.heap.size, 0, none⟩ = some (.slice ao0 A0.length ac0) := (by rw [b3.cell (by first | omega | (simp; done) | (simp; omega))]; go_cell)
    have a1_3 : w3.cell? ⟨w.heap.size, 1, none⟩ = some (.slice ao1 A1.length ac1) := (by rw [b3.cell (by first | omega | (simp; done) | (simp; omega))]; go_cell)
    have al_3 : w.heap.size < w3.heap.size := (by have := b3.size; first | omega | (revert this; simp; done) | (revert this; simp; omega))
    have b0_3 : w3.cell? ⟨w.heap.size + 1, 0, none⟩ = some (.int .i64 k) := (by rw [b3.cell (by first | omega | (simp; done) | (simp; omega))]; go_cell)
    have b1_3 : w3.cell? ⟨w.heap.size + 1, 1, none⟩ = some (.int .i64 v) := (by rw [b3.cell (by first | omega | (simp; done) | (simp; omega))]; go_cell)
    have b2_3 : w3.cell? ⟨w.heap.size + 1, 2, none⟩ = some (.int .i64 n) := (by rw [b3.cell (by first | omega | (simp; done) | (simp; omega))]; go_cell)
    have b3_3 : w3.cell? ⟨w.heap.size + 1, 3, none⟩ = some (.slice uo l.length uc) := (by rw [b3.cell (by first | omega | (simp; done) | (simp; omega))]; go_cell)
    have bl_3 : w.heap.size + 1 < w3.heap.size := (by have := b3.size; first | omega | (revert this; simp; done) | (revert this; simp; omega))
    clear a0_2 a1_2 al_2 b0_2 b1_2 b2_2 b3_2 bl_2
    clear b3 d3
    rcases hs.out with ⟨_, hr'⟩ | ⟨hrm, _⟩
    · have hr2' : ¬ (r' < 0) := by omega
      have hul : l.length ≤ 1048576 := by have := hs.out; omega
      have HUL := hid hul
      clear hs hr0 hr1 hr'
      go_upto_region 8 with fail
      go_cut [6, 7] from 28 (fun s1 s2 wx => CutS w3 L0 L1 c s1 s2 wx)
      case first =>
        go_region_with (first
          | (go_at_call 9; refine (toCache_rd (.slice ao0 A0.length ac0) (.slice ao1 A1.length ac1) A0 A1 _ (HA.out.later (Below.trans c3 (Below.mono (by go_grown) c3.size))) HLA.out).mono ?_; rintro e w50 ⟨⟨zo0, zo1, zc0, zc1, rfl, oa⟩, b50⟩; (first | with_reducible have V50 := VarC.drawn b50 | skip); have d50 : Below w3.heap.size w3 w50 := (Below.trans (by go_grown) (b50.mono (by first | omega | (simp; done) | (simp; omega)))); have c50 : Below w.heap.size w w50 := c3.trans (d50.mono c3.size); have b0_50 : w50.cell? ⟨w.heap.size + 1, 0, none⟩ = some (.int .i64 k) := (by rw [b50.cell (by first | omega | (simp; done) | (simp; omega))]; go_cell); have b1_50 : w50.cell? ⟨w.heap.size + 1, 1, none⟩ = some (.int .i64 v) := (by rw [b50.cell (by first | omega | (simp; done) | (simp; omega))]; go_cell); have b2_50 : w50.cell? ⟨w.heap.size + 1, 2, none⟩ = some (.int .i64 n) := (by rw [b50.cell (by first | omega | (simp; done) | (simp; omega))]; go_cell); have b3_50 : w50.cell? ⟨w.heap.size + 1, 3, none⟩ = some (.slice uo l.length uc) := (by rw [b50.cell (by first | omega | (simp; done) | (simp; omega))]; go_cell); have bl_50 : w.heap.size + 1 < w50.heap.size := (by have := b50.size; first | omega | (revert this; simp; done) | (revert this; simp; omega)); clear b0_3 b1_3 b2_3 b3_3 bl_3; have R50 := hid oa; clear oa)
          | (go_at_call 23; refine (toItem_any k v n _ l _ (HU.out.later (Below.trans c50 (Below.mono (by go_grown) c50.size))) hul).mono ?_; rintro e w51 ⟨yv, rfl, hoy, b51⟩; (first | with_reducible have V51 := VarC.past b51 | skip); have RI51 := hid hoy.rd; obtain ⟨yo, yc, hyv, _⟩ := hoy.rd; subst hyv; have d51 : Below w50.heap.size w50 w51 := (Below.trans (by go_grown) (b51.mono (by first | omega | (simp; done) | (simp; omega)))); have c51 : Below w.heap.size w w51 := c50.trans (d51.mono c50.size); (first | with_reducible have V51 := VarC.later V50 d51 | skip); have R51 := hid (R50.out.later d51); clear hoy)
          | (go_at_call 22; refine (SD _ _ _ _ (R51.out.later (by go_grown)).h0 (R51.out.later (by go_grown)).h1 (RI51.out.later (by go_grown))).mono ?_; rintro e w52 ⟨⟨so0v, so1v, rfl, hap⟩, b52⟩; (first | (with_reducible have V52 := VarC.past b52; have y0 := V52.c0; have y1 := V52.c1; have y2 := V52.f0; have y3 := V52.f1; have y4 := V52.lt) | skip); have d52 : Below w51.heap.size w51 w52 := (Below.trans (by go_grown) (b52.mono (by first | omega | (simp; done) | (simp; omega)))); have c52 : Below w.heap.size w w52 := c51.trans (d52.mono c51.size); (first | (with_reducible have V52 := VarC.later V51 d52; have y0 := V52.c0; have y1 := V52.c1; have y2 := V52.f0; have y3 := V52.f1; have y4 := V52.lt) | skip); obtain ⟨po0, po1, pc0, pc1, hv0, hv1⟩ := hap.self.open; subst hv0 hv1; have AP52 := hid hap; clear hap))
        all_goals
          go_wp2_with fail
          go_meet
          have e52 := (d50.trans (d51.mono d50.size)).trans (d52.mono (Nat.le_trans d50.size d51.size))
          have t50 := d50.size
          have t51 := d51.size
          try have q51 := V51.lt
          try have q50 := V50.lt
          first
            | (with_reducible exact CutS.of_new AP52.out e52)
            | (with_reducible refine CutS.of_set V52 AP52.out e52 ?_ ?_ <;> first | omega | (simp; done) | (simp; omega) | trace_state)
      case rest =>
        obtain ⟨Bs, so0, so1, sc0, sc1, rfl, rfl, hs0, hs1, q0, q1, hrd, b4⟩ := hcut
        obtain ⟨w4, hw4⟩ : ∃ y, y = wc := ⟨_, rfl⟩
        subst hw4
        have d4 : Below w3.heap.size w3 w4 := (Below.trans (by go_grown) (b4.mono (by first | omega | (simp; done) | (simp; omega))))
        have c4 : Below w.heap.size w w4 := c3.trans (d4.mono c3.size)
        have a0_4 : w4.cell? ⟨w.heap.size, 0, none⟩ = some (.slice ao0 A0.length ac0) := (by rw [b4.cell (by first | omega | (simp; done) | (simp; omega))]; go_cell)
        have a1_4 : w4.cell? ⟨w.heap.size, 1, none⟩ = some (.slice ao1 A1.length ac1) := (by rw [b4.cell (by first | omega | (simp; done) | (simp; omega))]; go_cell)
        have al_4 : w.heap.size < w4.heap.size := (by have := b4.size; first | omega | (revert this; simp; done) | (revert this; simp; omega))
        have b0_4 : w4.cell? ⟨w.heap.size + 1, 0, none⟩ = some (.int .i64 k) := (by rw [b4.cell (by first | omega | (simp; done) | (simp; omega))]; go_cell)
        have b1_4 : w4.cell? ⟨w.heap.size + 1, 1, none⟩ = some (.int .i64 v) := (by rw [b4.cell (by first | omega | (simp; done) | (simp; omega))]; go_cell)
        have b2_4 : w4.cell? ⟨w.heap.size + 1, 2, none⟩ = some (.int .i64 n) := (by rw [b4.cell (by first | omega | (simp; done) | (simp; omega))]; go_cell)
        have b3_4 : w4.cell? ⟨w.heap.size + 1, 3, none⟩ = some (.slice uo l.length uc) := (by rw [b4.cell (by first | omega | (simp; done) | (simp; omega))]; go_cell)
        have bl_4 : w.heap.size + 1 < w4.heap.size := (by have := b4.size; first | omega | (revert this; simp; done) | (revert this; simp; omega))
        clear a0_3 a1_3 al_3 b0_3 b1_3 b2_3 b3_3 bl_3
        clear d4  
        have s0_4 := q0
        have s1_4 := q1
        have sl_4 := hs1
        have RS_4 := hid hrd
        clear q0 q1 hs1 hrd b4
        have HRS := hid RS_4.out
        have E5_4 := Below.refl w4.heap.size w4
        have HSL := hid sl_4
        have HAL := hid bl_4
        have HS0 := hid hs0
        go_wp2_with fail
        refine (toCache_own _ _ A0 A1 _ (HA.out.later c4).h0 (HA.out.later c4).h1 (by have := HC.out.1; omega) (by have := HC.out.2; omega) HK0.out).mono ?_
        rintro e w5 ⟨⟨xv0, xv1, B1, rfl, ox0, ox1, hB1, hB2⟩, b5⟩
        obtain ⟨xo0, xc0, hv0, _⟩ := ox0.rd'
        obtain ⟨xo1, xc1, hv1, _⟩ := ox1.rd'
        subst hv0 hv1
        have OX0_5 := hid ox0
        have OX1_5 := hid ox1
        have HB := hid (And.intro hB1 hB2)
        clear ox0 ox1 hB1 hB2
        have d5 : Below w4.heap.size w4 w5 := (Below.trans (by go_grown) (b5.mono (by first | omega | (simp; done) | (simp; omega))))
        have c5 : Below w.heap.size w w5 := c4.trans (d5.mono c4.size)
        have a0_5 : w5.cell? ⟨w.heap.size, 0, none⟩ = some (.slice ao0 A0.length ac0) := (by rw [b5.cell (by first | omega | (simp; done) | (simp; omega))]; go_cell)
        have a1_5 : w5.cell? ⟨w.heap.size, 1, none⟩ = some (.slice ao1 A1.length ac1) := (by rw [b5.cell (by first | omega | (simp; done) | (simp; omega))]; go_cell)
        have al_5 : w.heap.size < w5.heap.size := (by have := b5.size; first | omega | (revert this; simp; done) | (revert this; simp; omega))
        have b0_5 : w5.cell? ⟨w.heap.size + 1, 0, none⟩ = some (.int .i64 k) := (by rw [b5.cell (by first | omega | (simp; done) | (simp; omega))]; go_cell)
        have b1_5 : w5.cell? ⟨w.heap.size + 1, 1, none⟩ = some (.int .i64 v) := (by rw [b5.cell (by first | omega | (simp; done) | (simp; omega))]; go_cell)
        have b2_5 : w5.cell? ⟨w.heap.size + 1, 2, none⟩ = some (.int .i64 n) := (by rw [b5.cell (by first | omega | (simp; done) | (simp; omega))]; go_cell)
        have b3_5 : w5.cell? ⟨w.heap.size + 1, 3, none⟩ = some (.slice uo l.length uc) := (by rw [b5.cell (by first | omega | (simp; done) | (simp; omega))]; go_cell)
        have bl_5 : w.heap.size + 1 < w5.heap.size := (by have := b5.size; first | omega | (revert this; simp; done) | (revert this; simp; omega))
        have s0_5 : w5.cell? ⟨Bs, 0, none⟩ = some (.slice so0 L0.length sc0) := (by rw [b5.cell (by first | omega | (simp; done) | (simp; omega))]; go_cell)
        have s1_5 : w5.cell? ⟨Bs, 1, none⟩ = some (.slice so1 L1.length sc1) := (by rw [b5.cell (by first | omega | (simp; done) | (simp; omega))]; go_cell)
        have sl_5 : Bs < w5.heap.size := (by have := b5.size; first | omega | (revert this; simp; done) | (revert this; simp; omega))
        clear a0_4 a1_4 al_4 b0_4 b1_4 b2_4 b3_4 bl_4 s0_4 s1_4 sl_4
        have RS_5 := hid (RS_4.out.later d5)
        have E5_5 : Below w4.heap.size w4 w5 := E5_4.trans (d5.mono E5_4.size)
        clear d5 RS_4 E5_4
        clear b5
        go_wp2_with fail
        have x0_6 : (w5.alloc (.cells #[.slice xo0 A0.length xc0, .slice xo1 A1.length xc1] 36)).cell? ⟨w5.heap.size, 0, none⟩ = some (.slice xo0 A0.length xc0) := by go_cell
        have x1_6 : (w5.alloc (.cells #[.slice xo0 A0.length xc0, .slice xo1 A1.length xc1] 36)).cell? ⟨w5.heap.size, 1, none⟩ = some (.slice xo1 A1.length xc1) := by go_cell
        have xl_6 : w5.heap.size < (w5.alloc (.cells #[.slice xo0 A0.length xc0, .slice xo1 A1.length xc1] 36)).heap.size := by simp
        have d6 : Below w5.heap.size w5 (w5.alloc (.cells #[.slice xo0 A0.length xc0, .slice xo1 A1.length xc1] 36)) := by go_grown
        generalize (w5.alloc (.cells #[.slice xo0 A0.length xc0, .slice xo1 A1.length xc1] 36)) = w6 at x0_6 x1_6 xl_6 d6 ⊢
        have c6 : Below w.heap.size w w6 := c5.trans (d6.mono c5.size)
        have a0_6 : w6.cell? ⟨w.heap.size, 0, none⟩ = some (.slice ao0 A0.length ac0) := (by rw [d6.cell (by first | omega | (simp; done) | (simp; omega))]; go_cell)
        have a1_6 : w6.cell? ⟨w.heap.size, 1, none⟩ = some (.slice ao1 A1.length ac1) := (by rw [d6.cell (by first | omega | (simp; done) | (simp; omega))]; go_cell)
        have al_6 : w.heap.size < w6.heap.size := (by have := d6.size; omega)
        have b0_6 : w6.cell? ⟨w.heap.size + 1, 0, none⟩ = some (.int .i64 k) := (by rw [d6.cell (by first | omega | (simp; done) | (simp; omega))]; go_cell)
        have b1_6 : w6.cell? ⟨w.heap.size + 1, 1, none⟩ = some (.int .i64 v) := (by rw [d6.cell (by first | omega | (simp; done) | (simp; omega))]; go_cell)
        have b2_6 : w6.cell? ⟨w.heap.size + 1, 2, none⟩ = some (.int .i64 n) := (by rw [d6.cell (by first | omega | (simp; done) | (simp; omega))]; go_cell)
        have b3_6 : w6.cell? ⟨w.heap.size + 1, 3, none⟩ = some (.slice uo l.length uc) := (by rw [d6.cell (by first | omega | (simp; done) | (simp; omega))]; go_cell)
        have bl_6 : w.heap.size + 1 < w6.heap.size := (by have := d6.size; omega)
        have s0_6 : w6.cell? ⟨Bs, 0, none⟩ = some (.slice so0 L0.length sc0) := (by rw [d6.cell (by first | omega | (simp; done) | (simp; omega))]; go_cell)
        have s1_6 : w6.cell? ⟨Bs, 1, none⟩ = some (.slice so1 L1.length sc1) := (by rw [d6.cell (by first | omega | (simp; done) | (simp; omega))]; go_cell)
        have sl_6 : Bs < w6.heap.size := (by have := d6.size; omega)
        clear a0_5 a1_5 al_5 b0_5 b1_5 b2_5 b3_5 bl_5 s0_5 s1_5 sl_5
        have RS_6 := hid (RS_5.out.later d6)
        have OX0_6 := hid (OX0_5.out.later d6)
        have OX1_6 := hid (OX1_5.out.later d6)
        have E5_6 : Below w4.heap.size w4 w6 := E5_5.trans (d6.mono E5_5.size)
        clear d6 RS_5 OX0_5 OX1_5 E5_5
        have HX7 := hid xl_6
        have HS67 := hid (show w5.heap.size ≤ w6.heap.size from by have := xl_6; omega)
        go_wp2_with fail
        refine (toItem_any k v n _ l _ (HU.out.later c6) HUL.out).mono ?_
        rintro e w7 ⟨yv, rfl, hoy, b7⟩
        obtain ⟨yo, yc, hyv, _⟩ := hoy.rd
        subst hyv
        have OY_7 : Hid (OwnB w7 w6.heap.size (.slice yo l.length yc) l) := hid ⟨hoy⟩
        clear hoy
        have d7 : Below w6.heap.size w6 w7 := (Below.trans (by go_grown) (b7.mono (by first | omega | (simp; done) | (simp; omega))))
        have c7 : Below w.heap.size w w7 := c6.trans (d7.mono c6.size)
        have a0_7 : w7.cell? ⟨w.heap.size, 0, none⟩ = some (.slice ao0 A0.length ac0) := (by rw [b7.cell (by first | omega | (simp; done) | (simp; omega))]; go_cell)
        have a1_7 : w7.cell? ⟨w.heap.size, 1, none⟩ = some (.slice ao1 A1.length ac1) := (by rw [b7.cell (by first | omega | (simp; done) | (simp; omega))]; go_cell)
        have al_7 : w.heap.size < w7.heap.size := (by have := b7.size; first | omega | (revert this; simp; done) | (revert this; simp; omega))
        have b0_7 : w7.cell? ⟨w.heap.size + 1, 0, none⟩ = some (.int .i64 k) := (by rw [b7.cell (by first | omega | (simp; done) | (simp; omega))]; go_cell)
        have b1_7 : w7.cell? ⟨w.heap.size + 1, 1, none⟩ = some (.int .i64 v) := (by rw [b7.cell (by first | omega | (simp; done) | (simp; omega))]; go_cell)
        have b2_7 : w7.cell? ⟨w.heap.size + 1, 2, none⟩ = some (.int .i64 n) := (by rw [b7.cell (by first | omega | (simp; done) | (simp; omega))]; go_cell)
        have b3_7 : w7.cell? ⟨w.heap.size + 1, 3, none⟩ = some (.slice uo l.length uc) := (by rw [b7.cell (by first | omega | (simp; done) | (simp; omega))]; go_cell)
        have bl_7 : w.heap.size + 1 < w7.heap.size := (by have := b7.size; first | omega | (revert this; simp; done) | (revert this; simp; omega))
        have s0_7 : w7.cell? ⟨Bs, 0, none⟩ = some (.slice so0 L0.length sc0) := (by rw [b7.cell (by first | omega | (simp; done) | (simp; omega))]; go_cell)
        have s1_7 : w7.cell? ⟨Bs, 1, none⟩ = some (.slice so1 L1.length sc1) := (by rw [b7.cell (by first | omega | (simp; done) | (simp; omega))]; go_cell)
        have sl_7 : Bs < w7.heap.size := (by have := b7.size; first | omega | (revert this; simp; done) | (revert this; simp; omega))
        have x0_7 : w7.cell? ⟨w5.heap.size, 0, none⟩ = some (.slice xo0 A0.length xc0) := (by rw [b7.cell (by first | omega | (simp; done) | (simp; omega))]; go_cell)
        have x1_7 : w7.cell? ⟨w5.heap.size, 1, none⟩ = some (.slice xo1 A1.length xc1) := (by rw [b7.cell (by first | omega | (simp; done) | (simp; omega))]; go_cell)
        have xl_7 : w5.heap.size < w7.heap.size := (by have := b7.size; first | omega | (revert this; simp; done) | (revert this; simp; omega))
        clear a0_6 a1_6 al_6 b0_6 b1_6 b2_6 b3_6 bl_6 s0_6 s1_6 sl_6 x0_6 x1_6 xl_6
        have RS_7 := hid (RS_6.out.later d7)
        have HS78 := hid d7.size
        have OX0_7 := hid (OX0_6.out.later d7)
        have OX1_7 := hid (OX1_6.out.later d7)
        have E5_7 : Below w4.heap.size w4 w7 := E5_6.trans (d7.mono E5_6.size)
        clear d7 RS_6 OX0_6 OX1_6 E5_6
        clear b7
        have HYB := hid (OY_7.out.1.block)
        go_wp2_with fail
        have y0_8 : (w7.alloc (.cells #[.int .i64 k, .int .i64 v, .int .i64 n, .slice yo l.length yc] 31)).cell? ⟨w7.heap.size, 0, none⟩ = some (.int .i64 k) := by go_cell
        have y1_8 : (w7.alloc (.cells #[.int .i64 k, .int .i64 v, .int .i64 n, .slice yo l.length yc] 31)).cell? ⟨w7.heap.size, 1, none⟩ = some (.int .i64 v) := by go_cell
        have y2_8 : (w7.alloc (.cells #[.int .i64 k, .int .i64 v, .int .i64 n, .slice yo l.length yc] 31)).cell? ⟨w7.heap.size, 2, none⟩ = some (.int .i64 n) := by go_cell
        have y3_8 : (w7.alloc (.cells #[.int .i64 k, .int .i64 v, .int .i64 n, .slice yo l.length yc] 31)).cell? ⟨w7.heap.size, 3, none⟩ = some (.slice yo l.length yc) := by go_cell
        have yl_8 : w7.heap.size < (w7.alloc (.cells #[.int .i64 k, .int .i64 v, .int .i64 n, .slice yo l.length yc] 31)).heap.size := by simp
        have d8 : Below w7.heap.size w7 (w7.alloc (.cells #[.int .i64 k, .int .i64 v, .int .i64 n, .slice yo l.length yc] 31)) := by go_grown
        generalize (w7.alloc (.cells #[.int .i64 k, .int .i64 v, .int .i64 n, .slice yo l.length yc] 31)) = w8 at y0_8 y1_8 y2_8 y3_8 yl_8 d8 ⊢
        have c8 : Below w.heap.size w w8 := c7.trans (d8.mono c7.size)
        have a0_8 : w8.cell? ⟨w.heap.size, 0, none⟩ = some (.slice ao0 A0.length ac0) := (by rw [d8.cell (by first | omega | (simp; done) | (simp; omega))]; go_cell)
        have a1_8 : w8.cell? ⟨w.heap.size, 1, none⟩ = some (.slice ao1 A1.length ac1) := (by rw [d8.cell (by first | omega | (simp; done) | (simp; omega))]; go_cell)
        have al_8 : w.heap.size < w8.heap.size := (by have := d8.size; omega)
        have b0_8 : w8.cell? ⟨w.heap.size + 1, 0, none⟩ = some (.int .i64 k) := (by rw [d8.cell (by first | omega | (simp; done) | (simp; omega))]; go_cell)
        have b1_8 : w8.cell? ⟨w.heap.size + 1, 1, none⟩ = some (.int .i64 v) := (by rw [d8.cell (by first | omega | (simp; done) | (simp; omega))]; go_cell)
        have b2_8 : w8.cell? ⟨w.heap.size + 1, 2, none⟩ = some (.int .i64 n) := (by rw [d8.cell (by first | omega | (simp; done) | (simp; omega))]; go_cell)
        have b3_8 : w8.cell? ⟨w.heap.size + 1, 3, none⟩ = some (.slice uo l.length uc) := (by rw [d8.cell (by first | omega | (simp; done) | (simp; omega))]; go_cell)
        have bl_8 : w.heap.size + 1 < w8.heap.size := (by have := d8.size; omega)
        have s0_8 : w8.cell? ⟨Bs, 0, none⟩ = some (.slice so0 L0.length sc0) := (by rw [d8.cell (by first | omega | (simp; done) | (simp; omega))]; go_cell)
        have s1_8 : w8.cell? ⟨Bs, 1, none⟩ = some (.slice so1 L1.length sc1) := (by rw [d8.cell (by first | omega | (simp; done) | (simp; omega))]; go_cell)
        have sl_8 : Bs < w8.heap.size := (by have := d8.size; omega)
        have x0_8 : w8.cell? ⟨w5.heap.size, 0, none⟩ = some (.slice xo0 A0.length xc0) := (by rw [d8.cell (by first | omega | (simp; done) | (simp; omega))]; go_cell)
        have x1_8 : w8.cell? ⟨w5.heap.size, 1, none⟩ = some (.slice xo1 A1.length xc1) := (by rw [d8.cell (by first | omega | (simp; done) | (simp; omega))]; go_cell)
        have xl_8 : w5.heap.size < w8.heap.size := (by have := d8.size; omega)
        clear a0_7 a1_7 al_7 b0_7 b1_7 b2_7 b3_7 bl_7 s0_7 s1_7 sl_7 x0_7 x1_7 xl_7
        have RS_8 := hid (RS_7.out.later d8)
        have OX0_8 := hid (OX0_7.out.later d8)
        have OX1_8 := hid (OX1_7.out.later d8)
        have OY_8 := hid (OY_7.out.later d8)
        have E5_8 : Below w4.heap.size w4 w8 := E5_7.trans (d8.mono E5_7.size)
        clear d8 RS_7 OX0_7 OX1_7 OY_7 E5_7
        have HY9 := hid yl_8
        have HZ := hid (show w5.heap.size ≤ w6.heap.size ∧ w6.heap.size ≤ w7.heap.size ∧ w7.heap.size < w8.heap.size from ⟨HS67.out, HS78.out, yl_8⟩)
        go_wp2_with fail
        refine (ID _ _ _ _ (OX0_8.out.rd (by decide) (by decide)) (OX1_8.out.rd (by decide) (by decide)) OY_8.out.1.rd).mono ?_
        rintro e w9 ⟨⟨rr, rfl, hrr⟩, b9⟩
        obtain ⟨go0, gc0, gfv, gg, hre, hgB, hgS, hgo, hgf⟩ := hrr
        injection hre with hre
        subst hre
        obtain ⟨go1, gc1, hv⟩ := hgf.slice
        subst hv
        have OG_9 := hid hgo
        have OF_9 := hid hgf
        have HGG := hid (And.intro hgB hgS)
        have HLL := hid (And.intro hgo.len hgf.non)
        clear hgo hgf hgB hgS
        have d9 : Below w8.heap.size w8 w9 := (Below.trans (by go_grown) (b9.mono (by first | omega | (simp; done) | (simp; omega))))
        have c9 : Below w.heap.size w w9 := c8.trans (d9.mono c8.size)
        have a0_9 : w9.cell? ⟨w.heap.size, 0, none⟩ = some (.slice ao0 A0.length ac0) := (by rw [b9.cell (by first | omega | (simp; done) | (simp; omega))]; go_cell)
        have a1_9 : w9.cell? ⟨w.heap.size, 1, none⟩ = some (.slice ao1 A1.length ac1) := (by rw [b9.cell (by first | omega | (simp; done) | (simp; omega))]; go_cell)
        have al_9 : w.heap.size < w9.heap.size := (by have := b9.size; first | omega | (revert this; simp; done) | (revert this; simp; omega))
        have b0_9 : w9.cell? ⟨w.heap.size + 1, 0, none⟩ = some (.int .i64 k) := (by rw [b9.cell (by first | omega | (simp; done) | (simp; omega))]; go_cell)
        have b1_9 : w9.cell? ⟨w.heap.size + 1, 1, none⟩ = some (.int .i64 v) := (by rw [b9.cell (by first | omega | (simp; done) | (simp; omega))]; go_cell)
        have b2_9 : w9.cell? ⟨w.heap.size + 1, 2, none⟩ = some (.int .i64 n) := (by rw [b9.cell (by first | omega | (simp; done) | (simp; omega))]; go_cell)
        have b3_9 : w9.cell? ⟨w.heap.size + 1, 3, none⟩ = some (.slice uo l.length uc) := (by rw [b9.cell (by first | omega | (simp; done) | (simp; omega))]; go_cell)
        have bl_9 : w.heap.size + 1 < w9.heap.size := (by have := b9.size; first | omega | (revert this; simp; done) | (revert this; simp; omega))
        have s0_9 : w9.cell? ⟨Bs, 0, none⟩ = some (.slice so0 L0.length sc0) := (by rw [b9.cell (by first | omega | (simp; done) | (simp; omega))]; go_cell)
        have s1_9 : w9.cell? ⟨Bs, 1, none⟩ = some (.slice so1 L1.length sc1) := (by rw [b9.cell (by first | omega | (simp; done) | (simp; omega))]; go_cell)
        have sl_9 : Bs < w9.heap.size := (by have := b9.size; first | omega | (revert this; simp; done) | (revert this; simp; omega))
        have x0_9 : w9.cell? ⟨w5.heap.size, 0, none⟩ = some (.slice xo0 A0.length xc0) := (by rw [b9.cell (by first | omega | (simp; done) | (simp; omega))]; go_cell)
        have x1_9 : w9.cell? ⟨w5.heap.size, 1, none⟩ = some (.slice xo1 A1.length xc1) := (by rw [b9.cell (by first | omega | (simp; done) | (simp; omega))]; go_cell)
        have xl_9 : w5.heap.size < w9.heap.size := (by have := b9.size; first | omega | (revert this; simp; done) | (revert this; simp; omega))
        have y0_9 : w9.cell? ⟨w7.heap.size, 0, none⟩ = some (.int .i64 k) := (by rw [b9.cell (by first | omega | (simp; done) | (simp; omega))]; go_cell)
        have y1_9 : w9.cell? ⟨w7.heap.size, 1, none⟩ = some (.int .i64 v) := (by rw [b9.cell (by first | omega | (simp; done) | (simp; omega))]; go_cell)
        have y2_9 : w9.cell? ⟨w7.heap.size, 2, none⟩ = some (.int .i64 n) := (by rw [b9.cell (by first | omega | (simp; done) | (simp; omega))]; go_cell)
        have y3_9 : w9.cell? ⟨w7.heap.size, 3, none⟩ = some (.slice yo l.length yc) := (by rw [b9.cell (by first | omega | (simp; done) | (simp; omega))]; go_cell)
        have yl_9 : w7.heap.size < w9.heap.size := (by have := b9.size; first | omega | (revert this; simp; done) | (revert this; simp; omega))
        clear a0_8 a1_8 al_8 b0_8 b1_8 b2_8 b3_8 bl_8 s0_8 s1_8 sl_8 x0_8 x1_8 xl_8 y0_8 y1_8 y2_8 y3_8 yl_8
        have RS_9 := hid (RS_8.out.later d9)
        have OX0_9 := hid (OX0_8.out.later d9)
        have OX1_9 := hid (OX1_8.out.later d9)
        have OY_9 := hid (OY_8.out.later d9)
        have E5_9 : Below w4.heap.size w4 w9 := E5_8.trans (d9.mono E5_8.size)
        clear d9 RS_8 OX0_8 OX1_8 OY_8 E5_8
        clear b9
        go_wp2_with fail
        have g0_10 : (w9.alloc (.cells #[.slice go0 L0.length gc0, .slice go1 L1.length gc1] 36)).cell? ⟨w9.heap.size, 0, none⟩ = some (.slice go0 L0.length gc0) := by go_cell
        have g1_10 : (w9.alloc (.cells #[.slice go0 L0.length gc0, .slice go1 L1.length gc1] 36)).cell? ⟨w9.heap.size, 1, none⟩ = some (.slice go1 L1.length gc1) := by go_cell
        have gl_10 : w9.heap.size < (w9.alloc (.cells #[.slice go0 L0.length gc0, .slice go1 L1.length gc1] 36)).heap.size := by simp
        have d10 : Below w9.heap.size w9 (w9.alloc (.cells #[.slice go0 L0.length gc0, .slice go1 L1.length gc1] 36)) := by go_grown
        generalize (w9.alloc (.cells #[.slice go0 L0.length gc0, .slice go1 L1.length gc1] 36)) = w10 at g0_10 g1_10 gl_10 d10 ⊢
        have c10 : Below w.heap.size w w10 := c9.trans (d10.mono c9.size)
        have a0_10 : w10.cell? ⟨w.heap.size, 0, none⟩ = some (.slice ao0 A0.length ac0) := (by rw [d10.cell (by first | omega | (simp; done) | (simp; omega))]; go_cell)
        have a1_10 : w10.cell? ⟨w.heap.size, 1, none⟩ = some (.slice ao1 A1.length ac1) := (by rw [d10.cell (by first | omega | (simp; done) | (simp; omega))]; go_cell)
        have al_10 : w.heap.size < w10.heap.size := (by have := d10.size; omega)
        have b0_10 : w10.cell? ⟨w.heap.size + 1, 0, none⟩ = some (.int .i64 k) := (by rw [d10.cell (by first | omega | (simp; done) | (simp; omega))]; go_cell)
        have b1_10 : w10.cell? ⟨w.heap.size + 1, 1, none⟩ = some (.int .i64 v) := (by rw [d10.cell (by first | omega | (simp; done) | (simp; omega))]; go_cell)
        have b2_10 : w10.cell? ⟨w.heap.size + 1, 2, none⟩ = some (.int .i64 n) := (by rw [d10.cell (by first | omega | (simp; done) | (simp; omega))]; go_cell)
        have b3_10 : w10.cell? ⟨w.heap.size + 1, 3, none⟩ = some (.slice uo l.length uc) := (by rw [d10.cell (by first | omega | (simp; done) | (simp; omega))]; go_cell)
        have bl_10 : w.heap.size + 1 < w10.heap.size := (by have := d10.size; omega)
        have s0_10 : w10.cell? ⟨Bs, 0, none⟩ = some (.slice so0 L0.length sc0) := (by rw [d10.cell (by first | omega | (simp; done) | (simp; omega))]; go_cell)
        have s1_10 : w10.cell? ⟨Bs, 1, none⟩ = some (.slice so1 L1.length sc1) := (by rw [d10.cell (by first | omega | (simp; done) | (simp; omega))]; go_cell)
        have sl_10 : Bs < w10.heap.size := (by have := d10.size; omega)
        have x0_10 : w10.cell? ⟨w5.heap.size, 0, none⟩ = some (.slice xo0 A0.length xc0) := (by rw [d10.cell (by first | omega | (simp; done) | (simp; omega))]; go_cell)
        have x1_10 : w10.cell? ⟨w5.heap.size, 1, none⟩ = some (.slice xo1 A1.length xc1) := (by rw [d10.cell (by first | omega | (simp; done) | (simp; omega))]; go_cell)
        have xl_10 : w5.heap.size < w10.heap.size := (by have := d10.size; omega)
        have y0_10 : w10.cell? ⟨w7.heap.size, 0, none⟩ = some (.int .i64 k) := (by rw [d10.cell (by first | omega | (simp; done) | (simp; omega))]; go_cell)
        have y1_10 : w10.cell? ⟨w7.heap.size, 1, none⟩ = some (.int .i64 v) := (by rw [d10.cell (by first | omega | (simp; done) | (simp; omega))]; go_cell)
        have y2_10 : w10.cell? ⟨w7.heap.size, 2, none⟩ = some (.int .i64 n) := (by rw [d10.cell (by first | omega | (simp; done) | (simp; omega))]; go_cell)
        have y3_10 : w10.cell? ⟨w7.heap.size, 3, none⟩ = some (.slice yo l.length yc) := (by rw [d10.cell (by first | omega | (simp; done) | (simp; omega))]; go_cell)
        have yl_10 : w7.heap.size < w10.heap.size := (by have := d10.size; omega)
        clear a0_9 a1_9 al_9 b0_9 b1_9 b2_9 b3_9 bl_9 s0_9 s1_9 sl_9 x0_9 x1_9 xl_9 y0_9 y1_9 y2_9 y3_9 yl_9
        have RS_10 := hid (RS_9.out.later d10)
        have OX0_10 := hid (OX0_9.out.later d10)
        have OX1_10 := hid (OX1_9.out.later d10)
        have OY_10 := hid (OY_9.out.later d10)
        have OG_10 := hid (OG_9.out.later d10)
        have OF_10 := hid (OF_9.out.later d10)
        have E5_10 : Below w4.heap.size w4 w10 := E5_9.trans (d10.mono E5_9.size)
        clear d10 RS_9 OX0_9 OX1_9 OY_9 OG_9 OF_9 E5_9
        go_wp2_with fail
        refine (eqCache_rd _ _ _ _ L0 L1 _ ⟨OG_10.out.rd (by decide) (by decide), OF_10.out.rd⟩ RS_10.out).mono ?_
        rintro e w11 ⟨rfl, b11⟩
        have d11 : Below w10.heap.size w10 w11 := (Below.trans (by go_grown) (b11.mono (by first | omega | (simp; done) | (simp; omega))))
        have c11 : Below w.heap.size w w11 := c10.trans (d11.mono c10.size)
        have a0_11 : w11.cell? ⟨w.heap.size, 0, none⟩ = some (.slice ao0 A0.length ac0) := (by rw [b11.cell (by first | omega | (simp; done) | (simp; omega))]; go_cell)
        have a1_11 : w11.cell? ⟨w.heap.size, 1, none⟩ = some (.slice ao1 A1.length ac1) := (by rw [b11.cell (by first | omega | (simp; done) | (simp; omega))]; go_cell)
        have al_11 : w.heap.size < w11.heap.size := (by have := b11.size; first | omega | (revert this; simp; done) | (revert this; simp; omega))
        have b0_11 : w11.cell? ⟨w.heap.size + 1, 0, none⟩ = some (.int .i64 k) := (by rw [b11.cell (by first | omega | (simp; done) | (simp; omega))]; go_cell)
        have b1_11 : w11.cell? ⟨w.heap.size + 1, 1, none⟩ = some (.int .i64 v) := (by rw [b11.cell (by first | omega | (simp; done) | (simp; omega))]; go_cell)
        have b2_11 : w11.cell? ⟨w.heap.size + 1, 2, none⟩ = some (.int .i64 n) := (by rw [b11.cell (by first | omega | (simp; done) | (simp; omega))]; go_cell)
        have b3_11 : w11.cell? ⟨w.heap.size + 1, 3, none⟩ = some (.slice uo l.length uc) := (by rw [b11.cell (by first | omega | (simp; done) | (simp; omega))]; go_cell)
        have bl_11 : w.heap.size + 1 < w11.heap.size := (by have := b11.size; first | omega | (revert this; simp; done) | (revert this; simp; omega))
        have s0_11 : w11.cell? ⟨Bs, 0, none⟩ = some (.slice so0 L0.length sc0) := (by rw [b11.cell (by first | omega | (simp; done) | (simp; omega))]; go_cell)
        have s1_11 : w11.cell? ⟨Bs, 1, none⟩ = some (.slice so1 L1.length sc1) := (by rw [b11.cell (by first | omega | (simp; done) | (simp; omega))]; go_cell)
        have sl_11 : Bs < w11.heap.size := (by have := b11.size; first | omega | (revert this; simp; done) | (revert this; simp; omega))
        have x0_11 : w11.cell? ⟨w5.heap.size, 0, none⟩ = some (.slice xo0 A0.length xc0) := (by rw [b11.cell (by first | omega | (simp; done) | (simp; omega))]; go_cell)
        have x1_11 : w11.cell? ⟨w5.heap.size, 1, none⟩ = some (.slice xo1 A1.length xc1) := (by rw [b11.cell (by first | omega | (simp; done) | (simp; omega))]; go_cell)
        have xl_11 : w5.heap.size < w11.heap.size := (by have := b11.size; first | omega | (revert this; simp; done) | (revert this; simp; omega))
        have y0_11 : w11.cell? ⟨w7.heap.size, 0, none⟩ = some (.int .i64 k) := (by rw [b11.cell (by first | omega | (simp; done) | (simp; omega))]; go_cell)
        have y1_11 : w11.cell? ⟨w7.heap.size, 1, none⟩ = some (.int .i64 v) := (by rw [b11.cell (by first | omega | (simp; done) | (simp; omega))]; go_cell)
        have y2_11 : w11.cell? ⟨w7.heap.size, 2, none⟩ = some (.int .i64 n) := (by rw [b11.cell (by first | omega | (simp; done) | (simp; omega))]; go_cell)
        have y3_11 : w11.cell? ⟨w7.heap.size, 3, none⟩ = some (.slice yo l.length yc) := (by rw [b11.cell (by first | omega | (simp; done) | (simp; omega))]; go_cell)
        have yl_11 : w7.heap.size < w11.heap.size := (by have := b11.size; first | omega | (revert this; simp; done) | (revert this; simp; omega))
        have g0_11 : w11.cell? ⟨w9.heap.size, 0, none⟩ = some (.slice go0 L0.length gc0) := (by rw [b11.cell (by first | omega | (simp; done) | (simp; omega))]; go_cell)
        have g1_11 : w11.cell? ⟨w9.heap.size, 1, none⟩ = some (.slice go1 L1.length gc1) := (by rw [b11.cell (by first | omega | (simp; done) | (simp; omega))]; go_cell)
        have gl_11 : w9.heap.size < w11.heap.size := (by have := b11.size; first | omega | (revert this; simp; done) | (revert this; simp; omega))
        clear a0_10 a1_10 al_10 b0_10 b1_10 b2_10 b3_10 bl_10 s0_10 s1_10 sl_10 x0_10 x1_10 xl_10 y0_10 y1_10 y2_10 y3_10 yl_10 g0_10 g1_10 gl_10
        have RS_11 := hid (RS_10.out.later d11)
        have OX0_11 := hid (OX0_10.out.later d11)
        have OX1_11 := hid (OX1_10.out.later d11)
        have OY_11 := hid (OY_10.out.later d11)
        have OG_11 := hid (OG_10.out.later d11)
        have OF_11 := hid (OF_10.out.later d11)
        have E5_11 : Below w4.heap.size w4 w11 := E5_10.trans (d11.mono E5_10.size)
        clear d11 RS_10 OX0_10 OX1_10 OY_10 OG_10 OF_10 E5_10
        clear b11
        go_upto_region 14 with fail
        go_cut [58] from 54 (fun s wx => s = .bool false ∧ Below w11.heap.size w11 wx)
        case first =>
          go_region_with (first
            | (go_at_call 9; refine (toCache_rd (.slice ao0 A0.length ac0) (.slice ao1 A1.length ac1) A0 A1 _ (HA.out.later (c11.drew)) HLA.out).mono ?_; rintro e w50 ⟨⟨zo0, zo1, zc0, zc1, rfl, oa⟩, b50⟩; have OE50 := hid oa; clear oa; have d50 : Below w11.heap.size w11 w50 := (Below.trans (by go_grown) (b50.mono (by first | omega | (simp; done) | (simp; omega)))); have c50 : Below w.heap.size w w50 := c11.trans (d50.mono c11.size); have x0_50 : w50.cell? ⟨w5.heap.size, 0, none⟩ = some (.slice xo0 A0.length xc0) := (by rw [b50.cell (by first | omega | (simp; done) | (simp; omega))]; go_cell); have x1_50 : w50.cell? ⟨w5.heap.size, 1, none⟩ = some (.slice xo1 A1.length xc1) := (by rw [b50.cell (by first | omega | (simp; done) | (simp; omega))]; go_cell); have xl_50 : w5.heap.size < w50.heap.size := (by have := b50.size; first | omega | (revert this; simp; done) | (revert this; simp; omega)); clear x0_11 x1_11 xl_11)
            | (go_at_call 12; refine (eqCache_rd _ _ _ _ A0 A1 _ (RSCache.later ⟨OX0_11.out.rd (by decide) (by decide), OX1_11.out.rd (by decide) (by decide)⟩ d50) OE50.out).mono ?_; rintro e w51 ⟨rfl, b51⟩; have d51 : Below w50.heap.size w50 w51 := (Below.trans (by go_grown) (b51.mono (by first | omega | (simp; done) | (simp; omega)))); have c51 : Below w.heap.size w w51 := c50.trans (d51.mono c50.size)))
          all_goals
            go_wp2_with fail
            go_meet
            exact ⟨rfl, d50.trans (d51.mono d50.size)⟩
        case rest =>
          obtain ⟨rfl, b12⟩ := hcut
          obtain ⟨w12, hw12⟩ : ∃ y, y = wc := ⟨_, rfl⟩
          subst hw12
          have d12 : Below w11.heap.size w11 w12 := (Below.trans (by go_grown) (b12.mono (by first | omega | (simp; done) | (simp; omega))))
          have c12 : Below w.heap.size w w12 := c11.trans (d12.mono c11.size)
          have a0_12 : w12.cell? ⟨w.heap.size, 0, none⟩ = some (.slice ao0 A0.length ac0) := (by rw [b12.cell (by first | omega | (simp; done) | (simp; omega))]; go_cell)
          have a1_12 : w12.cell? ⟨w.heap.size, 1, none⟩ = some (.slice ao1 A1.length ac1) := (by rw [b12.cell (by first | omega | (simp; done) | (simp; omega))]; go_cell)
          have al_12 : w.heap.size < w12.heap.size := (by have := b12.size; first | omega | (revert this; simp; done) | (revert this; simp; omega))
          have b0_12 : w12.cell? ⟨w.heap.size + 1, 0, none⟩ = some (.int .i64 k) := (by rw [b12.cell (by first | omega | (simp; done) | (simp; omega))]; go_cell)
          have b1_12 : w12.cell? ⟨w.heap.size + 1, 1, none⟩ = some (.int .i64 v) := (by rw [b12.cell (by first | omega | (simp; done) | (simp; omega))]; go_cell)
          have b2_12 : w12.cell? ⟨w.heap.size + 1, 2, none⟩ = some (.int .i64 n) := (by rw [b12.cell (by first | omega | (simp; done) | (simp; omega))]; go_cell)
          have b3_12 : w12.cell? ⟨w.heap.size + 1, 3, none⟩ = some (.slice uo l.length uc) := (by rw [b12.cell (by first | omega | (simp; done) | (simp; omega))]; go_cell)
          have bl_12 : w.heap.size + 1 < w12.heap.size := (by have := b12.size; first | omega | (revert this; simp; done) | (revert this; simp; omega))
          have s0_12 : w12.cell? ⟨Bs, 0, none⟩ = some (.slice so0 L0.length sc0) := (by rw [b12.cell (by first | omega | (simp; done) | (simp; omega))]; go_cell)
          have s1_12 : w12.cell? ⟨Bs, 1, none⟩ = some (.slice so1 L1.length sc1) := (by rw [b12.cell (by first | omega | (simp; done) | (simp; omega))]; go_cell)
          have sl_12 : Bs < w12.heap.size := (by have := b12.size; first | omega | (revert this; simp; done) | (revert this; simp; omega))
          have x0_12 : w12.cell? ⟨w5.heap.size, 0, none⟩ = some (.slice xo0 A0.length xc0) := (by rw [b12.cell (by first | omega | (simp; done) | (simp; omega))]; go_cell)
          have x1_12 : w12.cell? ⟨w5.heap.size, 1, none⟩ = some (.slice xo1 A1.length xc1) := (by rw [b12.cell (by first | omega | (simp; done) | (simp; omega))]; go_cell)
          have xl_12 : w5.heap.size < w12.heap.size := (by have := b12.size; first | omega | (revert this; simp; done) | (revert this; simp; omega))
          have y0_12 : w12.cell? ⟨w7.heap.size, 0, none⟩ = some (.int .i64 k) := (by rw [b12.cell (by first | omega | (simp; done) | (simp; omega))]; go_cell)
          have y1_12 : w12.cell? ⟨w7.heap.size, 1, none⟩ = some (.int .i64 v) := (by rw [b12.cell (by first | omega | (simp; done) | (simp; omega))]; go_cell)
          have y2_12 : w12.cell? ⟨w7.heap.size, 2, none⟩ = some (.int .i64 n) := (by rw [b12.cell (by first | omega | (simp; done) | (simp; omega))]; go_cell)
          have y3_12 : w12.cell? ⟨w7.heap.size, 3, none⟩ = some (.slice yo l.length yc) := (by rw [b12.cell (by first | omega | (simp; done) | (simp; omega))]; go_cell)
          have yl_12 : w7.heap.size < w12.heap.size := (by have := b12.size; first | omega | (revert this; simp; done) | (revert this; simp; omega))
          have g0_12 : w12.cell? ⟨w9.heap.size, 0, none⟩ = some (.slice go0 L0.length gc0) := (by rw [b12.cell (by first | omega | (simp; done) | (simp; omega))]; go_cell)
          have g1_12 : w12.cell? ⟨w9.heap.size, 1, none⟩ = some (.slice go1 L1.length gc1) := (by rw [b12.cell (by first | omega | (simp; done) | (simp; omega))]; go_cell)
          have gl_12 : w9.heap.size < w12.heap.size := (by have := b12.size; first | omega | (revert this; simp; done) | (revert this; simp; omega))
          clear a0_11 a1_11 al_11 b0_11 b1_11 b2_11 b3_11 bl_11 s0_11 s1_11 sl_11 x0_11 x1_11 xl_11 y0_11 y1_11 y2_11 y3_11 yl_11 g0_11 g1_11 gl_11
          have RS_12 := hid (RS_11.out.later d12)
          have OX0_12 := hid (OX0_11.out.later d12)
          have OX1_12 := hid (OX1_11.out.later d12)
          have OY_12 := hid (OY_11.out.later d12)
          have OG_12 := hid (OG_11.out.later d12)
          have OF_12 := hid (OF_11.out.later d12)
          have E5_12 : Below w4.heap.size w4 w12 := E5_11.trans (d12.mono E5_11.size)
          clear d12 RS_11 OX0_11 OX1_11 OY_11 OG_11 OF_11 E5_11
          clear b12
          go_upto_region 16 with fail
          go_cut [63] from 59 (fun s wx => s = .bool false ∧ Below w12.heap.size w12 wx)
          case first =>
            go_region_with (first
              | (go_at_call 23; refine (toItem_any k v n _ l _ (HU.out.later (c12.drew)) HUL.out).mono ?_; rintro e w50 ⟨zv, rfl, hoz, b50⟩; have OE50 := hid hoz.rd; obtain ⟨zo, zc, hzv, _⟩ := hoz.rd; subst hzv; clear hoz; have d50 : Below w12.heap.size w12 w50 := (Below.trans (by go_grown) (b50.mono (by first | omega | (simp; done) | (simp; omega)))); have c50 : Below w.heap.size w w50 := c12.trans (d50.mono c12.size); have y0_50 : w50.cell? ⟨w7.heap.size, 0, none⟩ = some (.int .i64 k) := (by rw [b50.cell (by first | omega | (simp; done) | (simp; omega))]; go_cell); have y1_50 : w50.cell? ⟨w7.heap.size, 1, none⟩ = some (.int .i64 v) := (by rw [b50.cell (by first | omega | (simp; done) | (simp; omega))]; go_cell); have y2_50 : w50.cell? ⟨w7.heap.size, 2, none⟩ = some (.int .i64 n) := (by rw [b50.cell (by first | omega | (simp; done) | (simp; omega))]; go_cell); have y3_50 : w50.cell? ⟨w7.heap.size, 3, none⟩ = some (.slice yo l.length yc) := (by rw [b50.cell (by first | omega | (simp; done) | (simp; omega))]; go_cell); have yl_50 : w7.heap.size < w50.heap.size := (by have := b50.size; first | omega | (revert this; simp; done) | (revert this; simp; omega)); clear y0_12 y1_12 y2_12 y3_12 yl_12)
              | (go_at_call 11; refine (eqItem_any k v n k v n l l _ _ _ (OY_12.out.1.rd.later d50) OE50.out).mono ?_; rw [eqK_iff.2 (rfl : (([k, v, n], l) : KD) = ([k, v, n], l))]; rintro e w51 ⟨rfl, b51⟩; have d51 : Below w50.heap.size w50 w51 := (Below.trans (by go_grown) (b51.mono (by first | omega | (simp; done) | (simp; omega)))); have c51 : Below w.heap.size w w51 := c50.trans (d51.mono c50.size)))
            all_goals
              go_wp2_with fail
              go_meet
              exact ⟨rfl, d50.trans (d51.mono d50.size)⟩
          case rest =>
            obtain ⟨rfl, b13⟩ := hcut
            obtain ⟨w13, hw13⟩ : ∃ y, y = wc := ⟨_, rfl⟩
            subst hw13
            have d13 : Below w12.heap.size w12 w13 := (Below.trans (by go_grown) (b13.mono (by first | omega | (simp; done) | (simp; omega))))
            have c13 : Below w.heap.size w w13 := c12.trans (d13.mono c12.size)
            have a0_13 : w13.cell? ⟨w.heap.size, 0, none⟩ = some (.slice ao0 A0.length ac0) := (by rw [b13.cell (by first | omega | (simp; done) | (simp; omega))]; go_cell)
            have a1_13 : w13.cell? ⟨w.heap.size, 1, none⟩ = some (.slice ao1 A1.length ac1) := (by rw [b13.cell (by first | omega | (simp; done) | (simp; omega))]; go_cell)
            have al_13 : w.heap.size < w13.heap.size := (by have := b13.size; first | omega | (revert this; simp; done) | (revert this; simp; omega))
            have b0_13 : w13.cell? ⟨w.heap.size + 1, 0, none⟩ = some (.int .i64 k) := (by rw [b13.cell (by first | omega | (simp; done) | (simp; omega))]; go_cell)
            have b1_13 : w13.cell? ⟨w.heap.size + 1, 1, none⟩ = some (.int .i64 v) := (by rw [b13.cell (by first | omega | (simp; done) | (simp; omega))]; go_cell)
            have b2_13 : w13.cell? ⟨w.heap.size + 1, 2, none⟩ = some (.int .i64 n) := (by rw [b13.cell (by first | omega | (simp; done) | (simp; omega))]; go_cell)
            have b3_13 : w13.cell? ⟨w.heap.size + 1, 3, none⟩ = some (.slice uo l.length uc) := (by rw [b13.cell (by first | omega | (simp; done) | (simp; omega))]; go_cell)
            have bl_13 : w.heap.size + 1 < w13.heap.size := (by have := b13.size; first | omega | (revert this; simp; done) | (revert this; simp; omega))
            have s0_13 : w13.cell? ⟨Bs, 0, none⟩ = some (.slice so0 L0.length sc0) := (by rw [b13.cell (by first | omega | (simp; done) | (simp; omega))]; go_cell)
            have s1_13 : w13.cell? ⟨Bs, 1, none⟩ = some (.slice so1 L1.length sc1) := (by rw [b13.cell (by first | omega | (simp; done) | (simp; omega))]; go_cell)
            have sl_13 : Bs < w13.heap.size := (by have := b13.size; first | omega | (revert this; simp; done) | (revert this; simp; omega))
            have x0_13 : w13.cell? ⟨w5.heap.size, 0, none⟩ = some (.slice xo0 A0.length xc0) := (by rw [b13.cell (by first | omega | (simp; done) | (simp; omega))]; go_cell)
            have x1_13 : w13.cell? ⟨w5.heap.size, 1, none⟩ = some (.slice xo1 A1.length xc1) := (by rw [b13.cell (by first | omega | (simp; done) | (simp; omega))]; go_cell)
            have xl_13 : w5.heap.size < w13.heap.size := (by have := b13.size; first | omega | (revert this; simp; done) | (revert this; simp; omega))
            have y0_13 : w13.cell? ⟨w7.heap.size, 0, none⟩ = some (.int .i64 k) := (by rw [b13.cell (by first | omega | (simp; done) | (simp; omega))]; go_cell)
            have y1_13 : w13.cell? ⟨w7.heap.size, 1, none⟩ = some (.int .i64 v) := (by rw [b13.cell (by first | omega | (simp; done) | (simp; omega))]; go_cell)
            have y2_13 : w13.cell? ⟨w7.heap.size, 2, none⟩ = some (.int .i64 n) := (by rw [b13.cell (by first | omega | (simp; done) | (simp; omega))]; go_cell)
            have y3_13 : w13.cell? ⟨w7.heap.size, 3, none⟩ = some (.slice yo l.length yc) := (by rw [b13.cell (by first | omega | (simp; done) | (simp; omega))]; go_cell)
            have yl_13 : w7.heap.size < w13.heap.size := (by have := b13.size; first | omega | (revert this; simp; done) | (revert this; simp; omega))
            have g0_13 : w13.cell? ⟨w9.heap.size, 0, none⟩ = some (.slice go0 L0.length gc0) := (by rw [b13.cell (by first | omega | (simp; done) | (simp; omega))]; go_cell)
            have g1_13 : w13.cell? ⟨w9.heap.size, 1, none⟩ = some (.slice go1 L1.length gc1) := (by rw [b13.cell (by first | omega | (simp; done) | (simp; omega))]; go_cell)
            have gl_13 : w9.heap.size < w13.heap.size := (by have := b13.size; first | omega | (revert this; simp; done) | (revert this; simp; omega))
            clear a0_12 a1_12 al_12 b0_12 b1_12 b2_12 b3_12 bl_12 s0_12 s1_12 sl_12 x0_12 x1_12 xl_12 y0_12 y1_12 y2_12 y3_12 yl_12 g0_12 g1_12 gl_12
            have RS_13 := hid (RS_12.out.later d13)
            have OX0_13 := hid (OX0_12.out.later d13)
            have OX1_13 := hid (OX1_12.out.later d13)
            have OY_13 := hid (OY_12.out.later d13)
            have OG_13 := hid (OG_12.out.later d13)
            have OF_13 := hid (OF_12.out.later d13)
            have E5_13 : Below w4.heap.size w4 w13 := E5_12.trans (d13.mono E5_12.size)
            clear d13 RS_12 OX0_12 OX1_12 OY_12 OG_12 OF_12 E5_12
            clear b13
            go_wp2_with fail
            refine (markCache_all _ _ A0 A1 1 (Span w4.heap.size B1) (Span B1 w5.heap.size) _ OX0_13.out OX1_13.out (fun b h q => by have := h.2; have := q.1; omega) (fun b h q => by have := q.2; have := h.1; omega) (by omega) (by have := HN.out; omega)).mono ?_
            rintro e w14 ⟨rfl, _, _, hn⟩
            have hspan : ∀ b, (Span w4.heap.size B1 b ∨ Span B1 w5.heap.size b) → w4.heap.size ≤ b ∧ b < w5.heap.size := fun b h => by rcases h with h | h <;> (have := h.1; have := h.2; have := HB.out; omega)
            have gz13 : w9.heap.size ≤ w13.heap.size := by have := gl_13; omega
            have c14 : Below w.heap.size w w14 := c13.trans (hn.below (fun b hb => by have := (hspan b hb).1; have := HAL.out; omega) (by have := c13.size; omega))
            have z14 := hn.size
            have h_a := hn.block (w.heap.size) (by have := al_13; omega) (fun q => by have := (hspan _ q).1; have := HAL.out; omega)
            have a0_14 := (World.cell?_of_block (a := ⟨w.heap.size, 0, none⟩) h_a).trans a0_13
            have a1_14 := (World.cell?_of_block (a := ⟨w.heap.size, 1, none⟩) h_a).trans a1_13
            have al_14 : w.heap.size < w14.heap.size := by have := al_13; omega
            clear h_a a0_13 a1_13 al_13
            have h_b := hn.block (w.heap.size + 1) (by have := bl_13; omega) (fun q => by have := (hspan _ q).1; have := HAL.out; omega)
            have b0_14 := (World.cell?_of_block (a := ⟨w.heap.size + 1, 0, none⟩) h_b).trans b0_13
            have b1_14 := (World.cell?_of_block (a := ⟨w.heap.size + 1, 1, none⟩) h_b).trans b1_13
            have b2_14 := (World.cell?_of_block (a := ⟨w.heap.size + 1, 2, none⟩) h_b).trans b2_13
            have b3_14 := (World.cell?_of_block (a := ⟨w.heap.size + 1, 3, none⟩) h_b).trans b3_13
            have bl_14 : w.heap.size + 1 < w14.heap.size := by have := bl_13; omega
            clear h_b b0_13 b1_13 b2_13 b3_13 bl_13
            have h_s := hn.block (Bs) (by have := sl_13; omega) (fun q => by have := (hspan _ q).1; have := HSL.out; omega)
            have s0_14 := (World.cell?_of_block (a := ⟨Bs, 0, none⟩) h_s).trans s0_13
            have s1_14 := (World.cell?_of_block (a := ⟨Bs, 1, none⟩) h_s).trans s1_13
            have sl_14 : Bs < w14.heap.size := by have := sl_13; omega
            clear h_s s0_13 s1_13 sl_13
            clear x0_13 x1_13 xl_13
            have h_y := hn.block (w7.heap.size) (by have := yl_13; omega) (fun q => by have := (hspan _ q).2; have := HZ.out; have := HGG.out.1; have := HGG.out.2; omega)
            have y0_14 := (World.cell?_of_block (a := ⟨w7.heap.size, 0, none⟩) h_y).trans y0_13
            have y1_14 := (World.cell?_of_block (a := ⟨w7.heap.size, 1, none⟩) h_y).trans y1_13
            have y2_14 := (World.cell?_of_block (a := ⟨w7.heap.size, 2, none⟩) h_y).trans y2_13
            have y3_14 := (World.cell?_of_block (a := ⟨w7.heap.size, 3, none⟩) h_y).trans y3_13
            have yl_14 : w7.heap.size < w14.heap.size := by have := yl_13; omega
            clear h_y y0_13 y1_13 y2_13 y3_13 yl_13
            have h_g := hn.block (w9.heap.size) (by have := gl_13; omega) (fun q => by have := (hspan _ q).2; have := HZ.out; have := HGG.out.1; have := HGG.out.2; omega)
            have g0_14 := (World.cell?_of_block (a := ⟨w9.heap.size, 0, none⟩) h_g).trans g0_13
            have g1_14 := (World.cell?_of_block (a := ⟨w9.heap.size, 1, none⟩) h_g).trans g1_13
            have gl_14 : w9.heap.size < w14.heap.size := by have := gl_13; omega
            clear h_g g0_13 g1_13 gl_13
            have E5_14 : Below w4.heap.size w4 w14 := E5_13.trans (hn.below (fun b hb => (hspan b hb).1) E5_13.size)
            have RS_14 := hid (HRS.out.later E5_14)
            have OY_14 : Hid (OwnB w14 w6.heap.size (.slice yo l.length yc) l) := hid ⟨OY_13.out.1.agree (fun q hq => hn.block q (OY_13.out.1.block q hq).2 (fun h => by have := (hspan _ h).2; have := (OY_13.out.1.block q hq).1; have := HZ.out; omega))⟩
            have OG_14 := hid (OG_13.out.only hn (fun b hb _ q => by have := (hspan _ q).2; have := hb.1; have := HGG.out.1; have := HZ.out; omega))
            have OF_14 := hid (OF_13.out.agree (fun hg => hn.block gg hg (fun q => by have := (hspan _ q).2; have := HGG.out.1; have := HZ.out; omega)))
            clear hn hspan OX0_13 OX1_13 RS_13 OG_13 OF_13 OY_13 E5_13
            obtain ⟨kx, hkx⟩ : ∃ z : Int, 1 + cntM 3 A0 + cntM 1 A1 = z := ⟨_, rfl⟩
            have hkx0 : 0 ≤ kx := by have := HP.out.1; have := HP.out.2; omega
            have hkx1 : kx ≤ 1099511000000 := by have := HN.out; omega
            rw [hkx]
            clear hkx
            go_wp2_with fail
            refine (markItem_any k v n _ l kx w6.heap.size _ OY_14.out.1 hkx0 (by omega) (by omega)).mono ?_
            rintro e w15 ⟨rfl, _, hgr⟩
            have hob : ∀ q, (Value.slice yo l.length yc).ownBlock = some q → w6.heap.size ≤ q ∧ q < w7.heap.size := HYB.out
            have hn : Only (fun q => w6.heap.size ≤ q ∧ q < w7.heap.size) w14 w15 := Only.of_grown hgr (fun q hq => hob q hq)
            have c15 : Below w.heap.size w w15 := c14.trans (hn.below (fun b hb => by have := hb.1; have := HZ.out; have := HAL.out; have := HB.out; omega) (by have := c14.size; omega))
            have z15 := hn.size
            have h_a := hn.block (w.heap.size) (by have := al_14; omega) (fun q => by have := q.1; have := HZ.out; have := HAL.out; have := HSL.out; have := HB.out; omega)
            have a0_15 := (World.cell?_of_block (a := ⟨w.heap.size, 0, none⟩) h_a).trans a0_14
            have a1_15 := (World.cell?_of_block (a := ⟨w.heap.size, 1, none⟩) h_a).trans a1_14
            have al_15 : w.heap.size < w15.heap.size := by have := al_14; omega
            clear h_a a0_14 a1_14 al_14
            have h_b := hn.block (w.heap.size + 1) (by have := bl_14; omega) (fun q => by have := q.1; have := HZ.out; have := HAL.out; have := HSL.out; have := HB.out; omega)
            have b0_15 := (World.cell?_of_block (a := ⟨w.heap.size + 1, 0, none⟩) h_b).trans b0_14
            have b1_15 := (World.cell?_of_block (a := ⟨w.heap.size + 1, 1, none⟩) h_b).trans b1_14
            have b2_15 := (World.cell?_of_block (a := ⟨w.heap.size + 1, 2, none⟩) h_b).trans b2_14
            have b3_15 := (World.cell?_of_block (a := ⟨w.heap.size + 1, 3, none⟩) h_b).trans b3_14
            have bl_15 : w.heap.size + 1 < w15.heap.size := by have := bl_14; omega
            clear h_b b0_14 b1_14 b2_14 b3_14 bl_14
            have h_s := hn.block (Bs) (by have := sl_14; omega) (fun q => by have := q.1; have := HZ.out; have := HAL.out; have := HSL.out; have := HB.out; omega)
            have s0_15 := (World.cell?_of_block (a := ⟨Bs, 0, none⟩) h_s).trans s0_14
            have s1_15 := (World.cell?_of_block (a := ⟨Bs, 1, none⟩) h_s).trans s1_14
            have sl_15 : Bs < w15.heap.size := by have := sl_14; omega
            clear h_s s0_14 s1_14 sl_14
            clear y0_14 y1_14 y2_14 y3_14 yl_14
            have h_g := hn.block (w9.heap.size) (by have := gl_14; omega) (fun q => by have := q.2; have := HZ.out; have := HGG.out.1; have := HGG.out.2; omega)
            have g0_15 := (World.cell?_of_block (a := ⟨w9.heap.size, 0, none⟩) h_g).trans g0_14
            have g1_15 := (World.cell?_of_block (a := ⟨w9.heap.size, 1, none⟩) h_g).trans g1_14
            have gl_15 : w9.heap.size < w15.heap.size := by have := gl_14; omega
            clear h_g g0_14 g1_14 gl_14
            have E5_15 : Below w4.heap.size w4 w15 := E5_14.trans (hn.below (fun b hb => by have := hb.1; have := HZ.out; have := HB.out; omega) E5_14.size)
            have RS_15 := hid (HRS.out.later E5_15)
            have OG_15 := hid (OG_14.out.only hn (fun b hb _ q => by have := q.2; have := hb.1; have := HGG.out.1; have := HZ.out; omega))
            have OF_15 := hid (OF_14.out.agree (fun hg => hn.block gg hg (fun q => by have := q.2; have := HGG.out.1; have := HZ.out; omega)))
            clear hn hob hgr RS_14 OG_14 OF_14 OY_14 E5_14
            obtain ⟨ky, hky⟩ : ∃ z : Int, kx + 2 * (l.length : Int) = z := ⟨_, rfl⟩
            have hkn : ¬ (ky < 0) := by omega
            rw [hky]
            clear hky hkx0 hkx1
            go_wp2_with fail
            refine (eqCache_rd _ _ _ _ L0 L1 _ ⟨OG_15.out.rd (by decide) (by decide), OF_15.out.rd⟩ RS_15.out).mono ?_
            rintro e w16 ⟨rfl, b16⟩
            have d16 : Below w15.heap.size w15 w16 := (Below.trans (by go_grown) (b16.mono (by first | omega | (simp; done) | (simp; omega))))
            have c16 : Below w.heap.size w w16 := c15.trans (d16.mono c15.size)
            have a0_16 : w16.cell? ⟨w.heap.size, 0, none⟩ = some (.slice ao0 A0.length ac0) := (by rw [b16.cell (by first | omega | (simp; done) | (simp; omega))]; go_cell)
            have a1_16 : w16.cell? ⟨w.heap.size, 1, none⟩ = some (.slice ao1 A1.length ac1) := (by rw [b16.cell (by first | omega | (simp; done) | (simp; omega))]; go_cell)
            have al_16 : w.heap.size < w16.heap.size := (by have := b16.size; first | omega | (revert this; simp; done) | (revert this; simp; omega))
            have b0_16 : w16.cell? ⟨w.heap.size + 1, 0, none⟩ = some (.int .i64 k) := (by rw [b16.cell (by first | omega | (simp; done) | (simp; omega))]; go_cell)
            have b1_16 : w16.cell? ⟨w.heap.size + 1, 1, none⟩ = some (.int .i64 v) := (by rw [b16.cell (by first | omega | (simp; done) | (simp; omega))]; go_cell)
            have b2_16 : w16.cell? ⟨w.heap.size + 1, 2, none⟩ = some (.int .i64 n) := (by rw [b16.cell (by first | omega | (simp; done) | (simp; omega))]; go_cell)
            have b3_16 : w16.cell? ⟨w.heap.size + 1, 3, none⟩ = some (.slice uo l.length uc) := (by rw [b16.cell (by first | omega | (simp; done) | (simp; omega))]; go_cell)
            have bl_16 : w.heap.size + 1 < w16.heap.size := (by have := b16.size; first | omega | (revert this; simp; done) | (revert this; simp; omega))
            have s0_16 : w16.cell? ⟨Bs, 0, none⟩ = some (.slice so0 L0.length sc0) := (by rw [b16.cell (by first | omega | (simp; done) | (simp; omega))]; go_cell)
            have s1_16 : w16.cell? ⟨Bs, 1, none⟩ = some (.slice so1 L1.length sc1) := (by rw [b16.cell (by first | omega | (simp; done) | (simp; omega))]; go_cell)
            have sl_16 : Bs < w16.heap.size := (by have := b16.size; first | omega | (revert this; simp; done) | (revert this; simp; omega))
            have g0_16 : w16.cell? ⟨w9.heap.size, 0, none⟩ = some (.slice go0 L0.length gc0) := (by rw [b16.cell (by first | omega | (simp; done) | (simp; omega))]; go_cell)
            have g1_16 : w16.cell? ⟨w9.heap.size, 1, none⟩ = some (.slice go1 L1.length gc1) := (by rw [b16.cell (by first | omega | (simp; done) | (simp; omega))]; go_cell)
            have gl_16 : w9.heap.size < w16.heap.size := (by have := b16.size; first | omega | (revert this; simp; done) | (revert this; simp; omega))
            clear a0_15 a1_15 al_15 b0_15 b1_15 b2_15 b3_15 bl_15 s0_15 s1_15 sl_15 g0_15 g1_15 gl_15
            have RS_16 := hid (RS_15.out.later d16)
            have OG_16 := hid (OG_15.out.later d16)
            have OF_16 := hid (OF_15.out.later d16)
            have E5_16 : Below w4.heap.size w4 w16 := E5_15.trans (d16.mono E5_15.size)
            clear d16 RS_15 OG_15 OF_15 E5_15
            clear b16
            go_wp2_with fail
            refine (markAns_any _ _ L0 L1 gg w9.heap.size _ OG_16.out OF_16.out HGG.out.2 (by have := gl_16; omega) HM.out).mono ?_
            rintro e w17 ⟨rfl, hog, hof, hn⟩
            have c17 : Below w.heap.size w w17 := c16.trans (hn.below (fun b hb => by have := hb.1; have := HGG.out.1; have := HZ.out; have := HAL.out; have := HB.out; omega) c16.size)
            have z17 := hn.size
            have h_a := hn.block (w.heap.size) (by have := al_16; omega) (fun q => by have := q.1; have := HGG.out.1; have := HZ.out; have := HB.out; have := HAL.out; have := HSL.out; omega)
            have a0_17 := (World.cell?_of_block (a := ⟨w.heap.size, 0, none⟩) h_a).trans a0_16
            have a1_17 := (World.cell?_of_block (a := ⟨w.heap.size, 1, none⟩) h_a).trans a1_16
            have al_17 : w.heap.size < w17.heap.size := by have := al_16; omega
            clear h_a a0_16 a1_16 al_16
            have h_b := hn.block (w.heap.size + 1) (by have := bl_16; omega) (fun q => by have := q.1; have := HGG.out.1; have := HZ.out; have := HB.out; have := HAL.out; have := HSL.out; omega)
            have b0_17 := (World.cell?_of_block (a := ⟨w.heap.size + 1, 0, none⟩) h_b).trans b0_16
            have b1_17 := (World.cell?_of_block (a := ⟨w.heap.size + 1, 1, none⟩) h_b).trans b1_16
            have b2_17 := (World.cell?_of_block (a := ⟨w.heap.size + 1, 2, none⟩) h_b).trans b2_16
            have b3_17 := (World.cell?_of_block (a := ⟨w.heap.size + 1, 3, none⟩) h_b).trans b3_16
            have bl_17 : w.heap.size + 1 < w17.heap.size := by have := bl_16; omega
            clear h_b b0_16 b1_16 b2_16 b3_16 bl_16
            have h_s := hn.block (Bs) (by have := sl_16; omega) (fun q => by have := q.1; have := HGG.out.1; have := HZ.out; have := HB.out; have := HAL.out; have := HSL.out; omega)
            have s0_17 := (World.cell?_of_block (a := ⟨Bs, 0, none⟩) h_s).trans s0_16
            have s1_17 := (World.cell?_of_block (a := ⟨Bs, 1, none⟩) h_s).trans s1_16
            have sl_17 : Bs < w17.heap.size := by have := sl_16; omega
            clear h_s s0_16 s1_16 sl_16
            have h_g := hn.block (w9.heap.size) (by have := gl_16; omega) (fun q => Nat.lt_irrefl _ q.2)
            have g0_17 := (World.cell?_of_block (a := ⟨w9.heap.size, 0, none⟩) h_g).trans g0_16
            have g1_17 := (World.cell?_of_block (a := ⟨w9.heap.size, 1, none⟩) h_g).trans g1_16
            have gl_17 : w9.heap.size < w17.heap.size := by have := gl_16; omega
            clear h_g g0_16 g1_16 gl_16
            have E5_17 : Below w4.heap.size w4 w17 := E5_16.trans (hn.below (fun b hb => by have := hb.1; have := HGG.out.1; have := HZ.out; have := HB.out; omega) E5_16.size)
            have RS_17 := hid (HRS.out.later E5_17)
            have RM_17 := hid (show RSCache w17 _ _ (relM 3 1 L0) (relM 1 (1 + cntM 3 L0) L1) from ⟨hog.rd (by decide) (by decide), hof.rd⟩)
            clear hn hog hof OG_16 OF_16 RS_16 E5_16
            have HG1 := fun (W : World) (v0 v1 : Value) (h : RSCache W v0 v1 (relM 3 1 L0) (relM 1 (1 + cntM 3 L0) L1)) => heldCache_all v0 v1 L0 L1 1 W h.h0 h.h1 HLL.out.1 HLL.out.2 (by omega) HM.out
            obtain ⟨km, hkm⟩ : ∃ z : Int, 1 + cntM 3 L0 + cntM 1 L1 = z := ⟨_, rfl⟩
            have hkp : ¬ (km < 0) := by have := HPL.out.1; have := HPL.out.2; omega
            rw [hkm] at HG1 ⊢
            clear hkm
            go_wp2_with fail
            refine (HG1 _ _ _ RM_17.out).mono ?_
            rintro e w18 ⟨rfl, b18⟩
            have d18 : Below w17.heap.size w17 w18 := (Below.trans (by go_grown) (b18.mono (by first | omega | (simp; done) | (simp; omega))))
            have c18 : Below w.heap.size w w18 := c17.trans (d18.mono c17.size)
            have a0_18 : w18.cell? ⟨w.heap.size, 0, none⟩ = some (.slice ao0 A0.length ac0) := (by rw [b18.cell (by first | omega | (simp; done) | (simp; omega))]; go_cell)
            have a1_18 : w18.cell? ⟨w.heap.size, 1, none⟩ = some (.slice ao1 A1.length ac1) := (by rw [b18.cell (by first | omega | (simp; done) | (simp; omega))]; go_cell)
            have al_18 : w.heap.size < w18.heap.size := (by have := b18.size; first | omega | (revert this; simp; done) | (revert this; simp; omega))
            have b0_18 : w18.cell? ⟨w.heap.size + 1, 0, none⟩ = some (.int .i64 k) := (by rw [b18.cell (by first | omega | (simp; done) | (simp; omega))]; go_cell)
            have b1_18 : w18.cell? ⟨w.heap.size + 1, 1, none⟩ = some (.int .i64 v) := (by rw [b18.cell (by first | omega | (simp; done) | (simp; omega))]; go_cell)
            have b2_18 : w18.cell? ⟨w.heap.size + 1, 2, none⟩ = some (.int .i64 n) := (by rw [b18.cell (by first | omega | (simp; done) | (simp; omega))]; go_cell)
            have b3_18 : w18.cell? ⟨w.heap.size + 1, 3, none⟩ = some (.slice uo l.length uc) := (by rw [b18.cell (by first | omega | (simp; done) | (simp; omega))]; go_cell)
            have bl_18 : w.heap.size + 1 < w18.heap.size := (by have := b18.size; first | omega | (revert this; simp; done) | (revert this; simp; omega))
            have s0_18 : w18.cell? ⟨Bs, 0, none⟩ = some (.slice so0 L0.length sc0) := (by rw [b18.cell (by first | omega | (simp; done) | (simp; omega))]; go_cell)
            have s1_18 : w18.cell? ⟨Bs, 1, none⟩ = some (.slice so1 L1.length sc1) := (by rw [b18.cell (by first | omega | (simp; done) | (simp; omega))]; go_cell)
            have sl_18 : Bs < w18.heap.size := (by have := b18.size; first | omega | (revert this; simp; done) | (revert this; simp; omega))
            have g0_18 : w18.cell? ⟨w9.heap.size, 0, none⟩ = some (.slice go0 L0.length gc0) := (by rw [b18.cell (by first | omega | (simp; done) | (simp; omega))]; go_cell)
            have g1_18 : w18.cell? ⟨w9.heap.size, 1, none⟩ = some (.slice go1 L1.length gc1) := (by rw [b18.cell (by first | omega | (simp; done) | (simp; omega))]; go_cell)
            have gl_18 : w9.heap.size < w18.heap.size := (by have := b18.size; first | omega | (revert this; simp; done) | (revert this; simp; omega))
            clear a0_17 a1_17 al_17 b0_17 b1_17 b2_17 b3_17 bl_17 s0_17 s1_17 sl_17 g0_17 g1_17 gl_17
            have RS_18 := hid (RS_17.out.later d18)
            have RM_18 := hid (RM_17.out.later d18)
            have E5_18 : Below w4.heap.size w4 w18 := E5_17.trans (d18.mono E5_17.size)
            clear d18 RS_17 RM_17 E5_17
            clear b18
            have hul : l.length ≤ 1048576 := HUL.out
            go_upto_region 31 with fail
            go_cut [15, 16] from 94 (fun s1 s2 wx => CutS w18 L0 L1 c s1 s2 wx)
            case first =>
              go_region_with (first
                | (go_at_call 9; refine (toCache_rd (.slice ao0 A0.length ac0) (.slice ao1 A1.length ac1) A0 A1 _ (HA.out.later (Below.trans c18 (Below.mono (by go_grown) c18.size))) HLA.out).mono ?_; rintro e w50 ⟨⟨zo0, zo1, zc0, zc1, rfl, oa⟩, b50⟩; (first | with_reducible have V50 := VarC.drawn b50 | skip); have d50 : Below w18.heap.size w18 w50 := (Below.trans (by go_grown) (b50.mono (by first | omega | (simp; done) | (simp; omega)))); have c50 : Below w.heap.size w w50 := c18.trans (d50.mono c18.size); have b0_50 : w50.cell? ⟨w.heap.size + 1, 0, none⟩ = some (.int .i64 k) := (by rw [b50.cell (by first | omega | (simp; done) | (simp; omega))]; go_cell); have b1_50 : w50.cell? ⟨w.heap.size + 1, 1, none⟩ = some (.int .i64 v) := (by rw [b50.cell (by first | omega | (simp; done) | (simp; omega))]; go_cell); have b2_50 : w50.cell? ⟨w.heap.size + 1, 2, none⟩ = some (.int .i64 n) := (by rw [b50.cell (by first | omega | (simp; done) | (simp; omega))]; go_cell); have b3_50 : w50.cell? ⟨w.heap.size + 1, 3, none⟩ = some (.slice uo l.length uc) := (by rw [b50.cell (by first | omega | (simp; done) | (simp; omega))]; go_cell); have bl_50 : w.heap.size + 1 < w50.heap.size := (by have := b50.size; first | omega | (revert this; simp; done) | (revert this; simp; omega)); clear b0_18 b1_18 b2_18 b3_18 bl_18; have R50 := hid oa; clear oa)
                | (go_at_call 23; refine (toItem_any k v n _ l _ (HU.out.later (Below.trans c50 (Below.mono (by go_grown) c50.size))) hul).mono ?_; rintro e w51 ⟨yv, rfl, hoy, b51⟩; (first | with_reducible have V51 := VarC.past b51 | skip); have RI51 := hid hoy.rd; obtain ⟨yo, yc, hyv, _⟩ := hoy.rd; subst hyv; have d51 : Below w50.heap.size w50 w51 := (Below.trans (by go_grown) (b51.mono (by first | omega | (simp; done) | (simp; omega)))); have c51 : Below w.heap.size w w51 := c50.trans (d51.mono c50.size); (first | with_reducible have V51 := VarC.later V50 d51 | skip); have R51 := hid (R50.out.later d51); clear hoy)
                | (go_at_call 24; refine (ID _ _ _ _ (R51.out.later (by go_grown)).h0 (R51.out.later (by go_grown)).h1 (RI51.out.later (by go_grown))).mono ?_; rintro e w52 ⟨⟨rr, rfl, hrr⟩, b52⟩; obtain ⟨so0v, so1v, hrv, hap⟩ := hrr.apart; subst hrv; clear hrr; (first | (with_reducible have V52 := VarC.past b52; have y0 := V52.c0; have y1 := V52.c1; have y2 := V52.f0; have y3 := V52.f1; have y4 := V52.lt) | skip); have d52 : Below w51.heap.size w51 w52 := (Below.trans (by go_grown) (b52.mono (by first | omega | (simp; done) | (simp; omega)))); have c52 : Below w.heap.size w w52 := c51.trans (d52.mono c51.size); (first | (with_reducible have V52 := VarC.later V51 d52; have y0 := V52.c0; have y1 := V52.c1; have y2 := V52.f0; have y3 := V52.f1; have y4 := V52.lt) | skip); obtain ⟨po0, po1, pc0, pc1, hv0, hv1⟩ := hap.self.open; subst hv0 hv1; have AP52 := hid hap; clear hap))
              all_goals
                go_wp2_with fail
                go_meet
                have e52 := (d50.trans (d51.mono d50.size)).trans (d52.mono (Nat.le_trans d50.size d51.size))
                have t50 := d50.size
                have t51 := d51.size
                try have q51 := V51.lt
                try have q50 := V50.lt
                first
                  | (with_reducible exact CutS.of_new AP52.out e52)
                  | (with_reducible refine CutS.of_set V52 AP52.out e52 ?_ ?_ <;> first | omega | (simp; done) | (simp; omega) | trace_state)
            case rest =>
              obtain ⟨Bh, ho0, ho1, hc0, hc1, rfl, rfl, hh0, hh1, q0, q1, hrd, b19⟩ := hcut
              obtain ⟨w19, hw19⟩ : ∃ y, y = wc := ⟨_, rfl⟩
              subst hw19
              have d19 : Below w18.heap.size w18 w19 := (Below.trans (by go_grown) (b19.mono (by first | omega | (simp; done) | (simp; omega))))
              have c19 : Below w.heap.size w w19 := c18.trans (d19.mono c18.size)
              have a0_19 : w19.cell? ⟨w.heap.size, 0, none⟩ = some (.slice ao0 A0.length ac0) := (by rw [b19.cell (by first | omega | (simp; done) | (simp; omega))]; go_cell)
              have a1_19 : w19.cell? ⟨w.heap.size, 1, none⟩ = some (.slice ao1 A1.length ac1) := (by rw [b19.cell (by first | omega | (simp; done) | (simp; omega))]; go_cell)
              have al_19 : w.heap.size < w19.heap.size := (by have := b19.size; first | omega | (revert this; simp; done) | (revert this; simp; omega))
              have b0_19 : w19.cell? ⟨w.heap.size + 1, 0, none⟩ = some (.int .i64 k) := (by rw [b19.cell (by first | omega | (simp; done) | (simp; omega))]; go_cell)
              have b1_19 : w19.cell? ⟨w.heap.size + 1, 1, none⟩ = some (.int .i64 v) := (by rw [b19.cell (by first | omega | (simp; done) | (simp; omega))]; go_cell)
              have b2_19 : w19.cell? ⟨w.heap.size + 1, 2, none⟩ = some (.int .i64 n) := (by rw [b19.cell (by first | omega | (simp; done) | (simp; omega))]; go_cell)
              have b3_19 : w19.cell? ⟨w.heap.size + 1, 3, none⟩ = some (.slice uo l.length uc) := (by rw [b19.cell (by first | omega | (simp; done) | (simp; omega))]; go_cell)
              have bl_19 : w.heap.size + 1 < w19.heap.size := (by have := b19.size; first | omega | (revert this; simp; done) | (revert this; simp; omega))
              have s0_19 : w19.cell? ⟨Bs, 0, none⟩ = some (.slice so0 L0.length sc0) := (by rw [b19.cell (by first | omega | (simp; done) | (simp; omega))]; go_cell)
              have s1_19 : w19.cell? ⟨Bs, 1, none⟩ = some (.slice so1 L1.length sc1) := (by rw [b19.cell (by first | omega | (simp; done) | (simp; omega))]; go_cell)
              have sl_19 : Bs < w19.heap.size := (by have := b19.size; first | omega | (revert this; simp; done) | (revert this; simp; omega))
              have g0_19 : w19.cell? ⟨w9.heap.size, 0, none⟩ = some (.slice go0 L0.length gc0) := (by rw [b19.cell (by first | omega | (simp; done) | (simp; omega))]; go_cell)
              have g1_19 : w19.cell? ⟨w9.heap.size, 1, none⟩ = some (.slice go1 L1.length gc1) := (by rw [b19.cell (by first | omega | (simp; done) | (simp; omega))]; go_cell)
              have gl_19 : w9.heap.size < w19.heap.size := (by have := b19.size; first | omega | (revert this; simp; done) | (revert this; simp; omega))
              clear a0_18 a1_18 al_18 b0_18 b1_18 b2_18 b3_18 bl_18 s0_18 s1_18 sl_18 g0_18 g1_18 gl_18
              have RS_19 := hid (RS_18.out.later d19)
              have RM_19 := hid (RM_18.out.later d19)
              have E5_19 : Below w4.heap.size w4 w19 := E5_18.trans (d19.mono E5_18.size)
              clear d19 RS_18 RM_18 E5_18
              have h0_19 := q0
              have h1_19 := q1
              have hl_19 := hh1
              have RH_19 := hid hrd
              clear q0 q1 hh1 hrd b19
              go_wp2_with fail
              refine (eqCache_rd _ _ _ _ L0 L1 _ RH_19.out RS_19.out).mono ?_
              rintro e w20 ⟨rfl, b20⟩
              have d20 : Below w19.heap.size w19 w20 := (Below.trans (by go_grown) (b20.mono (by first | omega | (simp; done) | (simp; omega))))
              have c20 : Below w.heap.size w w20 := c19.trans (d20.mono c19.size)
              have a0_20 : w20.cell? ⟨w.heap.size, 0, none⟩ = some (.slice ao0 A0.length ac0) := (by rw [b20.cell (by first | omega | (simp; done) | (simp; omega))]; go_cell)
              have a1_20 : w20.cell? ⟨w.heap.size, 1, none⟩ = some (.slice ao1 A1.length ac1) := (by rw [b20.cell (by first | omega | (simp; done) | (simp; omega))]; go_cell)
              have al_20 : w.heap.size < w20.heap.size := (by have := b20.size; first | omega | (revert this; simp; done) | (revert this; simp; omega))
              have b0_20 : w20.cell? ⟨w.heap.size + 1, 0, none⟩ = some (.int .i64 k) := (by rw [b20.cell (by first | omega | (simp; done) | (simp; omega))]; go_cell)
              have b1_20 : w20.cell? ⟨w.heap.size + 1, 1, none⟩ = some (.int .i64 v) := (by rw [b20.cell (by first | omega | (simp; done) | (simp; omega))]; go_cell)
              have b2_20 : w20.cell? ⟨w.heap.size + 1, 2, none⟩ = some (.int .i64 n) := (by rw [b20.cell (by first | omega | (simp; done) | (simp; omega))]; go_cell)
              have b3_20 : w20.cell? ⟨w.heap.size + 1, 3, none⟩ = some (.slice uo l.length uc) := (by rw [b20.cell (by first | omega | (simp; done) | (simp; omega))]; go_cell)
              have bl_20 : w.heap.size + 1 < w20.heap.size := (by have := b20.size; first | omega | (revert this; simp; done) | (revert this; simp; omega))
              have s0_20 : w20.cell? ⟨Bs, 0, none⟩ = some (.slice so0 L0.length sc0) := (by rw [b20.cell (by first | omega | (simp; done) | (simp; omega))]; go_cell)
              have s1_20 : w20.cell? ⟨Bs, 1, none⟩ = some (.slice so1 L1.length sc1) := (by rw [b20.cell (by first | omega | (simp; done) | (simp; omega))]; go_cell)
              have sl_20 : Bs < w20.heap.size := (by have := b20.size; first | omega | (revert this; simp; done) | (revert this; simp; omega))
              have g0_20 : w20.cell? ⟨w9.heap.size, 0, none⟩ = some (.slice go0 L0.length gc0) := (by rw [b20.cell (by first | omega | (simp; done) | (simp; omega))]; go_cell)
              have g1_20 : w20.cell? ⟨w9.heap.size, 1, none⟩ = some (.slice go1 L1.length gc1) := (by rw [b20.cell (by first | omega | (simp; done) | (simp; omega))]; go_cell)
              have gl_20 : w9.heap.size < w20.heap.size := (by have := b20.size; first | omega | (revert this; simp; done) | (revert this; simp; omega))
              have h0_20 : w20.cell? ⟨Bh, 0, none⟩ = some (.slice ho0 L0.length hc0) := (by rw [b20.cell (by first | omega | (simp; done) | (simp; omega))]; go_cell)
              have h1_20 : w20.cell? ⟨Bh, 1, none⟩ = some (.slice ho1 L1.length hc1) := (by rw [b20.cell (by first | omega | (simp; done) | (simp; omega))]; go_cell)
              have hl_20 : Bh < w20.heap.size := (by have := b20.size; first | omega | (revert this; simp; done) | (revert this; simp; omega))
              clear a0_19 a1_19 al_19 b0_19 b1_19 b2_19 b3_19 bl_19 s0_19 s1_19 sl_19 g0_19 g1_19 gl_19 h0_19 h1_19 hl_19
              have RS_20 := hid (RS_19.out.later d20)
              have RM_20 := hid (RM_19.out.later d20)
              have RH_20 := hid (RH_19.out.later d20)
              have E5_20 : Below w4.heap.size w4 w20 := E5_19.trans (d20.mono E5_19.size)
              clear d20 RS_19 RM_19 RH_19 E5_19
              clear b20
              go_wp2_with fail
              refine (HG1 _ _ _ RM_20.out).mono ?_
              rintro e w21 ⟨rfl, b21⟩
              have d21 : Below w20.heap.size w20 w21 := (Below.trans (by go_grown) (b21.mono (by first | omega | (simp; done) | (simp; omega))))
              have c21 : Below w.heap.size w w21 := c20.trans (d21.mono c20.size)
              have a0_21 : w21.cell? ⟨w.heap.size, 0, none⟩ = some (.slice ao0 A0.length ac0) := (by rw [b21.cell (by first | omega | (simp; done) | (simp; omega))]; go_cell)
              have a1_21 : w21.cell? ⟨w.heap.size, 1, none⟩ = some (.slice ao1 A1.length ac1) := (by rw [b21.cell (by first | omega | (simp; done) | (simp; omega))]; go_cell)
              have al_21 : w.heap.size < w21.heap.size := (by have := b21.size; first | omega | (revert this; simp; done) | (revert this; simp; omega))
              have b0_21 : w21.cell? ⟨w.heap.size + 1, 0, none⟩ = some (.int .i64 k) := (by rw [b21.cell (by first | omega | (simp; done) | (simp; omega))]; go_cell)
              have b1_21 : w21.cell? ⟨w.heap.size + 1, 1, none⟩ = some (.int .i64 v) := (by rw [b21.cell (by first | omega | (simp; done) | (simp; omega))]; go_cell)
              have b2_21 : w21.cell? ⟨w.heap.size + 1, 2, none⟩ = some (.int .i64 n) := (by rw [b21.cell (by first | omega | (simp; done) | (simp; omega))]; go_cell)
              have b3_21 : w21.cell? ⟨w.heap.size + 1, 3, none⟩ = some (.slice uo l.length uc) := (by rw [b21.cell (by first | omega | (simp; done) | (simp; omega))]; go_cell)
              have bl_21 : w.heap.size + 1 < w21.heap.size := (by have := b21.size; first | omega | (revert this; simp; done) | (revert this; simp; omega))
              have s0_21 : w21.cell? ⟨Bs, 0, none⟩ = some (.slice so0 L0.length sc0) := (by rw [b21.cell (by first | omega | (simp; done) | (simp; omega))]; go_cell)
              have s1_21 : w21.cell? ⟨Bs, 1, none⟩ = some (.slice so1 L1.length sc1) := (by rw [b21.cell (by first | omega | (simp; done) | (simp; omega))]; go_cell)
              have sl_21 : Bs < w21.heap.size := (by have := b21.size; first | omega | (revert this; simp; done) | (revert this; simp; omega))
              have g0_21 : w21.cell? ⟨w9.heap.size, 0, none⟩ = some (.slice go0 L0.length gc0) := (by rw [b21.cell (by first | omega | (simp; done) | (simp; omega))]; go_cell)
              have g1_21 : w21.cell? ⟨w9.heap.size, 1, none⟩ = some (.slice go1 L1.length gc1) := (by rw [b21.cell (by first | omega | (simp; done) | (simp; omega))]; go_cell)
              have gl_21 : w9.heap.size < w21.heap.size := (by have := b21.size; first | omega | (revert this; simp; done) | (revert this; simp; omega))
              have h0_21 : w21.cell? ⟨Bh, 0, none⟩ = some (.slice ho0 L0.length hc0) := (by rw [b21.cell (by first | omega | (simp; done) | (simp; omega))]; go_cell)
              have h1_21 : w21.cell? ⟨Bh, 1, none⟩ = some (.slice ho1 L1.length hc1) := (by rw [b21.cell (by first | omega | (simp; done) | (simp; omega))]; go_cell)
              have hl_21 : Bh < w21.heap.size := (by have := b21.size; first | omega | (revert this; simp; done) | (revert this; simp; omega))
              clear a0_20 a1_20 al_20 b0_20 b1_20 b2_20 b3_20 bl_20 s0_20 s1_20 sl_20 g0_20 g1_20 gl_20 h0_20 h1_20 hl_20
              have RS_21 := hid (RS_20.out.later d21)
              have RM_21 := hid (RM_20.out.later d21)
              have RH_21 := hid (RH_20.out.later d21)
              have E5_21 : Below w4.heap.size w4 w21 := E5_20.trans (d21.mono E5_20.size)
              clear d21 RS_20 RM_20 RH_20 E5_20
              clear b21
              go_wp2
              go_ret
              exact ⟨by simp, c21⟩
    · subst hrm
      go_wp2
      go_ret
      exact ⟨by simp, c3⟩
  · go_wp2
    go_ret
    exact ⟨by simp, c2⟩
end Go.Proofs.Ytnenlnadmdlcfaa

/- Part: An argument that is a slice of edges reads as a list of pairs. -/
namespace Go.Proofs.Ytnenlnadmdlcfaa
open Go.ChangeShapes Go.WideShapes Go.ChangeAt Go.RowKit Go.Deep

theorem Try.own : ownKnob Try.prog.godebug = none := by kernel_rfl
theorem Try.laidOut : laidOutB Try.prog = true := by kernel_rfl
theorem Try.cells112 : Try.prog.cellsOf 112 = 2 := by kernel_rfl
theorem Try.cells3 : Try.prog.cellsOf 3 = 1 := by kernel_rfl

set_option maxRecDepth 100000 in
theorem rd_of {H : Type} {enc : TypeId × Value → H} {W : World} {base : Nat} {v : Value} {d : DataW H} {p : List MemPlace} (hv : Value.okWide Try.prog W .any base 46 v)
    (h : DataW.Trod enc Try.prog W 0 (fun _ => true) true 46 v d p) (hlt : ∀ x ∈ p, x.block < W.heap.size) : ∃ l, Rd W v l := by
  obtain ⟨a0, len, cap, rfl⟩ := okWide_slice Try.underlying46 hv
  obtain ⟨fuel, hf⟩ := h
  rcases open_slice_pairs Try.underlying46 Try.underlying112 Try.cells112 rfl rfl Try.cells3 Try.cells3 hf with ⟨hcs, _⟩ | ⟨a, len', cap', m, n, V0, V1, D0, D1, P0, P1, hcs, _, hlc, hcm, hm, hx, hcell⟩
  · simp [Value.cells] at hcs
    obtain ⟨rfl, rfl, rfl⟩ := hcs
    exact ⟨[], Rd.nil W none 0⟩
  · simp [Value.cells] at hcs
    obtain ⟨rfl, rfl, rfl⟩ := hcs
    simp only [if_true] at hm
    subst hm
    have num : ∀ (t : Value) (x : DataW H × List MemPlace), DataW.trod enc Try.prog W 0 (fun _ => true) true n 3 [t] = some x → ∃ z, t = .int .i64 z := by
      intro t x hx
      obtain ⟨z, hz, _⟩ := DataW.trod_int Try.underlying3 hx
      exact ⟨z, by simpa using hz⟩
    let N : Value → Int := fun t => match t with | .int _ z => z | _ => 0
    refine ⟨(List.range len).map fun i => (N (V0 i), N (V1 i)), some a, _, by simp; rfl, by simp only [List.length_map, List.length_range]; omega, fun h0 => ?_⟩
    simp only [List.length_map, List.length_range] at h0 ⊢
    obtain ⟨b, off, spot⟩ := a
    have hs : spot = none := by
      have := (hcell 0 (by omega)).1
      simpa [Addr.add] using World.cell?_spot this
    subst hs
    refine ⟨b, off, rfl, ?_, fun i hi => ?_⟩
    · simp only [Prod.mk.injEq] at hx
      have := hlt (.cell b off) (by rw [hx.2]; exact List.mem_append_left _ (MemPlace.mem_row.2 ⟨0, by omega, by simp⟩))
      exact this
    · obtain ⟨c0, c1, t0, t1⟩ := hcell i (by omega)
      obtain ⟨z0, e0⟩ := num _ _ t0
      obtain ⟨z1, e1⟩ := num _ _ t1
      rw [add_plain] at c0 c1
      have hg : ((List.range len).map fun i => (N (V0 i), N (V1 i))).getD i (0, 0) = (z0, z1) := by
        simp [List.getD_eq_getElem?_getD, hi, e0, e1, N]
      rw [hg]
      exact ⟨by rw [c0, e0], by rw [show off + i * 2 + 1 = off + (i * 2 + 1) from by omega, c1, e1]⟩
end Go.Proofs.Ytnenlnadmdlcfaa

/- Part: An argument that is a value (a number and a slice of edges). -/
namespace Go.Proofs.Ytnenlnadmdlcfaa
open Go.ChangeShapes Go.WideShapes Go.ChangeAt Go.RowKit Go.Deep Go.Joins

theorem Try.cells48 : Try.prog.cellsOf 48 = 2 := by kernel_rfl

set_option maxRecDepth 100000 in
theorem rd_of_trod {H : Type} {enc : TypeId × Value → H} {W : World} {v : Value} {d : DataW H} {p : List MemPlace} {fuel : Nat}
    (hf : DataW.trod enc Try.prog W 0 (fun _ => true) true fuel 46 [v] = some (d, p)) (hlt : ∀ x ∈ p, x.block < W.heap.size) : ∃ l, Rd W v l := by
  rcases open_slice_pairs Try.underlying46 Try.underlying112 Try.cells112 rfl rfl Try.cells3 Try.cells3 hf with ⟨hcs, _⟩ | ⟨a, len', cap', m, n, V0, V1, D0, D1, P0, P1, hcs, _, hlc, hcm, hm, hx, hcell⟩
  · simp at hcs
    subst hcs
    exact ⟨[], Rd.nil W none 0⟩
  · simp at hcs
    subst hcs
    simp only [if_true] at hm
    subst hm
    have num : ∀ (t : Value) (x : DataW H × List MemPlace), DataW.trod enc Try.prog W 0 (fun _ => true) true n 3 [t] = some x → ∃ z, t = .int .i64 z := by
      intro t x hx
      obtain ⟨z, hz, _⟩ := DataW.trod_int Try.underlying3 hx
      exact ⟨z, by simpa using hz⟩
    let N : Value → Int := fun t => match t with | .int _ z => z | _ => 0
    refine ⟨(List.range len').map fun i => (N (V0 i), N (V1 i)), some a, _, by simp; rfl, by simp only [List.length_map, List.length_range]; omega, fun h0 => ?_⟩
    simp only [List.length_map, List.length_range] at h0 ⊢
    obtain ⟨b, off, spot⟩ := a
    have hs : spot = none := by
      have := (hcell 0 (by omega)).1
      simpa [Addr.add] using World.cell?_spot this
    subst hs
    refine ⟨b, off, rfl, ?_, fun i hi => ?_⟩
    · simp only [Prod.mk.injEq] at hx
      have := hlt (.cell b off) (by rw [hx.2]; exact List.mem_append_left _ (MemPlace.mem_row.2 ⟨0, by omega, by simp⟩))
      exact this
    · obtain ⟨c0, c1, t0, t1⟩ := hcell i (by omega)
      obtain ⟨z0, e0⟩ := num _ _ t0
      obtain ⟨z1, e1⟩ := num _ _ t1
      rw [add_plain] at c0 c1
      have hg : ((List.range len').map fun i => (N (V0 i), N (V1 i))).getD i (0, 0) = (z0, z1) := by
        simp [List.getD_eq_getElem?_getD, hi, e0, e1, N]
      rw [hg]
      exact ⟨by rw [c0, e0], by rw [show off + i * 2 + 1 = off + (i * 2 + 1) from by omega, c1, e1]⟩

set_option maxRecDepth 100000 in
theorem val_of {H : Type} {enc : TypeId × Value → H} {W : World} {base : Nat} {v : Value} {d : DataW H} {p : List MemPlace} (hv : Value.okWide Try.prog W .any base 48 v)
    (h : DataW.Trod enc Try.prog W 0 (fun _ => true) true 48 v d p) (hlt : ∀ x ∈ p, x.block < W.heap.size) : ∃ n u l, v = .agg #[.int .i64 n, u] ∧ Rd W u l := by
  obtain ⟨v0, v1, y0, y1, n, rfl, rfl, rfl, h0, h1⟩ := open_agg2 Try.underlying48 (by kernel_rfl) Try.cells48 hv h
  obtain ⟨z, hz, _⟩ := DataW.trod_int Try.underlying3 h0
  have hz' : v0 = .int .i64 z := by simpa using hz
  obtain ⟨d1, p1⟩ := y1
  obtain ⟨l, hl⟩ := rd_of_trod h1 (fun x hx => hlt x (List.mem_append_right _ hx))
  exact ⟨z, v1, l, by rw [hz'], hl⟩
end Go.Proofs.Ytnenlnadmdlcfaa

/- Part: An argument's cells: numbers, then kin; lists of such. -/
namespace Go.Proofs.Ytnenlnadmdlcfaa
open Go.ChangeShapes Go.WideShapes Go.ChangeAt Go.RowKit Go.Deep Go.Joins

theorem Try.cells46' : Try.prog.cellsOf 46 = 1 := by kernel_rfl
/-- The cells of an element: its m numbers, then its kin. -/
def CellsK (W : World) (m : Nat) (kn : Bool) (cs : List Value) (x : KD) : Prop :=
  x.1.length = m ∧ ∃ us : List Value, cs = x.1.map (fun n => Value.int .i64 n) ++ us ∧ (kn = true → ∃ u, us = [u] ∧ Rd W u x.2) ∧ (kn = false → us = [] ∧ x.2 = [])
theorem CellsK.append {W : World} {m1 m2 : Nat} {kn : Bool} {cs1 cs2 : List Value} {x1 x2 : KD} (h1 : CellsK W m1 false cs1 x1) (h2 : CellsK W m2 kn cs2 x2) : CellsK W (m1 + m2) kn (cs1 ++ cs2) (x1.1 ++ x2.1, x2.2) := by
  obtain ⟨l1, us1, rfl, _, g1⟩ := h1
  obtain ⟨l2, us2, rfl, f2, g2⟩ := h2
  obtain ⟨rfl, _⟩ := g1 rfl
  exact ⟨by rw [List.length_append, l1, l2], us2, by simp, f2, g2⟩
theorem CellsK.at {W : World} {m : Nat} {kn : Bool} {cs : List Value} {x : KD} {b p : Nat} (h : CellsK W m kn cs x) (hc : ∀ j, j < cs.length → W.cell? ⟨b, p + j, none⟩ = cs[j]?) : AtK m kn W b p x := by
  obtain ⟨l, us, rfl, f, g⟩ := h
  refine ⟨l, fun j hj => ?_, fun hk => ?_, fun hk => (g hk).2⟩
  · rw [hc j (by simp; omega), List.getElem?_append_left (by simp; omega), List.getElem?_map, List.getElem?_eq_getElem (by omega)]
    simp [List.getD_eq_getElem?_getD, List.getElem?_eq_getElem (show j < x.1.length by omega)]
  · obtain ⟨u, rfl, hu⟩ := f hk
    exact ⟨u, by rw [hc m (by simp [l]), List.getElem?_append_right (by simp [l])]; simp [l], hu⟩
/-- Whatever is read by a type has such cells. -/
def ElemK {H : Type} (enc : TypeId × Value → H) (W : World) (t : TypeId) (m : Nat) (kn : Bool) : Prop :=
  ∀ (fuel : Nat) (cs : List Value) (d : DataW H) (p : List MemPlace), DataW.trod enc Try.prog W 0 (fun _ => true) true fuel t cs = some (d, p) → (∀ x ∈ p, x.block < W.heap.size) → ∃ x, CellsK W m kn cs x
theorem elem_int {H : Type} (enc : TypeId × Value → H) (W : World) : ElemK enc W 3 1 false := by
  intro fuel cs d p h _
  obtain ⟨z, hz, _⟩ := DataW.trod_int Try.underlying3 h
  exact ⟨([z], []), rfl, [], by simpa using hz, fun q => (by cases q), fun _ => ⟨rfl, rfl⟩⟩
theorem elem_kin {H : Type} (enc : TypeId × Value → H) (W : World) : ElemK enc W 46 0 true := by
  intro fuel cs d p h hlt
  have : ∃ v, cs = [v] := by
    rcases open_slice Try.underlying46 h with ⟨hc, _⟩ | ⟨a, len, cap, _, _, _, _, hc, _⟩
    · exact ⟨_, hc⟩
    · exact ⟨_, hc⟩
  obtain ⟨v, rfl⟩ := this
  obtain ⟨l, hl⟩ := rd_of_trod h hlt
  exact ⟨([], l), rfl, [v], rfl, fun _ => ⟨v, rfl, hl⟩, fun q => (by cases q)⟩

set_option maxRecDepth 100000 in
theorem rdM_of_trod {H : Type} {enc : TypeId × Value → H} {W : World} {v : Value} {d : DataW H} {p : List MemPlace} {fuel : Nat} {t e : TypeId} {sz m : Nat} {kn : Bool} (ht : Try.prog.underlying t = some (.slice e)) (hce : Try.prog.cellsOf e = sz) (hsz : 0 < sz) (he : ElemK enc W e m kn)
    (hf : DataW.trod enc Try.prog W 0 (fun _ => true) true fuel t [v] = some (d, p)) (hlt : ∀ x ∈ p, x.block < W.heap.size) : ∃ L, RdM sz m kn W v L := by
  rcases open_slice ht hf with ⟨hcs, _⟩ | ⟨a, len, cap, mm, n, D, Pl, hcs, _, hl, hm, hmm, hx, hcell⟩
  · simp at hcs
    subst hcs
    exact ⟨[], RdM.nil W none 0⟩
  · simp at hcs
    subst hcs
    simp only [if_true] at hmm
    subst hmm
    simp only [Prod.mk.injEq] at hx
    rw [hce] at hcell hx
    have each : ∀ i, i < mm → ∃ q : List Value × KD, W.cells? 0 (a.add (i * sz)) sz = some q.1 ∧ CellsK W m kn q.1 q.2 := by
      intro i hi
      obtain ⟨cs', h1, h2⟩ := hcell i hi
      obtain ⟨x, hxk⟩ := he n cs' (D i) (Pl i) h2 (fun x hx1 => hlt x (by
        rw [hx.2]
        exact List.mem_append_right _ (List.mem_flatMap.2 ⟨i, List.mem_range.2 hi, hx1⟩)))
      exact ⟨(cs', x), h1, hxk⟩
    let N : Nat → KD := fun i => if h : i < mm then (each i h).choose.2 else kd0
    refine ⟨(List.range len).map N, some a, mm, by simp, by simp only [List.length_map, List.length_range]; omega, fun h0 => ?_⟩
    simp only [List.length_map, List.length_range] at h0 ⊢
    have hfirst : ∃ u, W.cell? (a.add (0 * sz)) = some u := by
      obtain ⟨cs', h1, _⟩ := hcell 0 (by omega)
      obtain ⟨_, hlen, hcc⟩ := World.cells?_some h1
      have := hcc 0 hsz
      refine ⟨cs'[0]'(by omega), ?_⟩
      rw [add_add, Nat.add_zero] at this
      rw [this]
      simp [List.getElem?_eq_getElem (show 0 < cs'.length by omega)]
    obtain ⟨b, off, spot⟩ := a
    have hs : spot = none := by
      obtain ⟨u, hu⟩ := hfirst
      simpa [Addr.add] using World.cell?_spot hu
    subst hs
    refine ⟨b, off, rfl, ?_, fun i hi => ?_⟩
    · have := hlt (.cell b off) (by rw [hx.2]; exact List.mem_append_left _ (MemPlace.mem_row.2 ⟨0, Nat.mul_pos (by omega) hsz, by simp⟩))
      exact this
    · have hg : ((List.range len).map N).getD i kd0 = N i := by
        simp [List.getD_eq_getElem?_getD, hi]
      rw [hg]
      have hi' : i < mm := by omega
      obtain ⟨h1, h2⟩ := (each i hi').choose_spec
      have hN : N i = (each i hi').choose.2 := by simp only [N, dif_pos hi']
      rw [hN]
      obtain ⟨_, hlen, hcc⟩ := World.cells?_some h1
      refine h2.at fun j hj => ?_
      have e : (((⟨b, off, none⟩ : Addr).add (i * sz)).add j) = ⟨b, off + i * sz + j, none⟩ := by rw [add_plain, add_plain]
      exact (congrArg W.cell? e).symm.trans (hcc j (by omega))
end Go.Proofs.Ytnenlnadmdlcfaa

/- Part: An argument that is a Cache. Written by a program (gopen.py). -/
namespace Go.Proofs.Ytnenlnadmdlcfaa
open Go.ChangeShapes Go.WideShapes Go.ChangeAt Go.RowKit Go.Deep Go.Joins

theorem Try.cells_Val : Try.prog.cellsOf 48 = 2 := by kernel_rfl
set_option maxRecDepth 100000 in
theorem elem_Val {H : Type} (enc : TypeId × Value → H) (W : World) : ElemK enc W 48 1 true := by
  intro fuel cs d p h hlt
  obtain ⟨xs, n, _, hx, hl, hxl, hff⟩ := DataW.trod_struct Try.underlying48 h
  rw [Try.cells_Val] at hl
  simp only [Prod.mk.injEq] at hx
  match xs, hxl, hx, hff with
  | [(d0, q0), (d1, q1)], _, hx, hff =>
    have h0 : DataW.trod enc Try.prog W 0 (fun _ => true) true n 3 ((cs.drop 0).take 1) = some (d0, q0) := by
      have h := hff 0 _ rfl
      first | exact h | (rw [Try.cells3] at h; exact h)
    obtain ⟨x0, k0⟩ := elem_int enc W _ _ _ _ h0 (fun x hx1 => hlt x (by rw [hx.2]; simp only [List.flatMap_cons, List.flatMap_nil, List.mem_append]; exact Or.inl hx1))
    have h1 : DataW.trod enc Try.prog W 0 (fun _ => true) true n 46 ((cs.drop 1).take 1) = some (d1, q1) := by
      have h := hff 1 _ rfl
      first | exact h | (rw [Try.cells46'] at h; exact h)
    obtain ⟨x1, k1⟩ := elem_kin enc W _ _ _ _ h1 (fun x hx1 => hlt x (by rw [hx.2]; simp only [List.flatMap_cons, List.flatMap_nil, List.mem_append]; exact Or.inr (Or.inl hx1)))
    have e : cs = (cs.drop 0).take 1 ++ ((cs.drop 1).take 1) := by
      match cs, hl with
      | [z0, z1], _ => rfl
    have k := (k0.append k1)
    rw [← e] at k
    exact ⟨_, k⟩
theorem Try.cells_Item : Try.prog.cellsOf 50 = 4 := by kernel_rfl
set_option maxRecDepth 100000 in
theorem elem_Item {H : Type} (enc : TypeId × Value → H) (W : World) : ElemK enc W 50 3 true := by
  intro fuel cs d p h hlt
  obtain ⟨xs, n, _, hx, hl, hxl, hff⟩ := DataW.trod_struct Try.underlying50 h
  rw [Try.cells_Item] at hl
  simp only [Prod.mk.injEq] at hx
  match xs, hxl, hx, hff with
  | [(d0, q0), (d1, q1), (d2, q2)], _, hx, hff =>
    have h0 : DataW.trod enc Try.prog W 0 (fun _ => true) true n 3 ((cs.drop 0).take 1) = some (d0, q0) := by
      have h := hff 0 _ rfl
      first | exact h | (rw [Try.cells3] at h; exact h)
    obtain ⟨x0, k0⟩ := elem_int enc W _ _ _ _ h0 (fun x hx1 => hlt x (by rw [hx.2]; simp only [List.flatMap_cons, List.flatMap_nil, List.mem_append]; exact Or.inl hx1))
    have h1 : DataW.trod enc Try.prog W 0 (fun _ => true) true n 3 ((cs.drop 1).take 1) = some (d1, q1) := by
      have h := hff 1 _ rfl
      first | exact h | (rw [Try.cells3] at h; exact h)
    obtain ⟨x1, k1⟩ := elem_int enc W _ _ _ _ h1 (fun x hx1 => hlt x (by rw [hx.2]; simp only [List.flatMap_cons, List.flatMap_nil, List.mem_append]; exact Or.inr (Or.inl hx1)))
    have h2 : DataW.trod enc Try.prog W 0 (fun _ => true) true n 48 ((cs.drop 2).take 2) = some (d2, q2) := by
      have h := hff 2 _ rfl
      first | exact h | (rw [Try.cells_Val] at h; exact h)
    obtain ⟨x2, k2⟩ := elem_Val enc W _ _ _ _ h2 (fun x hx1 => hlt x (by rw [hx.2]; simp only [List.flatMap_cons, List.flatMap_nil, List.mem_append]; exact Or.inr (Or.inr (Or.inl hx1))))
    have e : cs = (cs.drop 0).take 1 ++ ((cs.drop 1).take 1 ++ ((cs.drop 2).take 2)) := by
      match cs, hl with
      | [z0, z1, z2, z3], _ => rfl
    have k := (k0.append (k1.append k2))
    rw [← e] at k
    exact ⟨_, k⟩
theorem Try.cellsL_Item : Try.prog.cellsOf 22 = 1 := by kernel_rfl
theorem Try.cellsL_int : Try.prog.cellsOf 23 = 1 := by kernel_rfl
theorem Try.cells_Cache : Try.prog.cellsOf 25 = 2 := by kernel_rfl
set_option maxRecDepth 100000 in
theorem cache_of {H : Type} {enc : TypeId × Value → H} {W : World} {base : Nat} {v : Value} {d : DataW H} {p : List MemPlace} (hv : Value.okWide Try.prog W .any base 25 v)
    (h : DataW.Trod enc Try.prog W 0 (fun _ => true) true 25 v d p) (hlt : ∀ x ∈ p, x.block < W.heap.size) : ∃ (u0 u1 : Value) (L0 L1 : List KD), v = .agg #[u0, u1] ∧ RSCache W u0 u1 L0 L1 := by
  obtain ⟨cs, rfl, hsz⟩ := okWide_struct Try.underlying25 hv
  rw [Try.cells_Cache] at hsz
  obtain ⟨z0, z1, rfl⟩ : ∃ z0 z1, cs = #[z0, z1] := by
    obtain ⟨l⟩ := cs
    match l, hsz with
    | [z0, z1], _ => exact ⟨z0, z1, rfl⟩
  obtain ⟨fuel, hf⟩ := h
  obtain ⟨xs, n, _, hx, _, hxl, hff⟩ := DataW.trod_struct Try.underlying25 hf
  simp only [Prod.mk.injEq] at hx
  match xs, hxl, hx, hff with
  | [(d0, q0), (d1, q1)], _, hx, hff =>
    have h0 := hff 0 _ rfl
    simp [Value.cells, Try.cellsL_Item] at h0
    obtain ⟨L0, hL0⟩ := rdM_of_trod (sz := 4) (m := 3) (kn := true) Try.underlying22 Try.cells_Item (by decide) (elem_Item enc W) h0 (fun x hx1 => hlt x (by rw [hx.2]; simp only [List.flatMap_cons, List.flatMap_nil, List.mem_append]; exact Or.inl hx1))
    have h1 := hff 1 _ rfl
    simp [Value.cells, Try.cellsL_int] at h1
    obtain ⟨L1, hL1⟩ := rdM_of_trod (sz := 1) (m := 1) (kn := false) Try.underlying23 Try.cells3 (by decide) (elem_int enc W) h1 (fun x hx1 => hlt x (by rw [hx.2]; simp only [List.flatMap_cons, List.flatMap_nil, List.mem_append]; exact Or.inr (Or.inl hx1)))
    exact ⟨z0, z1, L0, L1, rfl, ⟨hL0, hL1⟩⟩
end Go.Proofs.Ytnenlnadmdlcfaa

/- Part: An argument that is an item. -/
namespace Go.Proofs.Ytnenlnadmdlcfaa
open Go.ChangeShapes Go.WideShapes Go.ChangeAt Go.RowKit Go.Deep Go.Joins

set_option maxRecDepth 100000 in
theorem item_of {H : Type} {enc : TypeId × Value → H} {W : World} {base : Nat} {v : Value} {d : DataW H} {p : List MemPlace} (hv : Value.okWide Try.prog W .any base 50 v)
    (h : DataW.Trod enc Try.prog W 0 (fun _ => true) true 50 v d p) (hlt : ∀ x ∈ p, x.block < W.heap.size) : ∃ (k a n : Int) (u : Value) (l : List (Int × Int)), v = .agg #[.int .i64 k, .int .i64 a, .int .i64 n, u] ∧ Rd W u l := by
  obtain ⟨cs, rfl, _⟩ := okWide_struct Try.underlying50 hv
  obtain ⟨fuel, hf⟩ := h
  obtain ⟨x, hlen, tl, hcs, hk, _⟩ := elem_Item enc W fuel _ _ _ hf hlt
  obtain ⟨p0, p1, p2, l, rfl⟩ := kd_3k hlen
  obtain ⟨u, rfl, hr⟩ := hk rfl
  refine ⟨p0, p1, p2, u, l, ?_, hr⟩
  obtain ⟨cl⟩ := cs
  simp [Value.cells] at hcs
  rw [hcs]
end Go.Proofs.Ytnenlnadmdlcfaa

/- Part: What every row here asks of the program: two closed facts. -/
namespace Go.Proofs.Ytnenlnadmdlcfaa
open Go.ChangeShapes Go.WideShapes Go.ChangeAt Go.RowKit
end Go.Proofs.Ytnenlnadmdlcfaa

/- Part: Proved here: FnExactCachePut returns true for every cache and every item (no condition); what it was handed reads as before. -/
namespace Go.Proofs.Ytnenlnadmdlcfaa
open Go.ChangeShapes Go.WideShapes Go.ChangeAt Go.RowKit

set_option maxRecDepth 100000 in
theorem cPut_lifted (os : Os) (started : os.Started) (H : Type) (enc : TypeId × Value → H) :
    ReturnsInHanded {} Try.checked os 6 .any (Rows.fnExactCachePutSpec.pre6 enc Try.prog Try.f6 Rows.fnExactCachePutRow.domain false) (Rows.fnExactCachePutSpec.post enc Try.prog Try.f6 false true false false) := by
  refine returnsInHanded_of_change (C := Try.checked) Try.own started (by kernel_rfl) Try.func6
    (ChangeSpec.witness6 (enc := enc) (C := Try.checked) false ⟨#[], #[.agg #[.slice none 0 0, .slice none 0 0], .agg #[.int .i64 0, .int .i64 0, .int .i64 0, .slice none 0 0]], []⟩ 8 (by kernel_rfl) (by kernel_rfl) (by kernel_rfl) (by kernel_rfl)) ?_
  intro W base args ds gs before hval0 hW _ _
  have hval : ∀ (j : Nat) t v, Try.f6.params[j]? = some t → args[j]? = some v → Value.okWide Try.prog W .any base t v := hval0
  have hW' := hW
  obtain ⟨p, q, hA0, hV, rfl, _, _⟩ := hW
  have hA : DataW.TrodAll enc Try.prog W 0 (fun _ => true) true Try.f6.params.toList args.toList ds p := hA0
  rw [Try.params6] at hA hval
  obtain ⟨v0, v1, d0, d1, p0, p1, rfl, rfl, rfl, h0, h1⟩ := trodAll_two hA
  obtain ⟨rfl, rfl⟩ := trodVars_none hV
  clear hA0 hval0
  simp only [List.append_nil] at hW'
  have hlt0 : ∀ x ∈ p0, x.block < W.heap.size := fun x hx => by have := hW'.lt x (by first | exact hx | (simp; first | exact hx | exact Or.inl hx | exact Or.inr hx | exact Or.inr (Or.inl hx))); exact this
  obtain ⟨u0_0, u0_1, l0_0, l0_1, ev0, hl0⟩ := cache_of (hval 0 25 v0 rfl rfl) h0 hlt0
  have hargs0 : ∀ (W' : World), Below W.heap.size W W' → DataW.Trod enc Try.prog W' 0 (fun b => decide (b < W.heap.size)) true 25 v0 d0 p0 :=
    fun W' hn => Below.trod Try.laidOut (by kernel_rfl) (of_decide_eq_true (by kernel_rfl)) h0 hn hlt0
  subst ev0
  have hlt1 : ∀ x ∈ p1, x.block < W.heap.size := fun x hx => by have := hW'.lt x (by first | exact hx | (simp; first | exact hx | exact Or.inl hx | exact Or.inr hx | exact Or.inr (Or.inl hx))); exact this
  obtain ⟨k1, a1, b1, u1, l1, ev1, hl1⟩ := item_of (hval 1 50 v1 rfl rfl) h1 hlt1
  have hargs1 : ∀ (W' : World), Below W.heap.size W W' → DataW.Trod enc Try.prog W' 0 (fun b => decide (b < W.heap.size)) true 50 v1 d1 p1 :=
    fun W' hn => Below.trod Try.laidOut (by kernel_rfl) (of_decide_eq_true (by kernel_rfl)) h1 hn hlt1
  subst ev1
  refine (lawCPut_any u0_0 u0_1 l0_0 l0_1 k1 a1 b1 u1 l1 W hl0 hl1).mono fun e W' ⟨he, hnx⟩ => ?_
  subst he
  exact ⟨_, rfl, _, _, _, [], p0 ++ (p1), [], hW', trodAll_mk1 (shut_bool Try.underlying4 _), trodAll_mk2 (hargs0 _ hnx) (hargs1 _ hnx), rfl, hnx.frame _, fun h => by cases h⟩

theorem cPut_holds : Rows.FnExactCachePutSaid :=
  OpenClaim.holds_of_wide 6 Try.f6 rfl rfl rfl rfl rfl rfl rfl ⟨rfl, rfl, rfl, rfl, rfl⟩ rfl rfl rfl rfl rfl (by kernel_rfl) Try.func6 (by kernel_rfl)
    (of_decide_eq_true (by kernel_rfl)) (by unfold Func.isWrapper; first | (rw [if_pos (by decide +kernel)]; kernel_rfl) | (rw [if_neg (by decide +kernel)]; exact ⟨rfl, rfl⟩))
    (fun os started H enc _ => cPut_lifted os started H enc)
#print axioms cPut_holds

end Go.Proofs.Ytnenlnadmdlcfaa
