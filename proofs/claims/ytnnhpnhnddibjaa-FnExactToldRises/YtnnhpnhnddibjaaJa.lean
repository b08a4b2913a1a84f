/- Lists of Told: what it means that a slice reads as one; the law's own eq and sz of such: contracts. Written by a program (gja.py). -/
import Derived.Test.YtnnhpnhnddibjaaGrA
namespace Go.Proofs.Ytnnhpnhnddibjaa
open Go.RowKit
attribute [local go_sem ↓] Go.wp_at_zero Go.wp_at_succ

/-- What was told: a tier, a key, a Ver, a number, whether it was written, a code; kin. -/
def told (t k v n : Int) (b : Bool) (c : Int) (l : List (Int × Int)) : KD := ([t, k, v, n, if b then 1 else 0, c], l)
theorem told_inj {t k v n c t' k' v' n' c' : Int} {b b' : Bool} {l l' : List (Int × Int)} (h : told t k v n b c l = told t' k' v' n' b' c' l') : t = t' ∧ k = k' ∧ v = v' ∧ n = n' ∧ b = b' ∧ c = c' ∧ l = l' := by
  simp only [told, Prod.mk.injEq, List.cons.injEq, and_true] at h
  obtain ⟨⟨h1, h2, h3, h4, h5, h6⟩, h7⟩ := h
  refine ⟨h1, h2, h3, h4, ?_, h6, h7⟩
  cases b <;> cases b' <;> simp_all
/-- It lies from cell p of block b on. -/
def AtT (w : World) (b p : Nat) (x : KD) : Prop :=
  ∃ (a0 a1 a2 a3 : Int) (u : Value) (wr : Bool) (c : Int) (l : List (Int × Int)), x = told a0 a1 a2 a3 wr c l ∧ w.cell? ⟨b, p, none⟩ = some (.int .i64 a0) ∧ w.cell? ⟨b, p + 1, none⟩ = some (.int .i64 a1) ∧ w.cell? ⟨b, p + 2, none⟩ = some (.int .i64 a2) ∧
    w.cell? ⟨b, p + 3, none⟩ = some (.int .i64 a3) ∧ w.cell? ⟨b, p + 4, none⟩ = some u ∧ w.cell? ⟨b, p + 5, none⟩ = some (.bool wr) ∧ w.cell? ⟨b, p + 6, none⟩ = some (.int .i64 c) ∧ Rd w u l
theorem AtT.later {w w' : World} {b p : Nat} {x : KD} (h : AtT w b p x) (hb : b < w.heap.size) (hB : Below w.heap.size w w') : AtT w' b p x := by
  obtain ⟨a0, a1, a2, a3, u, wr, c, l, hx, c0, c1, c2, c3, c4, c5, c6, hu⟩ := h
  have go : ∀ j v, w.cell? ⟨b, j, none⟩ = some v → w'.cell? ⟨b, j, none⟩ = some v := fun j v h => (hB.cell (p := ⟨b, j, none⟩) hb).trans h
  exact ⟨a0, a1, a2, a3, u, wr, c, l, hx, go _ _ c0, go _ _ c1, go _ _ c2, go _ _ c3, go _ _ c4, go _ _ c5, go _ _ c6, hu.later hB⟩
/-- A slice value that reads as a list of such. -/
def RdT (w : World) (v : Value) (L : List KD) : Prop :=
  ∃ (ao : Option Addr) (cap : Nat), v = .slice ao L.length cap ∧ L.length ≤ maxLen ∧
    (0 < L.length → ∃ b off, ao = some ⟨b, off, none⟩ ∧ b < w.heap.size ∧ ∀ i, i < L.length → AtT w b (off + i * 7) (L.getD i kd0))
theorem RdT.nil (w : World) (ao : Option Addr) (cap : Nat) : RdT w (.slice ao 0 cap) [] := ⟨ao, cap, rfl, Nat.zero_le _, fun h => absurd h (Nat.lt_irrefl 0)⟩
theorem RdT.later {w w' : World} {v : Value} {L : List KD} (h : RdT w v L) (hb : Below w.heap.size w w') : RdT w' v L := by
  obtain ⟨ao, cap, hv, hl, hc⟩ := h
  refine ⟨ao, cap, hv, hl, fun h0 => ?_⟩
  obtain ⟨b, off, ha, hlt, hcc⟩ := hc h0
  exact ⟨b, off, ha, Nat.lt_of_lt_of_le hlt hb.size, fun i hi => (hcc i hi).later hlt hb⟩

set_option maxHeartbeats 2000000 in
theorem eqTold_any (p0 p1 p2 p3 pc t0 t1 t2 t3 tc : Int) (bp bt : Bool) (la lb : List (Int × Int)) (va vb : Value) (w : World) (ha : Rd w va la) (hb : Rd w vb lb) :
    Calls Try.prog 22 #[.agg #[.int .i64 p0, .int .i64 p1, .int .i64 p2, .int .i64 p3, va, .bool bp, .int .i64 pc], .agg #[.int .i64 t0, .int .i64 t1, .int .i64 t2, .int .i64 t3, vb, .bool bt, .int .i64 tc]] w fun e w' => e = .returned (.bool (eqK (told p0 p1 p2 p3 bp pc la) (told t0 t1 t2 t3 bt tc lb))) ∧ Below w.heap.size w w' := by
  have HA := hid ha
  have HB := hid hb
  have HE : Hid (eqK (told p0 p1 p2 p3 bp pc la) (told t0 t1 t2 t3 bt tc lb) = (decide (p0 = t0) && (eqK ([p1, p2, p3], la) ([t1, t2, t3], lb) && (decide (bp = bt) && decide (pc = tc))))) := hid (by
    rw [Bool.eq_iff_iff, eqK_iff]
    simp only [Bool.and_eq_true, decide_eq_true_eq, eqK_iff]
    constructor
    · intro h
      obtain ⟨rfl, rfl, rfl, rfl, rfl, rfl, rfl⟩ := told_inj h
      exact ⟨rfl, rfl, rfl, rfl⟩
    · rintro ⟨rfl, h, rfl, rfl⟩
      simp only [Prod.mk.injEq, List.cons.injEq, and_true] at h
      obtain ⟨⟨rfl, rfl, rfl⟩, rfl⟩ := h
      rfl)
  generalize eqK (told p0 p1 p2 p3 bp pc la) (told t0 t1 t2 t3 bt tc lb) = r at *
  clear ha hb
  go_enter Try.func22, Try.ntmps22
  by_cases h0 : p0 = t0
  · cases h1 : eqK ([p1, p2, p3], la) ([t1, t2, t3], lb) with
    | false =>
      have HR : r = false := by rw [HE.out, h1]; simp
      have hcal := eqItem_any p1 p2 p3 t1 t2 t3 la lb va vb
      rw [h1] at hcal
      clear HE h1
      go_wp2_with (first | (go_at_call 31; refine (hcal _ (HA.out.later (by go_grown)) (HB.out.later (by go_grown))).mono ?_; rintro e w2 ⟨rfl, b2⟩; have bb : Below w.heap.size w w2 := (Below.trans (by go_grown) (b2.mono (by first | omega | (simp; done) | (simp; omega))))))
      all_goals
        go_ret
        exact ⟨by simp_all, by first | exact bb | go_grown⟩
    | true =>
      have HR : Hid (r = (decide (bp = bt) && decide (pc = tc))) := hid (by rw [HE.out, h1]; simp [h0])
      have hcal := eqItem_any p1 p2 p3 t1 t2 t3 la lb va vb
      rw [h1] at hcal
      clear HE h1
      subst h0
      go_wp2_with fail
      generalize hW1 : ((w.alloc (.cells #[.int .i64 p0, .int .i64 p1, .int .i64 p2, .int .i64 p3, va, .bool bp, .int .i64 pc] 50)).alloc (.cells #[.int .i64 p0, .int .i64 t1, .int .i64 t2, .int .i64 t3, vb, .bool bt, .int .i64 tc] 50)) = w1
      have a0_1 : w1.cell? ⟨w.heap.size, 0, none⟩ = some (.int .i64 p0) := by subst hW1; go_cell
      have a1_1 : w1.cell? ⟨w.heap.size, 1, none⟩ = some (.int .i64 p1) := by subst hW1; go_cell
      have a2_1 : w1.cell? ⟨w.heap.size, 2, none⟩ = some (.int .i64 p2) := by subst hW1; go_cell
      have a3_1 : w1.cell? ⟨w.heap.size, 3, none⟩ = some (.int .i64 p3) := by subst hW1; go_cell
      have a4_1 : w1.cell? ⟨w.heap.size, 4, none⟩ = some (va) := by subst hW1; go_cell
      have a5_1 : w1.cell? ⟨w.heap.size, 5, none⟩ = some (.bool bp) := by subst hW1; go_cell
      have a6_1 : w1.cell? ⟨w.heap.size, 6, none⟩ = some (.int .i64 pc) := by subst hW1; go_cell
      have al_1 : w.heap.size < w1.heap.size := by subst hW1; first | (simp; done) | (simp; omega)
      have b0_1 : w1.cell? ⟨w.heap.size + 1, 0, none⟩ = some (.int .i64 p0) := by subst hW1; go_cell
      have b1_1 : w1.cell? ⟨w.heap.size + 1, 1, none⟩ = some (.int .i64 t1) := by subst hW1; go_cell
      have b2_1 : w1.cell? ⟨w.heap.size + 1, 2, none⟩ = some (.int .i64 t2) := by subst hW1; go_cell
      have b3_1 : w1.cell? ⟨w.heap.size + 1, 3, none⟩ = some (.int .i64 t3) := by subst hW1; go_cell
      have b4_1 : w1.cell? ⟨w.heap.size + 1, 4, none⟩ = some (vb) := by subst hW1; go_cell
      have b5_1 : w1.cell? ⟨w.heap.size + 1, 5, none⟩ = some (.bool bt) := by subst hW1; go_cell
      have b6_1 : w1.cell? ⟨w.heap.size + 1, 6, none⟩ = some (.int .i64 tc) := by subst hW1; go_cell
      have bl_1 : w.heap.size + 1 < w1.heap.size := by subst hW1; first | (simp; done) | (simp; omega)
      have c1 : Below w.heap.size w w1 := by subst hW1; go_grown
      have s1 : w1.heap.size = w.heap.size + 2 := by subst hW1; simp
      clear hW1
      have qa0_1 := cell_regrown a0_1
      have qa1_1 := cell_regrown a1_1
      have qa2_1 := cell_regrown a2_1
      have qa3_1 := cell_regrown a3_1
      have qa4_1 := cell_regrown a4_1
      have qa5_1 := cell_regrown a5_1
      have qa6_1 := cell_regrown a6_1
      have qb0_1 := cell_regrown b0_1
      have qb1_1 := cell_regrown b1_1
      have qb2_1 := cell_regrown b2_1
      have qb3_1 := cell_regrown b3_1
      have qb4_1 := cell_regrown b4_1
      have qb5_1 := cell_regrown b5_1
      have qb6_1 := cell_regrown b6_1
      refine (hcal _ (HA.out.later c1) (HB.out.later c1)).mono ?_
      rintro e w2 ⟨rfl, b2⟩
      have d2 : Below w1.heap.size w1 w2 := (Below.trans (by go_grown) (b2.mono (by first | omega | (simp; done) | (simp; omega))))
      have c2 : Below w.heap.size w w2 := c1.trans (d2.mono c1.size)
      have a0_2 : w2.cell? ⟨w.heap.size, 0, none⟩ = some (.int .i64 p0) := (by rw [b2.cell (by first | omega | (simp; done) | (simp; omega))]; go_cell)
      have a1_2 : w2.cell? ⟨w.heap.size, 1, none⟩ = some (.int .i64 p1) := (by rw [b2.cell (by first | omega | (simp; done) | (simp; omega))]; go_cell)
      have a2_2 : w2.cell? ⟨w.heap.size, 2, none⟩ = some (.int .i64 p2) := (by rw [b2.cell (by first | omega | (simp; done) | (simp; omega))]; go_cell)
      have a3_2 : w2.cell? ⟨w.heap.size, 3, none⟩ = some (.int .i64 p3) := (by rw [b2.cell (by first | omega | (simp; done) | (simp; omega))]; go_cell)
      have a4_2 : w2.cell? ⟨w.heap.size, 4, none⟩ = some (va) := (by rw [b2.cell (by first | omega | (simp; done) | (simp; omega))]; go_cell)
      have a5_2 : w2.cell? ⟨w.heap.size, 5, none⟩ = some (.bool bp) := (by rw [b2.cell (by first | omega | (simp; done) | (simp; omega))]; go_cell)
      have a6_2 : w2.cell? ⟨w.heap.size, 6, none⟩ = some (.int .i64 pc) := (by rw [b2.cell (by first | omega | (simp; done) | (simp; omega))]; go_cell)
      have al_2 : w.heap.size < w2.heap.size := (by have := b2.size; first | omega | (revert this; simp; done) | (revert this; simp; omega))
      have b0_2 : w2.cell? ⟨w.heap.size + 1, 0, none⟩ = some (.int .i64 p0) := (by rw [b2.cell (by first | omega | (simp; done) | (simp; omega))]; go_cell)
      have b1_2 : w2.cell? ⟨w.heap.size + 1, 1, none⟩ = some (.int .i64 t1) := (by rw [b2.cell (by first | omega | (simp; done) | (simp; omega))]; go_cell)
      have b2_2 : w2.cell? ⟨w.heap.size + 1, 2, none⟩ = some (.int .i64 t2) := (by rw [b2.cell (by first | omega | (simp; done) | (simp; omega))]; go_cell)
      have b3_2 : w2.cell? ⟨w.heap.size + 1, 3, none⟩ = some (.int .i64 t3) := (by rw [b2.cell (by first | omega | (simp; done) | (simp; omega))]; go_cell)
      have b4_2 : w2.cell? ⟨w.heap.size + 1, 4, none⟩ = some (vb) := (by rw [b2.cell (by first | omega | (simp; done) | (simp; omega))]; go_cell)
      have b5_2 : w2.cell? ⟨w.heap.size + 1, 5, none⟩ = some (.bool bt) := (by rw [b2.cell (by first | omega | (simp; done) | (simp; omega))]; go_cell)
      have b6_2 : w2.cell? ⟨w.heap.size + 1, 6, none⟩ = some (.int .i64 tc) := (by rw [b2.cell (by first | omega | (simp; done) | (simp; omega))]; go_cell)
      have bl_2 : w.heap.size + 1 < w2.heap.size := (by have := b2.size; first | omega | (revert this; simp; done) | (revert this; simp; omega))
      clear a0_1 a1_1 a2_1 a3_1 a4_1 a5_1 a6_1 al_1 b0_1 b1_1 b2_1 b3_1 b4_1 b5_1 b6_1 bl_1
      have bb := c2
      clear b2 d2
      go_wp2
      all_goals
        go_ret
        exact ⟨by rw [HR.out]; simp_all, bb⟩
  · have HR : r = false := by rw [HE.out]; simp [h0]
    clear HE
    go_wp2
    go_ret
    exact ⟨by simp_all, by go_grown⟩

set_option maxRecDepth 100000 in
set_option maxHeartbeats 2000000 in
theorem eqToldS_any (va vb : Value) (la lb : List KD) (w : World) (ha : RdT w va la) (hb : RdT w vb lb) :
    Calls Try.prog 10 #[va, vb] w fun e w' => e = .returned (.bool (eqM la lb)) ∧ Below w.heap.size w w' := by
  obtain ⟨aa, ca, rfl, hla, hca⟩ := ha
  obtain ⟨ab, cb, rfl, hlb, hcb⟩ := hb
  unfold maxLen at hla hlb
  by_cases hne : ((la.length : Int) != (lb.length : Int)) = true
  · have : la ≠ lb := fun h => by simp [h] at hne
    go_enter Try.func10, Try.ntmps10
    go_wp2
    go_ret
    exact ⟨by simp [eqM_no this], Below.refl _ _⟩
  · have hlen : la.length = lb.length := by simp at hne; omega
    have HL : Hid (la.length = lb.length) := hlen
    clear hlen
    go_enter Try.func10, Try.ntmps10
    go_wp2
    go_loopw [5] (fun i wr => ∃ k : Nat, k ≤ la.length ∧ i = .int .i64 k ∧ Hid (la.take k = lb.take k) ∧ Below w.heap.size w wr) (fun i _ => la.length - (intOf i).toNat)
    case atStart => exact ⟨0, Nat.zero_le _, rfl, rfl, Below.refl _ _⟩
    case round =>
      obtain ⟨k, hk, rfl, hpre, hbel⟩ := hrel
      by_cases hlt : k < la.length
      · obtain ⟨ba, oa, rfl, hba, hcca⟩ := hca (by omega)
        obtain ⟨bb, ob, rfl, hbb, hccb⟩ := hcb (by have := HL.out; omega)
        have hkb : (k : Int) < (lb.length : Int) := by have := HL.out; omega
        obtain ⟨p0, p1, p2, p3, ux, bp, pc, lx, hx, c0, c1, c2, c3, c4, c5, c6, hux⟩ := (hcca k hlt).later hba hbel
        obtain ⟨t0, t1, t2, t3, uy, bt, tc, ly, hy, d0, d1, d2, d3, d4, d5, d6, huy⟩ := (hccb k (by have := HL.out; omega)).later hbb hbel
        have hnext : Hid (la.getD k kd0 = lb.getD k kd0 → la.take (k + 1) = lb.take (k + 1)) := hid (fun h => take_more la lb kd0 k hlt (by have := HL.out; omega) hpre h)
        have hdiff : Hid (¬ la.getD k kd0 = lb.getD k kd0 → eqM la lb = false) := hid (fun h => eqM_no (fun e => h (by rw [e])))
        rw [hx, hy] at hnext hdiff
        have hsz := hbel.size
        clear hcca hccb hca hcb hx hy
        have HUA := hid hux
        have HUB := hid huy
        clear hux huy
        have r0 := cell_regrown c0
        have r1 := cell_regrown c1
        have r2 := cell_regrown c2
        have r3 := cell_regrown c3
        have r4 := cell_regrown c4
        have r5 := cell_regrown c5
        have r6 := cell_regrown c6
        have s0 := cell_regrown d0
        have s1 := cell_regrown d1
        have s2 := cell_regrown d2
        have s3 := cell_regrown d3
        have s4 := cell_regrown d4
        have s5 := cell_regrown d5
        have s6 := cell_regrown d6
        cases hxy : eqK (told p0 p1 p2 p3 bp pc lx) (told t0 t1 t2 t3 bt tc ly) with
        | true =>
          have hN := hid (hnext.out (eqK_iff.1 hxy))
          clear hnext hdiff
          have hcal := fun (W : World) (h1 : Rd W ux lx) (h2 : Rd W uy ly) => eqTold_any p0 p1 p2 p3 pc t0 t1 t2 t3 tc bp bt lx ly ux uy W h1 h2
          rw [hxy] at hcal
          go_wp2_with fail
          refine wp_region_quiet_below (by kernel_rfl) (by kernel_rfl) ?_
          repeat (first | go_big_quiet_skip | (go_big_quiet_want; go_big_quiet_op; first | go_big_quiet_on | go_big_quiet_call (first | (go_at_call 22; exact Calls.regrown_of (hcal _ (HUA.out.later (below_regrown _ _ _)) (HUB.out.later (below_regrown _ _ _)))))))
          refine wpQuiet_nil ?_
          rintro wq ⟨pq, hwq⟩
          have hq : Below wr.heap.size wr wq := by rw [hwq]; exact below_regrown _ _ _
          clear hwq pq
          go_wp2
          go_roundw
          case rel => exact ⟨k + 1, by omega, by go_num, hN, hbel.trans (hq.mono hsz)⟩
          case measure => simp [intOf]; omega
        | false =>
          have hN := hid (hdiff.out (fun e => by rw [eqK_iff.2 e] at hxy; cases hxy))
          clear hnext hdiff
          have hcal := fun (W : World) (h1 : Rd W ux lx) (h2 : Rd W uy ly) => eqTold_any p0 p1 p2 p3 pc t0 t1 t2 t3 tc bp bt lx ly ux uy W h1 h2
          rw [hxy] at hcal
          go_wp2_with fail
          refine wp_region_quiet_below (by kernel_rfl) (by kernel_rfl) ?_
          repeat (first | go_big_quiet_skip | (go_big_quiet_want; go_big_quiet_op; first | go_big_quiet_on | go_big_quiet_call (first | (go_at_call 22; exact Calls.regrown_of (hcal _ (HUA.out.later (below_regrown _ _ _)) (HUB.out.later (below_regrown _ _ _)))))))
          refine wpQuiet_nil ?_
          rintro wq ⟨pq, hwq⟩
          have hq : Below wr.heap.size wr wq := by rw [hwq]; exact below_regrown _ _ _
          clear hwq pq
          go_wp2
          go_ret
          exact ⟨by simp [hN.out], hbel.trans (hq.mono hsz)⟩
      · have hall : eqM la lb = true := eqM_yes (by have h1 := HL.out; have h2 := hpre.out; rwa [List.take_of_length_le (by omega), List.take_of_length_le (by omega)] at h2)
        go_wp2
        go_ret
        exact ⟨by simp [hall], hbel⟩

theorem szTold_any (p0 p1 p2 p3 pc : Int) (bp : Bool) (u : Value) (l : List (Int × Int)) (left : Int) (w : World) (h : Rd w u l) (h0 : 0 ≤ left) (h1 : left ≤ 1048576) :
    Calls Try.prog 19 #[.agg #[.int .i64 p0, .int .i64 p1, .int .i64 p2, .int .i64 p3, u, .bool bp, .int .i64 pc], .int .i64 left] w fun e w' => (∃ r : Int, e = .returned (.int .i64 r) ∧ Hid ((r = left - l.length ∧ 0 ≤ r) ∨ (r = -1 ∧ left - l.length < 0))) ∧ Below w.heap.size w w' := by
  have HU := hid h
  obtain ⟨ao, cap, rfl, hl, _⟩ := h
  go_enter Try.func19, Try.ntmps19
  go_wp2_with fail
  generalize hW1 : (w.alloc (.cells #[.int .i64 p0, .int .i64 p1, .int .i64 p2, .int .i64 p3, .slice ao l.length cap, .bool bp, .int .i64 pc] 43)) = w1
  have a0_1 : w1.cell? ⟨w.heap.size, 0, none⟩ = some (.int .i64 p0) := by subst hW1; go_cell
  have a1_1 : w1.cell? ⟨w.heap.size, 1, none⟩ = some (.int .i64 p1) := by subst hW1; go_cell
  have a2_1 : w1.cell? ⟨w.heap.size, 2, none⟩ = some (.int .i64 p2) := by subst hW1; go_cell
  have a3_1 : w1.cell? ⟨w.heap.size, 3, none⟩ = some (.int .i64 p3) := by subst hW1; go_cell
  have a4_1 : w1.cell? ⟨w.heap.size, 4, none⟩ = some (.slice ao l.length cap) := by subst hW1; go_cell
  have a5_1 : w1.cell? ⟨w.heap.size, 5, none⟩ = some (.bool bp) := by subst hW1; go_cell
  have a6_1 : w1.cell? ⟨w.heap.size, 6, none⟩ = some (.int .i64 pc) := by subst hW1; go_cell
  have al_1 : w.heap.size < w1.heap.size := by subst hW1; first | (simp; done) | (simp; omega)
  have c1 : Below w.heap.size w w1 := by subst hW1; go_grown
  have s1 : w1.heap.size = w.heap.size + 1 := by subst hW1; simp
  clear hW1
  have qa0_1 := cell_regrown a0_1
  have qa1_1 := cell_regrown a1_1
  have qa2_1 := cell_regrown a2_1
  have qa3_1 := cell_regrown a3_1
  have qa4_1 := cell_regrown a4_1
  have qa5_1 := cell_regrown a5_1
  have qa6_1 := cell_regrown a6_1
  refine (szItem_two p1 p2 p3 _ l left _ (HU.out.later c1) h0 h1).mono ?_
  rintro e w2 ⟨⟨q, rfl, hq⟩, b2⟩
  have bb : Below w.heap.size w w2 := c1.trans (b2.mono c1.size)
  by_cases hneg : q < 0
  · have HS : Hid (left - (l.length : Int) < 0) := hid (by rcases hq.out with ⟨h2, h3⟩ | ⟨h2, h3⟩ <;> omega)
    go_wp2
    go_ret
    exact ⟨⟨_, by first | (simp; done) | (simp; rfl), hid (Or.inr ⟨rfl, HS.out⟩)⟩, bb⟩
  · go_wp2
    go_ret
    exact ⟨⟨_, by first | (simp; done) | (simp; rfl), hq⟩, bb⟩

set_option maxRecDepth 100000 in
set_option maxHeartbeats 2000000 in
theorem szToldS_any (v : Value) (L : List KD) (left : Int) (w : World) (h : RdT w v L) (h0 : 0 ≤ left) (h1 : left ≤ 1048576) :
    Calls Try.prog 6 #[v, .int .i64 left] w fun e w' => SzM L left e ∧ Below w.heap.size w w' := by
  obtain ⟨ao, cap, rfl, hl, hc⟩ := h
  unfold maxLen at hl
  by_cases hbig : left < (L.length : Int)
  · have HS : Hid (left - L.length - bulkM L < 0) := hid (by omega)
    go_enter Try.func6, Try.ntmps6
    go_wp2
    go_ret
    exact ⟨Or.inr ⟨by simp, HS.out⟩, Below.refl _ _⟩
  · go_enter Try.func6, Try.ntmps6
    go_wp2
    go_loopw [1, 5] (fun s i wr => ∃ (k : Nat) (r : Int), k ≤ L.length ∧ i = .int .i64 k ∧ s = .int .i64 r ∧ Hid (r = left - L.length - bulkM (L.take k)) ∧ 0 ≤ r ∧ r ≤ 1048576 ∧ Below w.heap.size w wr) (fun _ i _ => L.length - (intOf i).toNat)
    case atStart => exact ⟨0, left - L.length, Nat.zero_le _, rfl, by first | rfl | (simp; done), hid (by simp [bulkM]), by omega, by omega, Below.refl _ _⟩
    case round =>
      obtain ⟨k, r, hk, rfl, rfl, hr, hr0, hr1, hbel⟩ := hrel
      by_cases hlt : k < L.length
      · obtain ⟨b, o, rfl, hb, hcc⟩ := hc (by omega)
        obtain ⟨p0, p1, p2, p3, ux, bp, pc, lx, hx, c0, c1, c2, c3, c4, c5, c6, hux⟩ := (hcc k hlt).later hb hbel
        have HU := hid hux
        have HB := hid (bulkM_step L k hlt)
        rw [hx] at HB
        replace HB : Hid (bulkM (L.take (k + 1)) = bulkM (L.take k) + lx.length) := HB
        have HT := hid (bulkM_take L (k + 1))
        have hsz := hbel.size
        clear hcc hc hux hx
        go_wp2_with fail
        refine (szTold_any p0 p1 p2 p3 pc bp ux lx r _ HU.out hr0 hr1).mono ?_
        rintro e w2 ⟨⟨q, rfl, hq⟩, b2⟩
        have c2' := hbel.trans (b2.mono hsz)
        by_cases hneg : q < 0
        · have HS : Hid (left - L.length - bulkM L < 0) := hid (by
            have := hr.out; have := HB.out; have := HT.out
            rcases hq.out with ⟨_, h2⟩ | ⟨_, h2⟩ <;> omega)
          go_wp2
          go_ret
          exact ⟨Or.inr ⟨by simp, HS.out⟩, c2'⟩
        · have HQ : Hid (q = left - L.length - bulkM (L.take (k + 1))) := hid (by
            have := hr.out; have := HB.out
            rcases hq.out with ⟨h2, _⟩ | ⟨h2, _⟩ <;> omega)
          have hq1 : q ≤ 1048576 := by rcases hq.out with ⟨h2, _⟩ | ⟨h2, _⟩ <;> omega
          clear hq hr HB HT
          go_wp2
          go_roundw
          case rel => exact ⟨k + 1, q, by omega, by go_num, rfl, HQ, by omega, hq1, c2'⟩
          case measure => simp [intOf]; omega
      · obtain rfl : k = L.length := by omega
        have HQ : Hid (r = left - L.length - bulkM L) := hid (by have := hr.out; rwa [List.take_length] at this)
        clear hr
        go_wp2
        go_ret
        exact ⟨Or.inl ⟨by rw [← HQ.out]; simp, by rw [← HQ.out]; exact hr0⟩, hbel⟩

end Go.Proofs.Ytnnhpnhnddibjaa
