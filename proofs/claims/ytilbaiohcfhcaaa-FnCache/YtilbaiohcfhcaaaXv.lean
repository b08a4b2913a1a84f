/- A cache with a greater floor, as the document has it: spec.l5Floor, spec.CacheFloor: contracts. Written by a program (gspf.py). -/
import Derived.Test.YtilbaiohcfhcaaaXt
namespace Go.Proofs.Ytilbaiohcfhcaaa
open Go.RowKit
attribute [local go_sem ↓] Go.wp_at_zero Go.wp_at_succ

theorem RdK.weaken {G G' : Nat → Prop} {w : World} {v : Value} {L : List KD} (h : RdK G w v L) (hs : ∀ q, q < w.heap.size → G' q → G q) : RdK G' w v L := by
  obtain ⟨ao, cap, rfl, hl, hc, ⟨xs, hrow⟩, hown⟩ := h
  refine ⟨ao, cap, rfl, hl, fun h0 => ?_, ⟨xs, hrow⟩, fun q hq hG => hown q hq (hs q (hrow.lt q hq).2 hG)⟩
  obtain ⟨b, off, rfl, hb, hbg, hcc⟩ := hc h0
  refine ⟨b, off, rfl, hb, fun q => hbg (hs b hb q), fun i hi => ?_⟩
  obtain ⟨p0, p1, p2, l, u, hx, c0, c1, c2, c3, hu, hn⟩ := hcc i hi
  exact ⟨p0, p1, p2, l, u, hx, c0, c1, c2, c3, hu, fun h1 q hq => ⟨fun hG => (hn h1 q hq).1 (hs q (hu.own_lt h1 q hq) hG), (hn h1 q hq).2⟩⟩
set_option maxRecDepth 100000 in
set_option maxHeartbeats 4000000 in
theorem l5Floor_any (N g c B : Nat) (v0 : Value) (I F : List KD) (key ver : Int) (w : World) (hK : RdK (fun q => q < N) w v0 I) (hN : N ≤ w.heap.size) (hg : g < N) (hrow : w.ownsRow B 3 1 (.slice (some ⟨g, 0, none⟩) 24 c) 24 (floC F)) (hf : FloF F) (h4 : I.length ≤ 1000)
    {D : List KD × List KD} (hD : (if raB F key ver then (dropI key I, putF F key ver) else (I, F)) = D) :
    Calls Try.prog 36 #[.agg #[v0, .slice (some ⟨g, 0, none⟩) 24 c], .int .i64 key, .int .i64 ver] w fun e w' => (∃ v, e = .returned (.agg #[v, .slice (some ⟨g, 0, none⟩) 24 c]) ∧ RdK (fun q => q < N) w' v D.1 ∧ w'.ownsRow B 3 1 (.slice (some ⟨g, 0, none⟩) 24 c) 24 (floC D.2)) ∧ Only (fun b => b = g) w w' := by
  have HK := hid hK
  have HROW := hid hrow
  have HFL := hid hf
  obtain ⟨vo, vc, rfl, _⟩ := hK
  clear hrow hf
  by_cases hin : 0 ≤ key ∧ key < 24
  · obtain ⟨kk, rfl⟩ := Int.eq_ofNat_of_zero_le hin.1
    have hk24 : kk < 24 := by omega
    have hkl : keyIn (kk : Int) = true := by simp [keyIn]; omega
    have n0 : ¬ ((kk : Int) < 0) := by omega
    have n1 : ¬ ((kk : Int) ≥ 24) := by omega
    have HFL1 := hid (show kk < F.length from by rw [HFL.out.1]; exact hk24)
    by_cases hle : ver ≤ flr F kk
    · have hr : raB F (kk : Int) ver = false := by simp [raB, hkl]; omega
      rw [hr] at hD
      simp only [Bool.false_eq_true, if_false] at hD
      subst hD
      go_enter Try.func36, Try.ntmps36
      go_upto_region 1 with fail
      generalize hW1 : ((w.alloc (.cells #[.slice vo I.length vc, .slice (some ⟨g, 0, none⟩) 24 c] 26)).alloc (.cells #[.slice none 0 0, .slice none 0 0] 26)) = w1
      have a0_1 : w1.cell? ⟨w.heap.size, 0, none⟩ = some (.slice vo I.length vc) := by subst hW1; go_cell
      have a1_1 : w1.cell? ⟨w.heap.size, 1, none⟩ = some (.slice (some ⟨g, 0, none⟩) 24 c) := by subst hW1; go_cell
      have al_1 : w.heap.size < w1.heap.size := by subst hW1; first | (simp; done) | (simp; omega)
      have r0_1 : w1.cell? ⟨w.heap.size + 1, 0, none⟩ = some (.slice none 0 0) := by subst hW1; go_cell
      have rf0_1 : w1.frozen? ⟨w.heap.size + 1, 0, none⟩ = false := by subst hW1; (first | go_cell | (simp [World.frozen?, World.alloc]; done) | rfl)
      have r1_1 : w1.cell? ⟨w.heap.size + 1, 1, none⟩ = some (.slice none 0 0) := by subst hW1; go_cell
      have rf1_1 : w1.frozen? ⟨w.heap.size + 1, 1, none⟩ = false := by subst hW1; (first | go_cell | (simp [World.frozen?, World.alloc]; done) | rfl)
      have rl_1 : w.heap.size + 1 < w1.heap.size := by subst hW1; first | (simp; done) | (simp; omega)
      have c1 : Below w.heap.size w w1 := by subst hW1; go_grown
      have s1 : w1.heap.size = w.heap.size + 2 := by subst hW1; simp
      clear hW1
      have qa0_1 := cell_regrown a0_1
      have qa1_1 := cell_regrown a1_1
      have qr0_1 := cell_regrown r0_1
      have qr1_1 := cell_regrown r1_1
      clear qa0_1 qa1_1 qr0_1 qr1_1
      have S1 := hid s1
      clear s1
      have HROW1 := hid (row_later HROW.out c1)
      have f1 : w1.cell? ⟨g, kk, none⟩ = some (.int .i64 (flr F kk)) := by rw [World.ownsRow.cellAt HROW1.out kk (by omega), floC_get HFL1.out]
      have C1 := hid c1
      go_wp2_with fail
      have KB := (C1.out.setCell (p := ⟨w.heap.size + 1, 0, none⟩) (by show w.heap.size ≤ w.heap.size + 1; omega) (.slice vo I.length vc)).setCell (p := ⟨w.heap.size + 1, 1, none⟩) (by show w.heap.size ≤ w.heap.size + 1; omega) (.slice (some ⟨g, 0, none⟩) 24 c)
      have e0 : ((w1.setCell ⟨w.heap.size + 1, 0, none⟩ (.slice vo I.length vc)).setCell ⟨w.heap.size + 1, 1, none⟩ (.slice (some ⟨g, 0, none⟩) 24 c)).cell? ⟨w.heap.size + 1, 0, none⟩ = some (.slice vo I.length vc) := by go_cell
      have e1 : ((w1.setCell ⟨w.heap.size + 1, 0, none⟩ (.slice vo I.length vc)).setCell ⟨w.heap.size + 1, 1, none⟩ (.slice (some ⟨g, 0, none⟩) 24 c)).cell? ⟨w.heap.size + 1, 1, none⟩ = some (.slice (some ⟨g, 0, none⟩) 24 c) := by go_cell
      exact bodyPost_ret (v := .agg #[.slice vo I.length vc, .slice (some ⟨g, 0, none⟩) 24 c]) (by simp [results, Try.results36, go_sem, e0, e1]) rfl ⟨⟨_, rfl, HK.out.later KB, row_later HROW.out KB⟩, Only.later KB⟩
    · by_cases hgt : ver > 60
      · have hr : raB F (kk : Int) ver = false := by simp [raB, hkl]; omega
        rw [hr] at hD
        simp only [Bool.false_eq_true, if_false] at hD
        subst hD
        go_enter Try.func36, Try.ntmps36
        go_upto_region 1 with fail
        generalize hW1 : ((w.alloc (.cells #[.slice vo I.length vc, .slice (some ⟨g, 0, none⟩) 24 c] 26)).alloc (.cells #[.slice none 0 0, .slice none 0 0] 26)) = w1
        have a0_1 : w1.cell? ⟨w.heap.size, 0, none⟩ = some (.slice vo I.length vc) := by subst hW1; go_cell
        have a1_1 : w1.cell? ⟨w.heap.size, 1, none⟩ = some (.slice (some ⟨g, 0, none⟩) 24 c) := by subst hW1; go_cell
        have al_1 : w.heap.size < w1.heap.size := by subst hW1; first | (simp; done) | (simp; omega)
        have r0_1 : w1.cell? ⟨w.heap.size + 1, 0, none⟩ = some (.slice none 0 0) := by subst hW1; go_cell
        have rf0_1 : w1.frozen? ⟨w.heap.size + 1, 0, none⟩ = false := by subst hW1; (first | go_cell | (simp [World.frozen?, World.alloc]; done) | rfl)
        have r1_1 : w1.cell? ⟨w.heap.size + 1, 1, none⟩ = some (.slice none 0 0) := by subst hW1; go_cell
        have rf1_1 : w1.frozen? ⟨w.heap.size + 1, 1, none⟩ = false := by subst hW1; (first | go_cell | (simp [World.frozen?, World.alloc]; done) | rfl)
        have rl_1 : w.heap.size + 1 < w1.heap.size := by subst hW1; first | (simp; done) | (simp; omega)
        have c1 : Below w.heap.size w w1 := by subst hW1; go_grown
        have s1 : w1.heap.size = w.heap.size + 2 := by subst hW1; simp
        clear hW1
        have qa0_1 := cell_regrown a0_1
        have qa1_1 := cell_regrown a1_1
        have qr0_1 := cell_regrown r0_1
        have qr1_1 := cell_regrown r1_1
        clear qa0_1 qa1_1 qr0_1 qr1_1
        have S1 := hid s1
        clear s1
        have HROW1 := hid (row_later HROW.out c1)
        have f1 : w1.cell? ⟨g, kk, none⟩ = some (.int .i64 (flr F kk)) := by rw [World.ownsRow.cellAt HROW1.out kk (by omega), floC_get HFL1.out]
        have C1 := hid c1
        go_wp2_with fail
        have KB := (C1.out.setCell (p := ⟨w.heap.size + 1, 0, none⟩) (by show w.heap.size ≤ w.heap.size + 1; omega) (.slice vo I.length vc)).setCell (p := ⟨w.heap.size + 1, 1, none⟩) (by show w.heap.size ≤ w.heap.size + 1; omega) (.slice (some ⟨g, 0, none⟩) 24 c)
        have e0 : ((w1.setCell ⟨w.heap.size + 1, 0, none⟩ (.slice vo I.length vc)).setCell ⟨w.heap.size + 1, 1, none⟩ (.slice (some ⟨g, 0, none⟩) 24 c)).cell? ⟨w.heap.size + 1, 0, none⟩ = some (.slice vo I.length vc) := by go_cell
        have e1 : ((w1.setCell ⟨w.heap.size + 1, 0, none⟩ (.slice vo I.length vc)).setCell ⟨w.heap.size + 1, 1, none⟩ (.slice (some ⟨g, 0, none⟩) 24 c)).cell? ⟨w.heap.size + 1, 1, none⟩ = some (.slice (some ⟨g, 0, none⟩) 24 c) := by go_cell
        exact bodyPost_ret (v := .agg #[.slice vo I.length vc, .slice (some ⟨g, 0, none⟩) 24 c]) (by simp [results, Try.results36, go_sem, e0, e1]) rfl ⟨⟨_, rfl, HK.out.later KB, row_later HROW.out KB⟩, Only.later KB⟩
      · have hr : raB F (kk : Int) ver = true := by simp [raB, hkl]; omega
        rw [hr] at hD
        simp only [if_true] at hD
        subst hD
        have HIN := hid hin
        clear hin hkl hr
        go_enter Try.func36, Try.ntmps36
        go_upto_region 1 with fail
        generalize hW1 : ((w.alloc (.cells #[.slice vo I.length vc, .slice (some ⟨g, 0, none⟩) 24 c] 26)).alloc (.cells #[.slice none 0 0, .slice none 0 0] 26)) = w1
        have a0_1 : w1.cell? ⟨w.heap.size, 0, none⟩ = some (.slice vo I.length vc) := by subst hW1; go_cell
        have af0_1 : w1.frozen? ⟨w.heap.size, 0, none⟩ = false := by subst hW1; (first | go_cell | (simp [World.frozen?, World.alloc]; done) | rfl)
        have a1_1 : w1.cell? ⟨w.heap.size, 1, none⟩ = some (.slice (some ⟨g, 0, none⟩) 24 c) := by subst hW1; go_cell
        have af1_1 : w1.frozen? ⟨w.heap.size, 1, none⟩ = false := by subst hW1; (first | go_cell | (simp [World.frozen?, World.alloc]; done) | rfl)
        have al_1 : w.heap.size < w1.heap.size := by subst hW1; first | (simp; done) | (simp; omega)
        have r0_1 : w1.cell? ⟨w.heap.size + 1, 0, none⟩ = some (.slice none 0 0) := by subst hW1; go_cell
        have rf0_1 : w1.frozen? ⟨w.heap.size + 1, 0, none⟩ = false := by subst hW1; (first | go_cell | (simp [World.frozen?, World.alloc]; done) | rfl)
        have r1_1 : w1.cell? ⟨w.heap.size + 1, 1, none⟩ = some (.slice none 0 0) := by subst hW1; go_cell
        have rf1_1 : w1.frozen? ⟨w.heap.size + 1, 1, none⟩ = false := by subst hW1; (first | go_cell | (simp [World.frozen?, World.alloc]; done) | rfl)
        have rl_1 : w.heap.size + 1 < w1.heap.size := by subst hW1; first | (simp; done) | (simp; omega)
        have c1 : Below w.heap.size w w1 := by subst hW1; go_grown
        have s1 : w1.heap.size = w.heap.size + 2 := by subst hW1; simp
        clear hW1
        have qa0_1 := cell_regrown a0_1
        have qa1_1 := cell_regrown a1_1
        have qr0_1 := cell_regrown r0_1
        have qr1_1 := cell_regrown r1_1
        clear qa0_1 qa1_1 qr0_1 qr1_1
        have S1 := hid s1
        have hz1 : w1.heap.size = w.heap.size + 2 := s1
        have HZ1 := hid hz1
        clear s1 hz1
        have HROW1 := hid (row_later HROW.out c1)
        have f1 : w1.cell? ⟨g, kk, none⟩ = some (.int .i64 (flr F kk)) := by rw [World.ownsRow.cellAt HROW1.out kk (by omega), floC_get HFL1.out]
        have C1 := hid c1
        have hw01 := c1.size
        have K1 := hid ((HK.out.weaken (G' := fun q => q < N ∨ (w.heap.size ≤ q ∧ q < w1.heap.size)) (fun q hq hG => hG.elim id (fun h => by omega))).later c1)
        go_wp2_with fail
        refine (l5Drop_any (fun q => q < N ∨ (w.heap.size ≤ q ∧ q < w1.heap.size)) _ (some ⟨g, 0, none⟩) 24 c I (kk : Int) _ K1.out (fun q hq hG => hG.elim (fun h => by omega) (fun h => by omega)) h4).mono ?_
        rintro e w2 ⟨⟨x, rfl, hx⟩, b2⟩
        have HX := hid hx
        obtain ⟨xo, xc, rfl, _⟩ := hx
        have d2 : Below w1.heap.size w1 w2 := (Below.trans (by go_grown) (b2.mono (by first | omega | (simp; done) | (simp; omega))))
        have c2 : Below w.heap.size w w2 := c1.trans (d2.mono c1.size)
        have a0_2 : w2.cell? ⟨w.heap.size, 0, none⟩ = some (.slice vo I.length vc) := (by rw [b2.cell (by first | omega | (simp; done) | (simp; omega))]; go_cell)
        have af0_2 : w2.frozen? ⟨w.heap.size, 0, none⟩ = false := (by rw [b2.frozen (by first | omega | (simp; done) | (simp; omega))]; (first | go_cell | (simp [World.frozen?, World.alloc]; done) | rfl))
        have a1_2 : w2.cell? ⟨w.heap.size, 1, none⟩ = some (.slice (some ⟨g, 0, none⟩) 24 c) := (by rw [b2.cell (by first | omega | (simp; done) | (simp; omega))]; go_cell)
        have af1_2 : w2.frozen? ⟨w.heap.size, 1, none⟩ = false := (by rw [b2.frozen (by first | omega | (simp; done) | (simp; omega))]; (first | go_cell | (simp [World.frozen?, World.alloc]; done) | rfl))
        have al_2 : w.heap.size < w2.heap.size := (by have := b2.size; first | omega | (revert this; simp; done) | (revert this; simp; omega))
        have r0_2 : w2.cell? ⟨w.heap.size + 1, 0, none⟩ = some (.slice none 0 0) := (by rw [b2.cell (by first | omega | (simp; done) | (simp; omega))]; go_cell)
        have rf0_2 : w2.frozen? ⟨w.heap.size + 1, 0, none⟩ = false := (by rw [b2.frozen (by first | omega | (simp; done) | (simp; omega))]; (first | go_cell | (simp [World.frozen?, World.alloc]; done) | rfl))
        have r1_2 : w2.cell? ⟨w.heap.size + 1, 1, none⟩ = some (.slice none 0 0) := (by rw [b2.cell (by first | omega | (simp; done) | (simp; omega))]; go_cell)
        have rf1_2 : w2.frozen? ⟨w.heap.size + 1, 1, none⟩ = false := (by rw [b2.frozen (by first | omega | (simp; done) | (simp; omega))]; (first | go_cell | (simp [World.frozen?, World.alloc]; done) | rfl))
        have rl_2 : w.heap.size + 1 < w2.heap.size := (by have := b2.size; first | omega | (revert this; simp; done) | (revert this; simp; omega))
        clear a0_1 af0_1 a1_1 af1_1 al_1 r0_1 rf0_1 r1_1 rf1_1 rl_1
        have HROW2 := hid (row_later HROW1.out b2)
        have HC2 := hid c2
        have hgw : g < w.heap.size := by omega
        have HGL := hid (HROW2.out.lt g rfl)
        have qf := HROW2.out.frozenAt kk
        obtain ⟨z, hz⟩ := row_cell HROW2.out kk (by omega)
        clear b2 d2 f1 HROW1 K1
        go_wp2_with fail
        have e0 : (((((w2.setCell ⟨w.heap.size, 0, none⟩ (.slice xo (dropI (kk : Int) I).length xc)).setCell ⟨w.heap.size, 1, none⟩ (.slice (some ⟨g, 0, none⟩) 24 c)).setCell ⟨g, kk, none⟩ (.int .i64 ver)).setCell ⟨w.heap.size + 1, 0, none⟩ (.slice xo (dropI (kk : Int) I).length xc)).setCell ⟨w.heap.size + 1, 1, none⟩ (.slice (some ⟨g, 0, none⟩) 24 c)).cell? ⟨w.heap.size + 1, 0, none⟩ = some (.slice xo (dropI (kk : Int) I).length xc) := by go_cell
        have e1 : (((((w2.setCell ⟨w.heap.size, 0, none⟩ (.slice xo (dropI (kk : Int) I).length xc)).setCell ⟨w.heap.size, 1, none⟩ (.slice (some ⟨g, 0, none⟩) 24 c)).setCell ⟨g, kk, none⟩ (.int .i64 ver)).setCell ⟨w.heap.size + 1, 0, none⟩ (.slice xo (dropI (kk : Int) I).length xc)).setCell ⟨w.heap.size + 1, 1, none⟩ (.slice (some ⟨g, 0, none⟩) 24 c)).cell? ⟨w.heap.size + 1, 1, none⟩ = some (.slice (some ⟨g, 0, none⟩) 24 c) := by go_cell
        have zz := HZ1.out
        have q0 : ∀ (W : World) (u : Value), Only (fun q => q < N ∨ (w.heap.size ≤ q ∧ q < w1.heap.size)) W (W.setCell ⟨w.heap.size, 0, none⟩ u) := fun W u => Only.set (F := fun q => q < N ∨ (w.heap.size ≤ q ∧ q < w1.heap.size)) W (p := ⟨w.heap.size, 0, none⟩) (Or.inr ⟨Nat.le_refl _, by show w.heap.size < _; omega⟩) u
        have q1 : ∀ (W : World) (u : Value), Only (fun q => q < N ∨ (w.heap.size ≤ q ∧ q < w1.heap.size)) W (W.setCell ⟨w.heap.size, 1, none⟩ u) := fun W u => Only.set (F := fun q => q < N ∨ (w.heap.size ≤ q ∧ q < w1.heap.size)) W (p := ⟨w.heap.size, 1, none⟩) (Or.inr ⟨Nat.le_refl _, by show w.heap.size < _; omega⟩) u
        have q2 : ∀ (W : World) (u : Value), Only (fun q => q < N ∨ (w.heap.size ≤ q ∧ q < w1.heap.size)) W (W.setCell ⟨g, kk, none⟩ u) := fun W u => Only.set (F := fun q => q < N ∨ (w.heap.size ≤ q ∧ q < w1.heap.size)) W (p := ⟨g, kk, none⟩) (Or.inl hg) u
        have q3 : ∀ (t : Nat) (W : World) (u : Value), Only (fun q => q < N ∨ (w.heap.size ≤ q ∧ q < w1.heap.size)) W (W.setCell ⟨w.heap.size + 1, t, none⟩ u) := fun t W u => Only.set (F := fun q => q < N ∨ (w.heap.size ≤ q ∧ q < w1.heap.size)) W (p := ⟨w.heap.size + 1, t, none⟩) (Or.inr ⟨by show w.heap.size ≤ w.heap.size + 1; omega, by show w.heap.size + 1 < _; omega⟩) u
        have R9 := (HX.out.only (((((q0 w2 (.slice xo (dropI (kk : Int) I).length xc)).trans (q1 _ (.slice (some ⟨g, 0, none⟩) 24 c))).trans (q2 _ (.int .i64 ver))).trans (q3 0 _ (.slice xo (dropI (kk : Int) I).length xc))).trans (q3 1 _ (.slice (some ⟨g, 0, none⟩) 24 c)))).weaken (G' := fun q => q < N) (fun q _ h => Or.inl h)
        have F3 := row_put1 (row_agree (row_agree HROW2.out (w' := w2.setCell ⟨w.heap.size, 0, none⟩ (.slice xo (dropI (kk : Int) I).length xc)) (fun q hq => by cases hq; exact Below.heap_setCell _ _ _ _ (by show g ≠ w.heap.size; omega))) (w' := (w2.setCell ⟨w.heap.size, 0, none⟩ (.slice xo (dropI (kk : Int) I).length xc)).setCell ⟨w.heap.size, 1, none⟩ (.slice (some ⟨g, 0, none⟩) 24 c)) (fun q hq => by cases hq; exact Below.heap_setCell _ _ _ _ (by show g ≠ w.heap.size; omega))) kk (.int .i64 ver)
        rw [floC_set] at F3
        have F9 := row_agree (row_agree F3 (w' := (((w2.setCell ⟨w.heap.size, 0, none⟩ (.slice xo (dropI (kk : Int) I).length xc)).setCell ⟨w.heap.size, 1, none⟩ (.slice (some ⟨g, 0, none⟩) 24 c)).setCell ⟨g, kk, none⟩ (.int .i64 ver)).setCell ⟨w.heap.size + 1, 0, none⟩ (.slice xo (dropI (kk : Int) I).length xc)) (fun q hq => by cases hq; exact Below.heap_setCell _ _ _ _ (by show g ≠ w.heap.size + 1; omega))) (w' := ((((w2.setCell ⟨w.heap.size, 0, none⟩ (.slice xo (dropI (kk : Int) I).length xc)).setCell ⟨w.heap.size, 1, none⟩ (.slice (some ⟨g, 0, none⟩) 24 c)).setCell ⟨g, kk, none⟩ (.int .i64 ver)).setCell ⟨w.heap.size + 1, 0, none⟩ (.slice xo (dropI (kk : Int) I).length xc)).setCell ⟨w.heap.size + 1, 1, none⟩ (.slice (some ⟨g, 0, none⟩) 24 c)) (fun q hq => by cases hq; exact Below.heap_setCell _ _ _ _ (by show g ≠ w.heap.size + 1; omega))
        have O9 : Only (fun b => b = g) w (((((w2.setCell ⟨w.heap.size, 0, none⟩ (.slice xo (dropI (kk : Int) I).length xc)).setCell ⟨w.heap.size, 1, none⟩ (.slice (some ⟨g, 0, none⟩) 24 c)).setCell ⟨g, kk, none⟩ (.int .i64 ver)).setCell ⟨w.heap.size + 1, 0, none⟩ (.slice xo (dropI (kk : Int) I).length xc)).setCell ⟨w.heap.size + 1, 1, none⟩ (.slice (some ⟨g, 0, none⟩) 24 c)) := by
          refine ⟨HC2.out.os, HC2.out.tape, HC2.out.output, by have := HC2.out.size; simp; exact this, fun q hq hne => ?_⟩
          exact (Below.heap_setCell _ _ _ _ (by show q ≠ w.heap.size + 1; omega)).trans ((Below.heap_setCell _ _ _ _ (by show q ≠ w.heap.size + 1; omega)).trans ((Below.heap_setCell _ _ _ _ (by show q ≠ g; exact hne)).trans ((Below.heap_setCell _ _ _ _ (by show q ≠ w.heap.size; omega)).trans ((Below.heap_setCell _ _ _ _ (by show q ≠ w.heap.size; omega)).trans (HC2.out.block q hq)))))
        exact bodyPost_ret (v := .agg #[.slice xo (dropI (kk : Int) I).length xc, .slice (some ⟨g, 0, none⟩) 24 c]) (by simp [results, Try.results36, go_sem, e0, e1]) rfl ⟨⟨_, rfl, R9, F9⟩, O9⟩
  · have hkl : keyIn key = false := by
      cases h : keyIn key with
      | false => rfl
      | true => exact absurd (by simpa [keyIn] using h) hin
    have hr : raB F key ver = false := by simp [raB, hkl]
    rw [hr] at hD
    simp only [Bool.false_eq_true, if_false] at hD
    subst hD
    by_cases n0 : key < 0
    · skip
      go_enter Try.func36, Try.ntmps36
      go_upto_region 1 with fail
      generalize hW1 : ((w.alloc (.cells #[.slice vo I.length vc, .slice (some ⟨g, 0, none⟩) 24 c] 26)).alloc (.cells #[.slice none 0 0, .slice none 0 0] 26)) = w1
      have a0_1 : w1.cell? ⟨w.heap.size, 0, none⟩ = some (.slice vo I.length vc) := by subst hW1; go_cell
      have a1_1 : w1.cell? ⟨w.heap.size, 1, none⟩ = some (.slice (some ⟨g, 0, none⟩) 24 c) := by subst hW1; go_cell
      have al_1 : w.heap.size < w1.heap.size := by subst hW1; first | (simp; done) | (simp; omega)
      have r0_1 : w1.cell? ⟨w.heap.size + 1, 0, none⟩ = some (.slice none 0 0) := by subst hW1; go_cell
      have rf0_1 : w1.frozen? ⟨w.heap.size + 1, 0, none⟩ = false := by subst hW1; (first | go_cell | (simp [World.frozen?, World.alloc]; done) | rfl)
      have r1_1 : w1.cell? ⟨w.heap.size + 1, 1, none⟩ = some (.slice none 0 0) := by subst hW1; go_cell
      have rf1_1 : w1.frozen? ⟨w.heap.size + 1, 1, none⟩ = false := by subst hW1; (first | go_cell | (simp [World.frozen?, World.alloc]; done) | rfl)
      have rl_1 : w.heap.size + 1 < w1.heap.size := by subst hW1; first | (simp; done) | (simp; omega)
      have c1 : Below w.heap.size w w1 := by subst hW1; go_grown
      have s1 : w1.heap.size = w.heap.size + 2 := by subst hW1; simp
      clear hW1
      have qa0_1 := cell_regrown a0_1
      have qa1_1 := cell_regrown a1_1
      have qr0_1 := cell_regrown r0_1
      have qr1_1 := cell_regrown r1_1
      clear qa0_1 qa1_1 qr0_1 qr1_1
      have S1 := hid s1
      clear s1
      have C1 := hid c1
      go_wp2_with fail
      have KB := (C1.out.setCell (p := ⟨w.heap.size + 1, 0, none⟩) (by show w.heap.size ≤ w.heap.size + 1; omega) (.slice vo I.length vc)).setCell (p := ⟨w.heap.size + 1, 1, none⟩) (by show w.heap.size ≤ w.heap.size + 1; omega) (.slice (some ⟨g, 0, none⟩) 24 c)
      have e0 : ((w1.setCell ⟨w.heap.size + 1, 0, none⟩ (.slice vo I.length vc)).setCell ⟨w.heap.size + 1, 1, none⟩ (.slice (some ⟨g, 0, none⟩) 24 c)).cell? ⟨w.heap.size + 1, 0, none⟩ = some (.slice vo I.length vc) := by go_cell
      have e1 : ((w1.setCell ⟨w.heap.size + 1, 0, none⟩ (.slice vo I.length vc)).setCell ⟨w.heap.size + 1, 1, none⟩ (.slice (some ⟨g, 0, none⟩) 24 c)).cell? ⟨w.heap.size + 1, 1, none⟩ = some (.slice (some ⟨g, 0, none⟩) 24 c) := by go_cell
      exact bodyPost_ret (v := .agg #[.slice vo I.length vc, .slice (some ⟨g, 0, none⟩) 24 c]) (by simp [results, Try.results36, go_sem, e0, e1]) rfl ⟨⟨_, rfl, HK.out.later KB, row_later HROW.out KB⟩, Only.later KB⟩
    · have n1 : key ≥ 24 := by omega
      go_enter Try.func36, Try.ntmps36
      go_upto_region 1 with fail
      generalize hW1 : ((w.alloc (.cells #[.slice vo I.length vc, .slice (some ⟨g, 0, none⟩) 24 c] 26)).alloc (.cells #[.slice none 0 0, .slice none 0 0] 26)) = w1
      have a0_1 : w1.cell? ⟨w.heap.size, 0, none⟩ = some (.slice vo I.length vc) := by subst hW1; go_cell
      have a1_1 : w1.cell? ⟨w.heap.size, 1, none⟩ = some (.slice (some ⟨g, 0, none⟩) 24 c) := by subst hW1; go_cell
      have al_1 : w.heap.size < w1.heap.size := by subst hW1; first | (simp; done) | (simp; omega)
      have r0_1 : w1.cell? ⟨w.heap.size + 1, 0, none⟩ = some (.slice none 0 0) := by subst hW1; go_cell
      have rf0_1 : w1.frozen? ⟨w.heap.size + 1, 0, none⟩ = false := by subst hW1; (first | go_cell | (simp [World.frozen?, World.alloc]; done) | rfl)
      have r1_1 : w1.cell? ⟨w.heap.size + 1, 1, none⟩ = some (.slice none 0 0) := by subst hW1; go_cell
      have rf1_1 : w1.frozen? ⟨w.heap.size + 1, 1, none⟩ = false := by subst hW1; (first | go_cell | (simp [World.frozen?, World.alloc]; done) | rfl)
      have rl_1 : w.heap.size + 1 < w1.heap.size := by subst hW1; first | (simp; done) | (simp; omega)
      have c1 : Below w.heap.size w w1 := by subst hW1; go_grown
      have s1 : w1.heap.size = w.heap.size + 2 := by subst hW1; simp
      clear hW1
      have qa0_1 := cell_regrown a0_1
      have qa1_1 := cell_regrown a1_1
      have qr0_1 := cell_regrown r0_1
      have qr1_1 := cell_regrown r1_1
      clear qa0_1 qa1_1 qr0_1 qr1_1
      have S1 := hid s1
      clear s1
      have C1 := hid c1
      go_wp2_with fail
      have KB := (C1.out.setCell (p := ⟨w.heap.size + 1, 0, none⟩) (by show w.heap.size ≤ w.heap.size + 1; omega) (.slice vo I.length vc)).setCell (p := ⟨w.heap.size + 1, 1, none⟩) (by show w.heap.size ≤ w.heap.size + 1; omega) (.slice (some ⟨g, 0, none⟩) 24 c)
      have e0 : ((w1.setCell ⟨w.heap.size + 1, 0, none⟩ (.slice vo I.length vc)).setCell ⟨w.heap.size + 1, 1, none⟩ (.slice (some ⟨g, 0, none⟩) 24 c)).cell? ⟨w.heap.size + 1, 0, none⟩ = some (.slice vo I.length vc) := by go_cell
      have e1 : ((w1.setCell ⟨w.heap.size + 1, 0, none⟩ (.slice vo I.length vc)).setCell ⟨w.heap.size + 1, 1, none⟩ (.slice (some ⟨g, 0, none⟩) 24 c)).cell? ⟨w.heap.size + 1, 1, none⟩ = some (.slice (some ⟨g, 0, none⟩) 24 c) := by go_cell
      exact bodyPost_ret (v := .agg #[.slice vo I.length vc, .slice (some ⟨g, 0, none⟩) 24 c]) (by simp [results, Try.results36, go_sem, e0, e1]) rfl ⟨⟨_, rfl, HK.out.later KB, row_later HROW.out KB⟩, Only.later KB⟩

/-! ### spec.CacheFloor -/
end Go.Proofs.Ytilbaiohcfhcaaa
