/- A cache with a greater floor, as the document has it: spec.l5Floor, spec.CacheFloor: contracts. Written by a program (gspf.py). -/
import Derived.Test.YtiebfechhgapiaaXt
namespace Go.Proofs.Ytiebfechhgapiaa
open Go.RowKit
attribute [local go_sem ↓] Go.wp_at_zero Go.wp_at_succ

theorem RdK.weaken {G G' : Nat → Prop} {w : World} {v : Value} {L : List KD} (h : RdK G w v L) (hs : ∀ q, q < w.heap.size → G' q → G q) : RdK G' w v L := by
  obtain ⟨ao, cap, rfl, hl, hc, ⟨xs, hrow⟩, hown⟩ := h
  refine ⟨ao, cap, rfl, hl, fun h0 => ?_, ⟨xs, hrow⟩, fun q hq hG => hown q hq (hs q (hrow.lt q hq).2 hG)⟩
  obtain ⟨b, off, rfl, hb, hbg, hcc⟩ := hc h0
  refine ⟨b, off, rfl, hb, fun q => hbg (hs b hb q), fun i hi => ?_⟩
  obtain ⟨p0, p1, p2, l, u, hx, c0, c1, c2, c3, hu, hn⟩ := hcc i hi
  exact ⟨p0, p1, p2, l, u, hx, c0, c1, c2, c3, hu, fun h1 q hq => ⟨fun hG => (hn h1 q hq).1 (hs q (hu.own_lt h1 q hq) hG), (hn h1 q hq).2⟩⟩
set_option maxRecDepth 100000 in
set_option maxHeartbeats 4000000 in
theorem l5Floor_any (N g c B : Nat) (v0 : Value) (I F : List KD) (key ver : Int) (w : World) (hK : RdK (fun q => q < N) w v0 I) (hN : N ≤ w.heap.size) (hg : g < N) (hrow : w.ownsRow B 3 1 (.slice (some ⟨g, 0, none⟩) 24 c) 24 (floC F)) (hf : FloF F) (h4 : I.length ≤ 1000)
    {D : List KD × List KD} (hD : (if raB F key ver then (dropI key I, putF F key ver) else (I, F)) = D) :
    Calls Try.prog 44 #[.agg #[v0, .slice (some ⟨g, 0, none⟩) 24 c], .int .i64 key, .int .i64 ver] w fun e w' => (∃ v, e = .returned (.agg #[v, .slice (some ⟨g, 0, none⟩) 24 c]) ∧ RdK (fun q => q < N) w' v D.1 ∧ w'.ownsRow B 3 1 (.slice (some ⟨g, 0, none⟩) 24 c) 24 (floC D.2)) ∧ Only (fun b => b = g) w w' := by
  have HK := hid hK
  have HROW := hid hrow
  have HFL := hid hf
  obtain ⟨vo, vc, rfl, _⟩ := hK
  clear hrow hf
  by_cases hin : 0 ≤ key ∧ key < 24
  · obtain ⟨kk, rfl⟩ := Int.eq_ofNat_of_zero_le hin.1
    have hk24 : kk < 24 := by omega
    have hkl : keyIn (kk : Int) = true := by simp [keyIn]; omega
    have n0 : ¬ ((kk : Int) < 0) := by omega
    have n1 : ¬ ((kk : Int) ≥ 24) := by omega
    have HFL1 := hid (show kk < F.length from by rw [HFL.out.1]; exact hk24)
    by_cases hle : ver ≤ flr F kk
    · have hr : raB F (kk : Int) ver = false := by simp [raB, hkl]; omega
      rw [hr] at hD
      simp only [Bool.false_eq_true, if_false] at hD
      subst hD
      go_enter Try.func44, Try.ntmps44
      go_upto_region 1 with fail
      have a0_1 : ((w.alloc (.cells #[.slice vo I.length vc, .slice (some ⟨g, 0, none⟩) 24 c] 26)).alloc (.cells #[.slice none 0 0, .slice none 0 0] 26)).cell? ⟨w.heap.size, 0, none⟩ = some (.slice vo I.length vc) := by go_cell
      have a1_1 : ((w.alloc (.cells #[.slice vo I.length vc, .slice (some ⟨g, 0, none⟩) 24 c] 26)).alloc (.cells #[.slice none 0 0, .slice none 0 0] 26)).cell? ⟨w.heap.size, 1, none⟩ = some (.slice (some ⟨g, 0, none⟩) 24 c) := by go_cell
      have al_1 : w.heap.size < ((w.alloc (.cells #[.slice vo I.length vc, .slice (some ⟨g, 0, none⟩) 24 c] 26)).alloc (.cells #[.slice none 0 0, .slice none 0 0] 26)).heap.size := by first | (simp; done) | (simp; omega)
      have r0_1 : ((w.alloc (.cells #[.slice vo I.length vc, .slice (some ⟨g, 0, none⟩) 24 c] 26)).alloc (.cells #[.slice none 0 0, .slice none 0 0] 26)).cell? ⟨w.heap.size + 1, 0, none⟩ = some (.slice none 0 0) := by go_cell
      have rf0_1 : ((w.alloc (.cells #[.slice vo I.length vc, .slice (some ⟨g, 0, none⟩) 24 c] 26)).alloc (.cells #[.slice none 0 0, .slice none 0 0] 26)).frozen? ⟨w.heap.size + 1, 0, none⟩ = false := by (first | go_cell | (simp [World.frozen?, World.alloc]; done) | rfl)
      have r1_1 : ((w.alloc (.cells #[.slice vo I.length vc, .slice (some ⟨g, 0, none⟩) 24 c] 26)).alloc (.cells #[.slice none 0 0, .slice none 0 0] 26)).cell? ⟨w.heap.size + 1, 1, none⟩ = some (.slice none 0 0) := by go_cell
      have rf1_1 : ((w.alloc (.cells #[.slice vo I.length vc, .slice (some ⟨g, 0, none⟩) 24 c] 26)).alloc (.cells #[.slice none 0 0, .slice none 0 0] 26)).frozen? ⟨w.heap.size + 1, 1, none⟩ = false := by (first | go_cell | (simp [World.frozen?, World.alloc]; done) | rfl)
      have rl_1 : w.heap.size + 1 < ((w.alloc (.cells #[.slice vo I.length vc, .slice (some ⟨g, 0, none⟩) 24 c] 26)).alloc (.cells #[.slice none 0 0, .slice none 0 0] 26)).heap.size := by first | (simp; done) | (simp; omega)
      have c1 : Below w.heap.size w ((w.alloc (.cells #[.slice vo I.length vc, .slice (some ⟨g, 0, none⟩) 24 c] 26)).alloc (.cells #[.slice none 0 0, .slice none 0 0] 26)) := by go_grown
      have s1 : ((w.alloc (.cells #[.slice vo I.length vc, .slice (some ⟨g, 0, none⟩) 24 c] 26)).alloc (.cells #[.slice none 0 0, .slice none 0 0] 26)).heap.size = w.heap.size + 2 := by simp
      generalize ((w.alloc (.cells #[.slice vo I.length vc, .slice (some ⟨g, 0, none⟩) 24 c] 26)).alloc (.cells #[.slice none 0 0, .slice none 0 0] 26)) = w1 at a0_1 a1_1 al_1 r0_1 rf0_1 r1_1 rf1_1 rl_1 c1 s1 ⊢
      have qa0_1 := cell_regrown a0_1
      have qa1_1 := cell_regrown a1_1
      have qr0_1 := cell_regrown r0_1
      have qr1_1 := cell_regrown r1_1
      clear qa0_1 qa1_1 qr0_1 qr1_1
      have S1 := hid s1
      clear s1
      have HROW1 := hid (row_later HROW.out c1)
      have f1 : w1.cell? ⟨g, kk, none⟩ = some (.int .i64 (flr F kk)) := by rw [World.ownsRow.cellAt HROW1.out kk (by omega), floC_get HFL1.out]
      have C1 := hid c1
      go_wp2_with fail
      have KB := (C1.out.setCell (p := ⟨w.heap.size + 1, 0, none⟩) (by show w.heap.size ≤ w.heap.size + 1; omega) (.slice vo I.length vc)).setCell (p := ⟨w.heap.size + 1, 1, none⟩) (by show w.heap.size ≤ w.heap.size + 1; omega) (.slice (some ⟨g, 0, none⟩) 24 c)
      have e0 : ((w1.setCell ⟨w.heap.size + 1, 0, none⟩ (.slice vo I.length vc)).setCell ⟨w.heap.size + 1, 1, none⟩ (.slice (some ⟨g, 0, none⟩) 24 c)).cell? ⟨w.heap.size + 1, 0, none⟩ = some (.slice vo I.length vc) := by go_cell
      have e1 : ((w1.setCell ⟨w.heap.size + 1, 0, none⟩ (.slice vo I.length vc)).setCell ⟨w.heap.size + 1, 1, none⟩ (.slice (some ⟨g, 0, none⟩) 24 c)).cell? ⟨w.heap.size + 1, 1, none⟩ = some (.slice (some ⟨g, 0, none⟩) 24 c) := by go_cell
      exact bodyPost_ret (v := .agg #[.slice vo I.length vc, .slice (some ⟨g, 0, none⟩) 24 c]) (by simp [results, Try.results44, go_sem, e0, e1]) rfl ⟨⟨_, rfl, HK.out.later KB, row_later HROW.out KB⟩, Only.later KB⟩
    · by_cases hgt : ver > 60
      · have hr : raB F (kk : Int) ver = false := by simp [raB, hkl]; omega
        rw [hr] at hD
        simp only [Bool.false_eq_true, if_false] at hD
        subst hD
        go_enter Try.func44, Try.ntmps44
        go_upto_region 1 with fail
        have a0_1 : ((w.alloc (.cells #[.slice vo I.length vc, .slice (some ⟨g, 0, none⟩) 24 c] 26)).alloc (.cells #[.slice none 0 0, .slice none 0 0] 26)).cell? ⟨w.heap.size, 0, none⟩ = some (.slice vo I.length vc) := by go_cell
        have a1_1 : ((w.alloc (.cells #[.slice vo I.length vc, .slice (some ⟨g, 0, none⟩) 24 c] 26)).alloc (.cells #[.slice none 0 0, .slice none 0 0] 26)).cell? ⟨w.heap.size, 1, none⟩ = some (.slice (some ⟨g, 0, none⟩) 24 c) := by go_cell
        have al_1 : w.heap.size < ((w.alloc (.cells #[.slice vo I.length vc, .slice (some ⟨g, 0, none⟩) 24 c] 26)).alloc (.cells #[.slice none 0 0, .slice none 0 0] 26)).heap.size := by first | (simp; done) | (simp; omega)
        have r0_1 : ((w.alloc (.cells #[.slice vo I.length vc, .slice (some ⟨g, 0, none⟩) 24 c] 26)).alloc (.cells #[.slice none 0 0, .slice none 0 0] 26)).cell? ⟨w.heap.size + 1, 0, none⟩ = some (.slice none 0 0) := by go_cell
        have rf0_1 : ((w.alloc (.cells #[.slice vo I.length vc, .slice (some ⟨g, 0, none⟩) 24 c] 26)).alloc (.cells #[.slice none 0 0, .slice none 0 0] 26)).frozen? ⟨w.heap.size + 1, 0, none⟩ = false := by (first | go_cell | (simp [World.frozen?, World.alloc]; done) | rfl)
        have r1_1 : ((w.alloc (.cells #[.slice vo I.length vc, .slice (some ⟨g, 0, none⟩) 24 c] 26)).alloc (.cells #[.slice none 0 0, .slice none 0 0] 26)).cell? ⟨w.heap.size + 1, 1, none⟩ = some (.slice none 0 0) := by go_cell
        have rf1_1 : ((w.alloc (.cells #[.slice vo I.length vc, .slice (some ⟨g, 0, none⟩) 24 c] 26)).alloc (.cells #[.slice none 0 0, .slice none 0 0] 26)).frozen? ⟨w.heap.size + 1, 1, none⟩ = false := by (first | go_cell | (simp [World.frozen?, World.alloc]; done) | rfl)
        have rl_1 : w.heap.size + 1 < ((w.alloc (.cells #[.slice vo I.length vc, .slice (some ⟨g, 0, none⟩) 24 c] 26)).alloc (.cells #[.slice none 0 0, .slice none 0 0] 26)).heap.size := by first | (simp; done) | (simp; omega)
        have c1 : Below w.heap.size w ((w.alloc (.cells #[.slice vo I.length vc, .slice (some ⟨g, 0, none⟩) 24 c] 26)).alloc (.cells #[.slice none 0 0, .slice none 0 0] 26)) := by go_grown
        have s1 : ((w.alloc (.cells #[.slice vo I.length vc, .slice (some ⟨g, 0, none⟩) 24 c] 26)).alloc (.cells #[.slice none 0 0, .slice none 0 0] 26)).heap.size = w.heap.size + 2 := by simp
        generalize ((w.alloc (.cells #[.slice vo I.length vc, .slice (some ⟨g, 0, none⟩) 24 c] 26)).alloc (.cells #[.slice none 0 0, .slice none 0 0] 26)) = w1 at a0_1 a1_1 al_1 r0_1 rf0_1 r1_1 rf1_1 rl_1 c1 s1 ⊢
        have qa0_1 := cell_regrown a0_1
        have qa1_1 := cell_regrown a1_1
        have qr0_1 := cell_regrown r0_1
        have qr1_1 := cell_regrown r1_1
        clear qa0_1 qa1_1 qr0_1 qr1_1
        have S1 := hid s1
        clear s1
        have HROW1 := hid (row_later HROW.out c1)
        have f1 : w1.cell? ⟨g, kk, none⟩ = some (.int .i64 (flr F kk)) := by rw [World.ownsRow.cellAt HROW1.out kk (by omega), floC_get HFL1.out]
        have C1 := hid c1
        go_wp2_with fail
        have KB := (C1.out.setCell (p := ⟨w.heap.size + 1, 0, none⟩) (by show w.heap.size ≤ w.heap.size + 1; omega) (.slice vo I.length vc)).setCell (p := ⟨w.heap.size + 1, 1, none⟩) (by show w.heap.size ≤ w.heap.size + 1; omega) (.slice (some ⟨g, 0, none⟩) 24 c)
        have e0 : ((w1.setCell ⟨w.heap.size + 1, 0, none⟩ (.slice vo I.length vc)).setCell ⟨w.heap.size + 1, 1, none⟩ (.slice (some ⟨g, 0, none⟩) 24 c)).cell? ⟨w.heap.size + 1, 0, none⟩ = some (.slice vo I.length vc) := by go_cell
        have e1 : ((w1.setCell ⟨w.heap.size + 1, 0, none⟩ (.slice vo I.length vc)).setCell ⟨w.heap.size + 1, 1, none⟩ (.slice (some ⟨g, 0, none⟩) 24 c)).cell? ⟨w.heap.size + 1, 1, none⟩ = some (.slice (some ⟨g, 0, none⟩) 24 c) := by go_cell
        exact bodyPost_ret (v := .agg #[.slice vo I.length vc, .slice (some ⟨g, 0, none⟩) 24 c]) (by simp [results, Try.results44, go_sem, e0, e1]) rfl ⟨⟨_, rfl, HK.out.later KB, row_later HROW.out KB⟩, Only.later KB⟩
      · have hr : raB F (kk : Int) ver = true := by simp [raB, hkl]; omega
        rw [hr] at hD
        simp only [if_true] at hD
        subst hD
        have HIN := hid hin
        clear hin hkl hr
        go_enter Try.func44, Try.ntmps44
        go_upto_region 1 with fail
        have a0_1 : ((w.alloc (.cells #[.slice vo I.length vc, .slice (some ⟨g, 0, none⟩) 24 c] 26)).alloc (.cells #[.slice none 0 0, .slice none 0 0] 26)).cell? ⟨w.heap.size, 0, none⟩ = some (.slice vo I.length vc) := by go_cell
        have af0_1 : ((w.alloc (.cells #[.slice vo I.length vc, .slice (some ⟨g, 0, none⟩) 24 c] 26)).alloc (.cells #[.slice none 0 0, .slice none 0 0] 26)).frozen? ⟨w.heap.size, 0, none⟩ = false := by (first | go_cell | (simp [World.frozen?, World.alloc]; done) | rfl)
        have a1_1 : ((w.alloc (.cells #[.slice vo I.length vc, .slice (some ⟨g, 0, none⟩) 24 c] 26)).alloc (.cells #[.slice none 0 0, .slice none 0 0] 26)).cell? ⟨w.heap.size, 1, none⟩ = some (.slice (some ⟨g, 0, none⟩) 24 c) := by go_cell
        have af1_1 : ((w.alloc (.cells #[.slice vo I.length vc, .slice (some ⟨g, 0, none⟩) 24 c] 26)).alloc (.cells #[.slice none 0 0, .slice none 0 0] 26)).frozen? ⟨w.heap.size, 1, none⟩ = false := by (first | go_cell | (simp [World.frozen?, World.alloc]; done) | rfl)
        have al_1 : w.heap.size < ((w.alloc (.cells #[.slice vo I.length vc, .slice (some ⟨g, 0, none⟩) 24 c] 26)).alloc (.cells #[.slice none 0 0, .slice none 0 0] 26)).heap.size := by first | (simp; done) | (simp; omega)
        have r0_1 : ((w.alloc (.cells #[.slice vo I.length vc, .slice (some ⟨g, 0, none⟩) 24 c] 26)).alloc (.cells #[.slice none 0 0, .slice none 0 0] 26)).cell? ⟨w.heap.size + 1, 0, none⟩ = some (.slice none 0 0) := by go_cell
        have rf0_1 : ((w.alloc (.cells #[.slice vo I.length vc, .slice (some ⟨g, 0, none⟩) 24 c] 26)).alloc (.cells #[.slice none 0 0, .slice none 0 0] 26)).frozen? ⟨w.heap.size + 1, 0, none⟩ = false := by (first | go_cell | (simp [World.frozen?, World.alloc]; done) | rfl)
        have r1_1 : ((w.alloc (.cells #[.slice vo I.length vc, .slice (some ⟨g, 0, none⟩) 24 c] 26)).alloc (.cells #[.slice none 0 0, .slice none 0 0] 26)).cell? ⟨w.heap.size + 1, 1, none⟩ = some (.slice none 0 0) := by go_cell
        have rf1_1 : ((w.alloc (.cells #[.slice vo I.length vc, .slice (some ⟨g, 0, none⟩) 24 c] 26)).alloc (.cells #[.slice none 0 0, .slice none 0 0] 26)).frozen? ⟨w.heap.size + 1, 1, none⟩ = false := by (first | go_cell | (simp [World.frozen?, World.alloc]; done) | rfl)
        have rl_1 : w.heap.size + 1 < ((w.alloc (.cells #[.slice vo I.length vc, .slice (some ⟨g, 0, none⟩) 24 c] 26)).alloc (.cells #[.slice none 0 0, .slice none 0 0] 26)).heap.size := by first | (simp; done) | (simp; omega)
        have c1 : Below w.heap.size w ((w.alloc (.cells #[.slice vo I.length vc, .slice (some ⟨g, 0, none⟩) 24 c] 26)).alloc (.cells #[.slice none 0 0, .slice none 0 0] 26)) := by go_grown
        have s1 : ((w.alloc (.cells #[.slice vo I.length vc, .slice (some ⟨g, 0, none⟩) 24 c] 26)).alloc (.cells #[.slice none 0 0, .slice none 0 0] 26)).heap.size = w.heap.size + 2 := by simp
        generalize ((w.alloc (.cells #[.slice vo I.length vc, .slice (some ⟨g, 0, none⟩) 24 c] 26)).alloc (.cells #[.slice none 0 0, .slice none 0 0] 26)) = w1 at a0_1 af0_1 a1_1 af1_1 al_1 r0_1 rf0_1 r1_1 rf1_1 rl_1 c1 s1 ⊢
        have qa0_1 := cell_regrown a0_1
        have qa1_1 := cell_regrown a1_1
        have qr0_1 := cell_regrown r0_1
        have qr1_1 := cell_regrown r1_1
        clear qa0_1 qa1_1 qr0_1 qr1_1
        have S1 := hid s1
        have hz1 : w1.heap.size = w.heap.size + 2 := s1
        have HZ1 := hid hz1
        clear s1 hz1
        have HROW1 := hid (row_later HROW.out c1)
        have f1 : w1.cell? ⟨g, kk, none⟩ = some (.int .i64 (flr F kk)) := by rw [World.ownsRow.cellAt HROW1.out kk (by omega), floC_get HFL1.out]
        have C1 := hid c1
        have hw01 := c1.size
        have K1 := hid ((HK.out.weaken (G' := fun q => q < N ∨ (w.heap.size ≤ q ∧ q < w1.heap.size)) (fun q hq hG => hG.elim id (fun h => by omega))).later c1)
        go_wp2_with fail
        refine (l5Drop_any (fun q => q < N ∨ (w.heap.size ≤ q ∧ q < w1.heap.size)) _ (some ⟨g, 0, none⟩) 24 c I (kk : Int) _ K1.out (fun q hq hG => hG.elim (fun h => by omega) (fun h => by omega)) h4).mono ?_
        rintro e w2 ⟨⟨x, rfl, hx⟩, b2⟩
        have HX := hid hx
        obtain ⟨xo, xc, rfl, _⟩ := hx
        have d2 : Below w1.heap.size w1 w2 := (Below.trans (by go_grown) (b2.mono (by first | omega | (simp; done) | (simp; omega))))
        have c2 : Below w.heap.size w w2 := c1.trans (d2.mono c1.size)
        have a0_2 : w2.cell? ⟨w.heap.size, 0, none⟩ = some (.slice vo I.length vc) := (by rw [b2.cell (by first | omega | (simp; done) | (simp; omega))]; go_cell)
        have af0_2 : w2.frozen? ⟨w.heap.size, 0, none⟩ = false := (by rw [b2.frozen (by first | omega | (simp; done) | (simp; omega))]; (first | go_cell | (simp [World.frozen?, World.alloc]; done) | rfl))
        have a1_2 : w2.cell? ⟨w.heap.size, 1, none⟩ = some (.slice (some ⟨g, 0, none⟩) 24 c) := (by rw [b2.cell (by first | omega | (simp; done) | (simp; omega))]; go_cell)
        have af1_2 : w2.frozen? ⟨w.heap.size, 1, none⟩ = false := (by rw [b2.frozen (by first | omega | (simp; done) | (simp; omega))]; (first | go_cell | (simp [World.frozen?, World.alloc]; done) | rfl))
        have al_2 : w.heap.size < w2.heap.size := (by have := b2.size; first | omega | (revert this; simp; done) | (revert this; simp; omega))
        have r0_2 : w2.cell? ⟨w.heap.size + 1, 0, none⟩ = some (.slice none 0 0) := (by rw [b2.cell (by first | omega | (simp; done) | (simp; omega))]; go_cell)
        have rf0_2 : w2.frozen? ⟨w.heap.size + 1, 0, none⟩ = false := (by rw [b2.frozen (by first | omega | (simp; done) | (simp; omega))]; (first | go_cell | (simp [World.frozen?, World.alloc]; done) | rfl))
        have r1_2 : w2.cell? ⟨w.heap.size + 1, 1, none⟩ = some (.slice none 0 0) := (by rw [b2.cell (by first | omega | (simp; done) | (simp; omega))]; go_cell)
        have rf1_2 : w2.frozen? ⟨w.heap.size + 1, 1, none⟩ = false := (by rw [b2.frozen (by first | omega | (simp; done) | (simp; omega))]; (first | go_cell | (simp [World.frozen?, World.alloc]; done) | rfl))
        have rl_2 : w.heap.size + 1 < w2.heap.size := (by have := b2.size; first | omega | (revert this; simp; done) | (revert this; simp; omega))
        clear a0_1 af0_1 a1_1 af1_1 al_1 r0_1 rf0_1 r1_1 rf1_1 rl_1
        have HROW2 := hid (row_later HROW1.out b2)
        have HC2 := hid c2
        have hgw : g < w.heap.size := by omega
        have HGL := hid (HROW2.out.lt g rfl)
        have qf := HROW2.out.frozenAt kk
        obtain ⟨z, hz⟩ := row_cell HROW2.out kk (by omega)
        clear b2 d2 f1 HROW1 K1
        go_wp2_with fail
        have e0 : (((((w2.setCell ⟨w.heap.size, 0, none⟩ (.slice xo (dropI (kk : Int) I).length xc)).setCell ⟨w.heap.size, 1, none⟩ (.slice (some ⟨g, 0, none⟩) 24 c)).setCell ⟨g, kk, none⟩ (.int .i64 ver)).setCell ⟨w.heap.size + 1, 0, none⟩ (.slice xo (dropI (kk : Int) I).length xc)).setCell ⟨w.heap.size + 1, 1, none⟩ (.slice (some ⟨g, 0, none⟩) 24 c)).cell? ⟨w.heap.size + 1, 0, none⟩ = some (.slice xo (dropI (kk : Int) I).length xc) := by go_cell
        have e1 : (((((w2.setCell ⟨w.heap.size, 0, none⟩ (.slice xo (dropI (kk : Int) I).length xc)).setCell ⟨w.heap.size, 1, none⟩ (.slice (some ⟨g, 0, none⟩) 24 c)).setCell ⟨g, kk, none⟩ (.int .i64 ver)).setCell ⟨w.heap.size + 1, 0, none⟩ (.slice xo (dropI (kk : Int) I).length xc)).setCell ⟨w.heap.size + 1, 1, none⟩ (.slice (some ⟨g, 0, none⟩) 24 c)).cell? ⟨w.heap.size + 1, 1, none⟩ = some (.slice (some ⟨g, 0, none⟩) 24 c) := by go_cell
        have zz := HZ1.out
        have q0 : ∀ (W : World) (u : Value), Only (fun q => q < N ∨ (w.heap.size ≤ q ∧ q < w1.heap.size)) W (W.setCell ⟨w.heap.size, 0, none⟩ u) := fun W u => Only.set (F := fun q => q < N ∨ (w.heap.size ≤ q ∧ q < w1.heap.size)) W (p := ⟨w.heap.size, 0, none⟩) (Or.inr ⟨Nat.le_refl _, by show w.heap.size < _; omega⟩) u
        have q1 : ∀ (W : World) (u : Value), Only (fun q => q < N ∨ (w.heap.size ≤ q ∧ q < w1.heap.size)) W (W.setCell ⟨w.heap.size, 1, none⟩ u) := fun W u => Only.set (F := fun q => q < N ∨ (w.heap.size ≤ q ∧ q < w1.heap.size)) W (p := ⟨w.heap.size, 1, none⟩) (Or.inr ⟨Nat.le_refl _, by show w.heap.size < _; omega⟩) u
        have q2 : ∀ (W : World) (u : Value), Only (fun q => q < N ∨ (w.heap.size ≤ q ∧ q < w1.heap.size)) W (W.setCell ⟨g, kk, none⟩ u) := fun W u => Only.set (F := fun q => q < N ∨ (w.heap.size ≤ q ∧ q < w1.heap.size)) W (p := ⟨g, kk, none⟩) (Or.inl hg) u
        have q3 : ∀ (t : Nat) (W : World) (u : Value), Only (fun q => q < N ∨ (w.heap.size ≤ q ∧ q < w1.heap.size)) W (W.setCell ⟨w.heap.size + 1, t, none⟩ u) := fun t W u => Only.set (F := fun q => q < N ∨ (w.heap.size ≤ q ∧ q < w1.heap.size)) W (p := ⟨w.heap.size + 1, t, none⟩) (Or.inr ⟨by show w.heap.size ≤ w.heap.size + 1; omega, by show w.heap.size + 1 < _; omega⟩) u
        have R9 := (HX.out.only (((((q0 w2 (.slice xo (dropI (kk : Int) I).length xc)).trans (q1 _ (.slice (some ⟨g, 0, none⟩) 24 c))).trans (q2 _ (.int .i64 ver))).trans (q3 0 _ (.slice xo (dropI (kk : Int) I).length xc))).trans (q3 1 _ (.slice (some ⟨g, 0, none⟩) 24 c)))).weaken (G' := fun q => q < N) (fun q _ h => Or.inl h)
        have F3 := row_put1 (row_agree (row_agree HROW2.out (w' := w2.setCell ⟨w.heap.size, 0, none⟩ (.slice xo (dropI (kk : Int) I).length xc)) (fun q hq => by cases hq; exact Below.heap_setCell _ _ _ _ (by show g ≠ w.heap.size; omega))) (w' := (w2.setCell ⟨w.heap.size, 0, none⟩ (.slice xo (dropI (kk : Int) I).length xc)).setCell ⟨w.heap.size, 1, none⟩ (.slice (some ⟨g, 0, none⟩) 24 c)) (fun q hq => by cases hq; exact Below.heap_setCell _ _ _ _ (by show g ≠ w.heap.size; omega))) kk (.int .i64 ver)
        rw [floC_set] at F3
        have F9 := row_agree (row_agree F3 (w' := (((w2.setCell ⟨w.heap.size, 0, none⟩ (.slice xo (dropI (kk : Int) I).length xc)).setCell ⟨w.heap.size, 1, none⟩ (.slice (some ⟨g, 0, none⟩) 24 c)).setCell ⟨g, kk, none⟩ (.int .i64 ver)).setCell ⟨w.heap.size + 1, 0, none⟩ (.slice xo (dropI (kk : Int) I).length xc)) (fun q hq => by cases hq; exact Below.heap_setCell _ _ _ _ (by show g ≠ w.heap.size + 1; omega))) (w' := ((((w2.setCell ⟨w.heap.size, 0, none⟩ (.slice xo (dropI (kk : Int) I).length xc)).setCell ⟨w.heap.size, 1, none⟩ (.slice (some ⟨g, 0, none⟩) 24 c)).setCell ⟨g, kk, none⟩ (.int .i64 ver)).setCell ⟨w.heap.size + 1, 0, none⟩ (.slice xo (dropI (kk : Int) I).length xc)).setCell ⟨w.heap.size + 1, 1, none⟩ (.slice (some ⟨g, 0, none⟩) 24 c)) (fun q hq => by cases hq; exact Below.heap_setCell _ _ _ _ (by show g ≠ w.heap.size + 1; omega))
        have O9 : Only (fun b => b = g) w (((((w2.setCell ⟨w.heap.size, 0, none⟩ (.slice xo (dropI (kk : Int) I).length xc)).setCell ⟨w.heap.size, 1, none⟩ (.slice (some ⟨g, 0, none⟩) 24 c)).setCell ⟨g, kk, none⟩ (.int .i64 ver)).setCell ⟨w.heap.size + 1, 0, none⟩ (.slice xo (dropI (kk : Int) I).length xc)).setCell ⟨w.heap.size + 1, 1, none⟩ (.slice (some ⟨g, 0, none⟩) 24 c)) := by
          refine ⟨HC2.out.os, HC2.out.tape, HC2.out.output, by have := HC2.out.size; simp; exact this, fun q hq hne => ?_⟩
          exact (Below.heap_setCell _ _ _ _ (by show q ≠ w.heap.size + 1; omega)).trans ((Below.heap_setCell _ _ _ _ (by show q ≠ w.heap.size + 1; omega)).trans ((Below.heap_setCell _ _ _ _ (by show q ≠ g; exact hne)).trans ((Below.heap_setCell _ _ _ _ (by show q ≠ w.heap.size; omega)).trans ((Below.heap_setCell _ _ _ _ (by show q ≠ w.heap.size; omega)).trans (HC2.out.block q hq)))))
        exact bodyPost_ret (v := .agg #[.slice xo (dropI (kk : Int) I).length xc, .slice (some ⟨g, 0, none⟩) 24 c]) (by simp [results, Try.results44, go_sem, e0, e1]) rfl ⟨⟨_, rfl, R9, F9⟩, O9⟩
  · have hkl : keyIn key = false := by
      cases h : keyIn key with
      | false => rfl
      | true => exact absurd (by simpa [keyIn] using h) hin
    have hr : raB F key ver = false := by simp [raB, hkl]
    rw [hr] at hD
    simp only [Bool.false_eq_true, if_false] at hD
    subst hD
    by_cases n0 : key < 0
    · skip
      go_enter Try.func44, Try.ntmps44
      go_upto_region 1 with fail
      have a0_1 : ((w.alloc (.cells #[.slice vo I.length vc, .slice (some ⟨g, 0, none⟩) 24 c] 26)).alloc (.cells #[.slice none 0 0, .slice none 0 0] 26)).cell? ⟨w.heap.size, 0, none⟩ = some (.slice vo I.length vc) := by go_cell
      have a1_1 : ((w.alloc (.cells #[.slice vo I.length vc, .slice (some ⟨g, 0, none⟩) 24 c] 26)).alloc (.cells #[.slice none 0 0, .slice none 0 0] 26)).cell? ⟨w.heap.size, 1, none⟩ = some (.slice (some ⟨g, 0, none⟩) 24 c) := by go_cell
      have al_1 : w.heap.size < ((w.alloc (.cells #[.slice vo I.length vc, .slice (some ⟨g, 0, none⟩) 24 c] 26)).alloc (.cells #[.slice none 0 0, .slice none 0 0] 26)).heap.size := by first | (simp; done) | (simp; omega)
      have r0_1 : ((w.alloc (.cells #[.slice vo I.length vc, .slice (some ⟨g, 0, none⟩) 24 c] 26)).alloc (.cells #[.slice none 0 0, .slice none 0 0] 26)).cell? ⟨w.heap.size + 1, 0, none⟩ = some (.slice none 0 0) := by go_cell
      have rf0_1 : ((w.alloc (.cells #[.slice vo I.length vc, .slice (some ⟨g, 0, none⟩) 24 c] 26)).alloc (.cells #[.slice none 0 0, .slice none 0 0] 26)).frozen? ⟨w.heap.size + 1, 0, none⟩ = false := by (first | go_cell | (simp [World.frozen?, World.alloc]; done) | rfl)
      have r1_1 : ((w.alloc (.cells #[.slice vo I.length vc, .slice (some ⟨g, 0, none⟩) 24 c] 26)).alloc (.cells #[.slice none 0 0, .slice none 0 0] 26)).cell? ⟨w.heap.size + 1, 1, none⟩ = some (.slice none 0 0) := by go_cell
      have rf1_1 : ((w.alloc (.cells #[.slice vo I.length vc, .slice (some ⟨g, 0, none⟩) 24 c] 26)).alloc (.cells #[.slice none 0 0, .slice none 0 0] 26)).frozen? ⟨w.heap.size + 1, 1, none⟩ = false := by (first | go_cell | (simp [World.frozen?, World.alloc]; done) | rfl)
      have rl_1 : w.heap.size + 1 < ((w.alloc (.cells #[.slice vo I.length vc, .slice (some ⟨g, 0, none⟩) 24 c] 26)).alloc (.cells #[.slice none 0 0, .slice none 0 0] 26)).heap.size := by first | (simp; done) | (simp; omega)
      have c1 : Below w.heap.size w ((w.alloc (.cells #[.slice vo I.length vc, .slice (some ⟨g, 0, none⟩) 24 c] 26)).alloc (.cells #[.slice none 0 0, .slice none 0 0] 26)) := by go_grown
      have s1 : ((w.alloc (.cells #[.slice vo I.length vc, .slice (some ⟨g, 0, none⟩) 24 c] 26)).alloc (.cells #[.slice none 0 0, .slice none 0 0] 26)).heap.size = w.heap.size + 2 := by simp
      generalize ((w.alloc (.cells #[.slice vo I.length vc, .slice (some ⟨g, 0, none⟩) 24 c] 26)).alloc (.cells #[.slice none 0 0, .slice none 0 0] 26)) = w1 at a0_1 a1_1 al_1 r0_1 rf0_1 r1_1 rf1_1 rl_1 c1 s1 ⊢
      have qa0_1 := cell_regrown a0_1
      have qa1_1 := cell_regrown a1_1
      have qr0_1 := cell_regrown r0_1
      have qr1_1 := cell_regrown r1_1
      clear qa0_1 qa1_1 qr0_1 qr1_1
      have S1 := hid s1
      clear s1
      have C1 := hid c1
      go_wp2_with fail
      have KB := (C1.out.setCell (p := ⟨w.heap.size + 1, 0, none⟩) (by show w.heap.size ≤ w.heap.size + 1; omega) (.slice vo I.length vc)).setCell (p := ⟨w.heap.size + 1, 1, none⟩) (by show w.heap.size ≤ w.heap.size + 1; omega) (.slice (some ⟨g, 0, none⟩) 24 c)
      have e0 : ((w1.setCell ⟨w.heap.size + 1, 0, none⟩ (.slice vo I.length vc)).setCell ⟨w.heap.size + 1, 1, none⟩ (.slice (some ⟨g, 0, none⟩) 24 c)).cell? ⟨w.heap.size + 1, 0, none⟩ = some (.slice vo I.length vc) := by go_cell
      have e1 : ((w1.setCell ⟨w.heap.size + 1, 0, none⟩ (.slice vo I.length vc)).setCell ⟨w.heap.size + 1, 1, none⟩ (.slice (some ⟨g, 0, none⟩) 24 c)).cell? ⟨w.heap.size + 1, 1, none⟩ = some (.slice (some ⟨g, 0, none⟩) 24 c) := by go_cell
      exact bodyPost_ret (v := .agg #[.slice vo I.length vc, .slice (some ⟨g, 0, none⟩) 24 c]) (by simp [results, Try.results44, go_sem, e0, e1]) rfl ⟨⟨_, rfl, HK.out.later KB, row_later HROW.out KB⟩, Only.later KB⟩
    · have n1 : key ≥ 24 := by omega
      go_enter Try.func44, Try.ntmps44
      go_upto_region 1 with fail
      have a0_1 : ((w.alloc (.cells #[.slice vo I.length vc, .slice (some ⟨g, 0, none⟩) 24 c] 26)).alloc (.cells #[.slice none 0 0, .slice none 0 0] 26)).cell? ⟨w.heap.size, 0, none⟩ = some (.slice vo I.length vc) := by go_cell
      have a1_1 : ((w.alloc (.cells #[.slice vo I.length vc, .slice (some ⟨g, 0, none⟩) 24 c] 26)).alloc (.cells #[.slice none 0 0, .slice none 0 0] 26)).cell? ⟨w.heap.size, 1, none⟩ = some (.slice (some ⟨g, 0, none⟩) 24 c) := by go_cell
      have al_1 : w.heap.size < ((w.alloc (.cells #[.slice vo I.length vc, .slice (some ⟨g, 0, none⟩) 24 c] 26)).alloc (.cells #[.slice none 0 0, .slice none 0 0] 26)).heap.size := by first | (simp; done) | (simp; omega)
      have r0_1 : ((w.alloc (.cells #[.slice vo I.length vc, .slice (some ⟨g, 0, none⟩) 24 c] 26)).alloc (.cells #[.slice none 0 0, .slice none 0 0] 26)).cell? ⟨w.heap.size + 1, 0, none⟩ = some (.slice none 0 0) := by go_cell
      have rf0_1 : ((w.alloc (.cells #[.slice vo I.length vc, .slice (some ⟨g, 0, none⟩) 24 c] 26)).alloc (.cells #[.slice none 0 0, .slice none 0 0] 26)).frozen? ⟨w.heap.size + 1, 0, none⟩ = false := by (first | go_cell | (simp [World.frozen?, World.alloc]; done) | rfl)
      have r1_1 : ((w.alloc (.cells #[.slice vo I.length vc, .slice (some ⟨g, 0, none⟩) 24 c] 26)).alloc (.cells #[.slice none 0 0, .slice none 0 0] 26)).cell? ⟨w.heap.size + 1, 1, none⟩ = some (.slice none 0 0) := by go_cell
      have rf1_1 : ((w.alloc (.cells #[.slice vo I.length vc, .slice (some ⟨g, 0, none⟩) 24 c] 26)).alloc (.cells #[.slice none 0 0, .slice none 0 0] 26)).frozen? ⟨w.heap.size + 1, 1, none⟩ = false := by (first | go_cell | (simp [World.frozen?, World.alloc]; done) | rfl)
      have rl_1 : w.heap.size + 1 < ((w.alloc (.cells #[.slice vo I.length vc, .slice (some ⟨g, 0, none⟩) 24 c] 26)).alloc (.cells #[.slice none 0 0, .slice none 0 0] 26)).heap.size := by first | (simp; done) | (simp; omega)
      have c1 : Below w.heap.size w ((w.alloc (.cells #[.slice vo I.length vc, .slice (some ⟨g, 0, none⟩) 24 c] 26)).alloc (.cells #[.slice none 0 0, .slice none 0 0] 26)) := by go_grown
      have s1 : ((w.alloc (.cells #[.slice vo I.length vc, .slice (some ⟨g, 0, none⟩) 24 c] 26)).alloc (.cells #[.slice none 0 0, .slice none 0 0] 26)).heap.size = w.heap.size + 2 := by simp
      generalize ((w.alloc (.cells #[.slice vo I.length vc, .slice (some ⟨g, 0, none⟩) 24 c] 26)).alloc (.cells #[.slice none 0 0, .slice none 0 0] 26)) = w1 at a0_1 a1_1 al_1 r0_1 rf0_1 r1_1 rf1_1 rl_1 c1 s1 ⊢
      have qa0_1 := cell_regrown a0_1
      have qa1_1 := cell_regrown a1_1
      have qr0_1 := cell_regrown r0_1
      have qr1_1 := cell_regrown r1_1
      clear qa0_1 qa1_1 qr0_1 qr1_1
      have S1 := hid s1
      clear s1
      have C1 := hid c1
      go_wp2_with fail
      have KB := (C1.out.setCell (p := ⟨w.heap.size + 1, 0, none⟩) (by show w.heap.size ≤ w.heap.size + 1; omega) (.slice vo I.length vc)).setCell (p := ⟨w.heap.size + 1, 1, none⟩) (by show w.heap.size ≤ w.heap.size + 1; omega) (.slice (some ⟨g, 0, none⟩) 24 c)
      have e0 : ((w1.setCell ⟨w.heap.size + 1, 0, none⟩ (.slice vo I.length vc)).setCell ⟨w.heap.size + 1, 1, none⟩ (.slice (some ⟨g, 0, none⟩) 24 c)).cell? ⟨w.heap.size + 1, 0, none⟩ = some (.slice vo I.length vc) := by go_cell
      have e1 : ((w1.setCell ⟨w.heap.size + 1, 0, none⟩ (.slice vo I.length vc)).setCell ⟨w.heap.size + 1, 1, none⟩ (.slice (some ⟨g, 0, none⟩) 24 c)).cell? ⟨w.heap.size + 1, 1, none⟩ = some (.slice (some ⟨g, 0, none⟩) 24 c) := by go_cell
      exact bodyPost_ret (v := .agg #[.slice vo I.length vc, .slice (some ⟨g, 0, none⟩) 24 c]) (by simp [results, Try.results44, go_sem, e0, e1]) rfl ⟨⟨_, rfl, HK.out.later KB, row_later HROW.out KB⟩, Only.later KB⟩

/-! ### spec.CacheFloor -/
set_option maxRecDepth 100000 in
set_option maxHeartbeats 4000000 in
theorem specCFloor_any (v0 v1 : Value) (I F : List KD) (key ver : Int) (w : World) (h0 : RdM 4 3 true w v0 I) (h1 : RdM 1 1 false w v1 F) {D : List KD × List KD} (hD : ansF I F key ver = D) :
    Calls Try.prog 19 #[.agg #[v0, v1], .int .i64 key, .int .i64 ver] w fun e w' => EndR w' D.1 D.2 e ∧ Below w.heap.size w w' := by
  have H0 := hid h0
  have H1 := hid h1
  obtain ⟨ai, ci, rfl, hq0, hq1⟩ := h0
  obtain ⟨af, cf, rfl, hq2, hq3⟩ := h1
  clear hq0 hq1 hq2 hq3
  have hco := fun (W : World) (a : RdM 4 3 true W (.slice ai I.length ci) I) (b : RdM 1 1 false W (.slice af F.length cf) F) => specCOk_any _ _ I F W a b
  go_enter Try.func19, Try.ntmps19
  go_wp2_with fail
  have a0_1 : ((w.alloc (.cells #[.slice ai I.length ci, .slice af F.length cf] 26)).alloc (.cells #[.slice none 0 0, .slice none 0 0] 26)).cell? ⟨w.heap.size, 0, none⟩ = some (.slice ai I.length ci) := by go_cell
  have a1_1 : ((w.alloc (.cells #[.slice ai I.length ci, .slice af F.length cf] 26)).alloc (.cells #[.slice none 0 0, .slice none 0 0] 26)).cell? ⟨w.heap.size, 1, none⟩ = some (.slice af F.length cf) := by go_cell
  have al_1 : w.heap.size < ((w.alloc (.cells #[.slice ai I.length ci, .slice af F.length cf] 26)).alloc (.cells #[.slice none 0 0, .slice none 0 0] 26)).heap.size := by first | (simp; done) | (simp; omega)
  have r0_1 : ((w.alloc (.cells #[.slice ai I.length ci, .slice af F.length cf] 26)).alloc (.cells #[.slice none 0 0, .slice none 0 0] 26)).cell? ⟨w.heap.size + 1, 0, none⟩ = some (.slice none 0 0) := by go_cell
  have rf0_1 : ((w.alloc (.cells #[.slice ai I.length ci, .slice af F.length cf] 26)).alloc (.cells #[.slice none 0 0, .slice none 0 0] 26)).frozen? ⟨w.heap.size + 1, 0, none⟩ = false := by (first | go_cell | (simp [World.frozen?, World.alloc]; done) | rfl)
  have r1_1 : ((w.alloc (.cells #[.slice ai I.length ci, .slice af F.length cf] 26)).alloc (.cells #[.slice none 0 0, .slice none 0 0] 26)).cell? ⟨w.heap.size + 1, 1, none⟩ = some (.slice none 0 0) := by go_cell
  have rf1_1 : ((w.alloc (.cells #[.slice ai I.length ci, .slice af F.length cf] 26)).alloc (.cells #[.slice none 0 0, .slice none 0 0] 26)).frozen? ⟨w.heap.size + 1, 1, none⟩ = false := by (first | go_cell | (simp [World.frozen?, World.alloc]; done) | rfl)
  have rl_1 : w.heap.size + 1 < ((w.alloc (.cells #[.slice ai I.length ci, .slice af F.length cf] 26)).alloc (.cells #[.slice none 0 0, .slice none 0 0] 26)).heap.size := by first | (simp; done) | (simp; omega)
  have c1 : Below w.heap.size w ((w.alloc (.cells #[.slice ai I.length ci, .slice af F.length cf] 26)).alloc (.cells #[.slice none 0 0, .slice none 0 0] 26)) := by go_grown
  have s1 : ((w.alloc (.cells #[.slice ai I.length ci, .slice af F.length cf] 26)).alloc (.cells #[.slice none 0 0, .slice none 0 0] 26)).heap.size = w.heap.size + 2 := by simp
  generalize ((w.alloc (.cells #[.slice ai I.length ci, .slice af F.length cf] 26)).alloc (.cells #[.slice none 0 0, .slice none 0 0] 26)) = w1 at a0_1 a1_1 al_1 r0_1 rf0_1 r1_1 rf1_1 rl_1 c1 s1 ⊢
  have qa0_1 := cell_regrown a0_1
  have qa1_1 := cell_regrown a1_1
  have qr0_1 := cell_regrown r0_1
  have qr1_1 := cell_regrown r1_1
  clear qa0_1 qa1_1 qr0_1 qr1_1
  cases hok : okC I F with
  | false =>
    rw [hok] at hco
    obtain rfl : D = ([], []) := by rw [← hD]; simp [ansF, hok]
    refine (hco _ (H0.out.later c1) (H1.out.later c1)).mono ?_
    rintro e w2 ⟨rfl, b2⟩
    have d2 : Below w1.heap.size w1 w2 := (Below.trans (by go_grown) (b2.mono (by first | omega | (simp; done) | (simp; omega))))
    have c2 : Below w.heap.size w w2 := c1.trans (d2.mono c1.size)
    have r0_2 : w2.cell? ⟨w.heap.size + 1, 0, none⟩ = some (.slice none 0 0) := (by rw [b2.cell (by first | omega | (simp; done) | (simp; omega))]; go_cell)
    have rf0_2 : w2.frozen? ⟨w.heap.size + 1, 0, none⟩ = false := (by rw [b2.frozen (by first | omega | (simp; done) | (simp; omega))]; (first | go_cell | (simp [World.frozen?, World.alloc]; done) | rfl))
    have r1_2 : w2.cell? ⟨w.heap.size + 1, 1, none⟩ = some (.slice none 0 0) := (by rw [b2.cell (by first | omega | (simp; done) | (simp; omega))]; go_cell)
    have rf1_2 : w2.frozen? ⟨w.heap.size + 1, 1, none⟩ = false := (by rw [b2.frozen (by first | omega | (simp; done) | (simp; omega))]; (first | go_cell | (simp [World.frozen?, World.alloc]; done) | rfl))
    have rl_2 : w.heap.size + 1 < w2.heap.size := (by have := b2.size; first | omega | (revert this; simp; done) | (revert this; simp; omega))
    clear r0_1 rf0_1 r1_1 rf1_1 rl_1
    have HC := hid c2
    clear b2 d2 hco hok hD
    go_wp2_with fail
    have KB := (HC.out.setCell (p := ⟨w.heap.size + 1, 0, none⟩) (by show w.heap.size ≤ w.heap.size + 1; omega) (.slice none 0 0)).setCell (p := ⟨w.heap.size + 1, 1, none⟩) (by show w.heap.size ≤ w.heap.size + 1; omega) (.slice none 0 0)
    have e0 : ((w2.setCell ⟨w.heap.size + 1, 0, none⟩ (.slice none 0 0)).setCell ⟨w.heap.size + 1, 1, none⟩ (.slice none 0 0)).cell? ⟨w.heap.size + 1, 0, none⟩ = some (.slice none 0 0) := by go_cell
    have e1 : ((w2.setCell ⟨w.heap.size + 1, 0, none⟩ (.slice none 0 0)).setCell ⟨w.heap.size + 1, 1, none⟩ (.slice none 0 0)).cell? ⟨w.heap.size + 1, 1, none⟩ = some (.slice none 0 0) := by go_cell
    exact bodyPost_ret (v := .agg #[.slice none 0 0, .slice none 0 0]) (by simp [results, Try.results19, go_sem, e0, e1]) rfl ⟨⟨_, _, rfl, RdM.nil _ none 0, RdM.nil _ none 0⟩, KB⟩
  | true =>
    rw [hok] at hco
    have hD' : (if raB F key ver then (dropI key I, putF F key ver) else (I, F)) = D := by rw [← hD]; simp [ansF, hok]
    have HFP : Hid (FloF D.2) := hid (by
      rw [← hD']
      have hfl := floF_of H1.out (okC_iff.1 hok).1
      split
      · rename_i hra
        have hk : 0 ≤ key ∧ key < 24 := by
          have : keyIn key = true := by simp [raB] at hra; exact hra.1
          simpa [keyIn] using this
        exact hfl.set _ _ (by omega)
      · exact hfl)
    have HFL := hid (floF_of H1.out (okC_iff.1 hok).1)
    have HSM := hid (okC_small hok)
    have hl4 : I.length ≤ 1000 := by have := HSM.out.1; omega
    refine (hco _ (H0.out.later c1) (H1.out.later c1)).mono ?_
    rintro e w2 ⟨rfl, b2⟩
    have d2 : Below w1.heap.size w1 w2 := (Below.trans (by go_grown) (b2.mono (by first | omega | (simp; done) | (simp; omega))))
    have c2 : Below w.heap.size w w2 := c1.trans (d2.mono c1.size)
    have a0_2 : w2.cell? ⟨w.heap.size, 0, none⟩ = some (.slice ai I.length ci) := (by rw [b2.cell (by first | omega | (simp; done) | (simp; omega))]; go_cell)
    have a1_2 : w2.cell? ⟨w.heap.size, 1, none⟩ = some (.slice af F.length cf) := (by rw [b2.cell (by first | omega | (simp; done) | (simp; omega))]; go_cell)
    have al_2 : w.heap.size < w2.heap.size := (by have := b2.size; first | omega | (revert this; simp; done) | (revert this; simp; omega))
    have r0_2 : w2.cell? ⟨w.heap.size + 1, 0, none⟩ = some (.slice none 0 0) := (by rw [b2.cell (by first | omega | (simp; done) | (simp; omega))]; go_cell)
    have rf0_2 : w2.frozen? ⟨w.heap.size + 1, 0, none⟩ = false := (by rw [b2.frozen (by first | omega | (simp; done) | (simp; omega))]; (first | go_cell | (simp [World.frozen?, World.alloc]; done) | rfl))
    have r1_2 : w2.cell? ⟨w.heap.size + 1, 1, none⟩ = some (.slice none 0 0) := (by rw [b2.cell (by first | omega | (simp; done) | (simp; omega))]; go_cell)
    have rf1_2 : w2.frozen? ⟨w.heap.size + 1, 1, none⟩ = false := (by rw [b2.frozen (by first | omega | (simp; done) | (simp; omega))]; (first | go_cell | (simp [World.frozen?, World.alloc]; done) | rfl))
    have rl_2 : w.heap.size + 1 < w2.heap.size := (by have := b2.size; first | omega | (revert this; simp; done) | (revert this; simp; omega))
    clear a0_1 a1_1 al_1 r0_1 rf0_1 r1_1 rf1_1 rl_1
    have HC2 := hid c2
    have rl2 : w.heap.size + 1 < w2.heap.size := rl_2
    clear b2 d2 hco hok hD
    go_wp2_with fail
    refine (l5Cache_any _ _ I F _ (H0.out.later HC2.out) (H1.out.later HC2.out) HFL.out HSM.out.1 HSM.out.2).mono ?_
    rintro e w3 ⟨⟨v, g, cg, N, rfl, hg1, hg2, hN, hrow, hrk⟩, b3⟩
    have HROW := hid hrow
    have HRK := hid hrk
    obtain ⟨vo, vc, hv, _⟩ := hrk
    subst hv
    have d3 : Below w2.heap.size w2 w3 := (Below.trans (by go_grown) (b3.mono (by first | omega | (simp; done) | (simp; omega))))
    have c3 : Below w.heap.size w w3 := c2.trans (d3.mono c2.size)
    have r0_3 : w3.cell? ⟨w.heap.size + 1, 0, none⟩ = some (.slice none 0 0) := (by rw [b3.cell (by first | omega | (simp; done) | (simp; omega))]; go_cell)
    have rf0_3 : w3.frozen? ⟨w.heap.size + 1, 0, none⟩ = false := (by rw [b3.frozen (by first | omega | (simp; done) | (simp; omega))]; (first | go_cell | (simp [World.frozen?, World.alloc]; done) | rfl))
    have r1_3 : w3.cell? ⟨w.heap.size + 1, 1, none⟩ = some (.slice none 0 0) := (by rw [b3.cell (by first | omega | (simp; done) | (simp; omega))]; go_cell)
    have rf1_3 : w3.frozen? ⟨w.heap.size + 1, 1, none⟩ = false := (by rw [b3.frozen (by first | omega | (simp; done) | (simp; omega))]; (first | go_cell | (simp [World.frozen?, World.alloc]; done) | rfl))
    have rl_3 : w.heap.size + 1 < w3.heap.size := (by have := b3.size; first | omega | (revert this; simp; done) | (revert this; simp; omega))
    clear r0_2 rf0_2 r1_2 rf1_2 rl_2
    have hgr : w.heap.size + 1 < N := by omega
    clear b3 d3 hrow
    go_wp2_with fail
    refine (l5Floor_any N g cg _ _ I F key ver _ HRK.out hN hg2 HROW.out HFL.out hl4 hD').mono ?_
    rintro e w4 ⟨⟨x, rfl, hx, hrow4⟩, o4⟩
    have HX := hid hx
    have HROW4 := hid hrow4
    obtain ⟨xo, xc, hv, _⟩ := hx
    subst hv
    obtain ⟨I', F'⟩ := D
    simp only at HX HROW4 HFP ⊢
    have hne : ¬ w.heap.size + 1 = g := by omega
    have r0_4 := (World.cell?_of_block (a := ⟨w.heap.size + 1, 0, none⟩) (o4.block (w.heap.size + 1) rl_3 hne)).trans r0_3
    have r1_4 := (World.cell?_of_block (a := ⟨w.heap.size + 1, 1, none⟩) (o4.block (w.heap.size + 1) rl_3 hne)).trans r1_3
    have rf0_4 := (World.frozen?_of_block (a := ⟨w.heap.size + 1, 0, none⟩) (o4.block (w.heap.size + 1) rl_3 hne)).trans rf0_3
    have rf1_4 := (World.frozen?_of_block (a := ⟨w.heap.size + 1, 1, none⟩) (o4.block (w.heap.size + 1) rl_3 hne)).trans rf1_3
    have HC4 := hid (c3.trans (o4.below (B := w.heap.size) (fun q hq => by omega) c3.size))
    clear o4 hrow4 HRK HROW r0_3 r1_3 rf0_3 rf1_3 hD'
    go_wp2_with fail
    have KB := (HC4.out.setCell (p := ⟨w.heap.size + 1, 0, none⟩) (by show w.heap.size ≤ w.heap.size + 1; omega) (.slice xo I'.length xc)).setCell (p := ⟨w.heap.size + 1, 1, none⟩) (by show w.heap.size ≤ w.heap.size + 1; omega) (.slice (some ⟨g, 0, none⟩) 24 cg)
    have KO : Only (fun q => q < N) w4 ((w4.setCell ⟨w.heap.size + 1, 0, none⟩ (.slice xo I'.length xc)).setCell ⟨w.heap.size + 1, 1, none⟩ (.slice (some ⟨g, 0, none⟩) 24 cg)) := (Only.set (F := fun q => q < N) _ (p := ⟨w.heap.size + 1, 0, none⟩) hgr _).trans (Only.set (F := fun q => q < N) _ (p := ⟨w.heap.size + 1, 1, none⟩) hgr _)
    have R9 := (HX.out.only KO).rd
    have F9 := rowF_rd (row_agree HROW4.out (w' := ((w4.setCell ⟨w.heap.size + 1, 0, none⟩ (.slice xo I'.length xc)).setCell ⟨w.heap.size + 1, 1, none⟩ (.slice (some ⟨g, 0, none⟩) 24 cg))) (fun q hq => by cases hq; exact (Below.heap_setCell _ _ _ _ (by show g ≠ w.heap.size + 1; omega)).trans (Below.heap_setCell _ _ _ _ (by show g ≠ w.heap.size + 1; omega)))) HFP.out
    have e0 : ((w4.setCell ⟨w.heap.size + 1, 0, none⟩ (.slice xo I'.length xc)).setCell ⟨w.heap.size + 1, 1, none⟩ (.slice (some ⟨g, 0, none⟩) 24 cg)).cell? ⟨w.heap.size + 1, 0, none⟩ = some (.slice xo I'.length xc) := by go_cell
    have e1 : ((w4.setCell ⟨w.heap.size + 1, 0, none⟩ (.slice xo I'.length xc)).setCell ⟨w.heap.size + 1, 1, none⟩ (.slice (some ⟨g, 0, none⟩) 24 cg)).cell? ⟨w.heap.size + 1, 1, none⟩ = some (.slice (some ⟨g, 0, none⟩) 24 cg) := by go_cell
    exact bodyPost_ret (v := .agg #[.slice xo I'.length xc, .slice (some ⟨g, 0, none⟩) 24 cg]) (by simp [results, Try.results19, go_sem, e0, e1]) rfl ⟨⟨_, _, rfl, R9, F9⟩, KB⟩
end Go.Proofs.Ytiebfechhgapiaa
