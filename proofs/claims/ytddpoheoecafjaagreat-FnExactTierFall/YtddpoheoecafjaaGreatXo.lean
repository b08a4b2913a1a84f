/- spec.l5Copy, spec.l5Get, spec.CacheGet: contracts. -/
import Derived.Test.YtddpoheoecafjaaGreatXn
import Derived.Test.YtddpoheoecafjaaGreatGrE
import Derived.Test.YtddpoheoecafjaaGreatCd
namespace Go.Proofs.YtddpoheoecafjaaGreat
open Go.RowKit
attribute [local go_sem ↓] Go.wp_at_zero Go.wp_at_succ

set_option maxRecDepth 100000 in
set_option maxHeartbeats 2000000 in
theorem l5Copy_any (p0 p1 p2 : Int) (v : Value) (l : List (Int × Int)) (w : World) (h : Rd w v l) (hl : l.length ≤ 1099511627776) :
    Calls Tryz.prog 88 #[.agg #[.int .i64 p0, .int .i64 p1, .int .i64 p2, v]] w fun e w' => (∃ (o : Option Addr) (c : Nat), e = .returned (.agg #[.int .i64 p0, .int .i64 p1, .int .i64 p2, .slice o l.length c]) ∧ Own w' w.heap.size (.slice o l.length c) l) ∧ Below w.heap.size w w' := by
  have HR := hid h
  obtain ⟨ao, cap, rfl, _, _⟩ := h
  go_enter Tryz.func88, Tryz.ntmps88
  go_wp2_with fail
  generalize hW1 : ((w.alloc (.cells #[.int .i64 p0, .int .i64 p1, .int .i64 p2, .slice ao l.length cap] 84)).alloc (.cells #[.int .i64 0, .int .i64 0, .int .i64 0, .slice none 0 0] 84)) = w1
  have a0_1 : w1.cell? ⟨w.heap.size, 0, none⟩ = some (.int .i64 p0) := by subst hW1; go_cell
  have a1_1 : w1.cell? ⟨w.heap.size, 1, none⟩ = some (.int .i64 p1) := by subst hW1; go_cell
  have a2_1 : w1.cell? ⟨w.heap.size, 2, none⟩ = some (.int .i64 p2) := by subst hW1; go_cell
  have a3_1 : w1.cell? ⟨w.heap.size, 3, none⟩ = some (.slice ao l.length cap) := by subst hW1; go_cell
  have al_1 : w.heap.size < w1.heap.size := by subst hW1; first | (simp; done) | (simp; omega)
  have r0_1 : w1.cell? ⟨w.heap.size + 1, 0, none⟩ = some (.int .i64 0) := by subst hW1; go_cell
  have rf0_1 : w1.frozen? ⟨w.heap.size + 1, 0, none⟩ = false := by subst hW1; (first | go_cell | (simp [World.frozen?, World.alloc]; done) | rfl)
  have r1_1 : w1.cell? ⟨w.heap.size + 1, 1, none⟩ = some (.int .i64 0) := by subst hW1; go_cell
  have rf1_1 : w1.frozen? ⟨w.heap.size + 1, 1, none⟩ = false := by subst hW1; (first | go_cell | (simp [World.frozen?, World.alloc]; done) | rfl)
  have r2_1 : w1.cell? ⟨w.heap.size + 1, 2, none⟩ = some (.int .i64 0) := by subst hW1; go_cell
  have rf2_1 : w1.frozen? ⟨w.heap.size + 1, 2, none⟩ = false := by subst hW1; (first | go_cell | (simp [World.frozen?, World.alloc]; done) | rfl)
  have r3_1 : w1.cell? ⟨w.heap.size + 1, 3, none⟩ = some (.slice none 0 0) := by subst hW1; go_cell
  have rf3_1 : w1.frozen? ⟨w.heap.size + 1, 3, none⟩ = false := by subst hW1; (first | go_cell | (simp [World.frozen?, World.alloc]; done) | rfl)
  have rl_1 : w.heap.size + 1 < w1.heap.size := by subst hW1; first | (simp; done) | (simp; omega)
  have c1 : Below w.heap.size w w1 := by subst hW1; go_grown
  have s1 : w1.heap.size = w.heap.size + 2 := by subst hW1; simp
  clear hW1
  have qa0_1 := cell_regrown a0_1
  have qa1_1 := cell_regrown a1_1
  have qa2_1 := cell_regrown a2_1
  have qa3_1 := cell_regrown a3_1
  have qr0_1 := cell_regrown r0_1
  have qr1_1 := cell_regrown r1_1
  have qr2_1 := cell_regrown r2_1
  have qr3_1 := cell_regrown r3_1
  have HR1 := hid (HR.out.later c1)
  clear qa0_1 qa1_1 qa2_1 qa3_1 qr0_1 qr1_1 qr2_1 qr3_1
  go_region_held3 (fun w' => w'.cell? ⟨w.heap.size, 0, none⟩ = some (.int .i64 p0) ∧ w'.cell? ⟨w.heap.size, 1, none⟩ = some (.int .i64 p1) ∧ w'.cell? ⟨w.heap.size, 2, none⟩ = some (.int .i64 p2) ∧ w'.cell? ⟨w.heap.size, 3, none⟩ = some (.slice ao l.length cap)) (go_keep) (first | (go_at_call 109; refine (l2Copy_any p2 _ l _ (HR1.out.later (by go_grown)) hl).mono ?_; rintro e w2 ⟨v', rfl, ho, b2⟩; have d2 : Below w1.heap.size w1 w2 := (Below.trans (by go_grown) (b2.mono (by first | omega | (simp; done) | (simp; omega)))); have j0 := (d2.cell (p := ⟨w.heap.size, 0, none⟩) al_1).trans a0_1; have j1 := (d2.cell (p := ⟨w.heap.size, 1, none⟩) al_1).trans a1_1; have j2 := (d2.cell (p := ⟨w.heap.size, 2, none⟩) al_1).trans a2_1; have j3 := (d2.cell (p := ⟨w.heap.size, 3, none⟩) al_1).trans a3_1; have HO := hid (Own.mono ho (B' := w1.heap.size) (by show w1.heap.size ≤ w1.heap.size; omega)); clear ho; have r0_2 : w2.cell? ⟨w.heap.size + 1, 0, none⟩ = some (.int .i64 0) := (by rw [b2.cell (by first | omega | (simp; done) | (simp; omega))]; go_cell); have rf0_2 : w2.frozen? ⟨w.heap.size + 1, 0, none⟩ = false := (by rw [b2.frozen (by first | omega | (simp; done) | (simp; omega))]; (first | go_cell | (simp [World.frozen?, World.alloc]; done) | rfl)); have r1_2 : w2.cell? ⟨w.heap.size + 1, 1, none⟩ = some (.int .i64 0) := (by rw [b2.cell (by first | omega | (simp; done) | (simp; omega))]; go_cell); have rf1_2 : w2.frozen? ⟨w.heap.size + 1, 1, none⟩ = false := (by rw [b2.frozen (by first | omega | (simp; done) | (simp; omega))]; (first | go_cell | (simp [World.frozen?, World.alloc]; done) | rfl)); have r2_2 : w2.cell? ⟨w.heap.size + 1, 2, none⟩ = some (.int .i64 0) := (by rw [b2.cell (by first | omega | (simp; done) | (simp; omega))]; go_cell); have rf2_2 : w2.frozen? ⟨w.heap.size + 1, 2, none⟩ = false := (by rw [b2.frozen (by first | omega | (simp; done) | (simp; omega))]; (first | go_cell | (simp [World.frozen?, World.alloc]; done) | rfl)); have r3_2 : w2.cell? ⟨w.heap.size + 1, 3, none⟩ = some (.slice none 0 0) := (by rw [b2.cell (by first | omega | (simp; done) | (simp; omega))]; go_cell); have rf3_2 : w2.frozen? ⟨w.heap.size + 1, 3, none⟩ = false := (by rw [b2.frozen (by first | omega | (simp; done) | (simp; omega))]; (first | go_cell | (simp [World.frozen?, World.alloc]; done) | rfl)); have rl_2 : w.heap.size + 1 < w2.heap.size := (by have := b2.size; first | omega | (revert this; simp; done) | (revert this; simp; omega)); obtain ⟨uo, uc, huv, _⟩ := HO.out.rd; subst huv))
  all_goals
    have C2 := hid (c1.trans (d2.mono c1.size))
    clear d2 b2 c1
    go_wp2_with fail
    have e0 : ((((w2.setCell ⟨w.heap.size + 1, 0, none⟩ (.int .i64 p0)).setCell ⟨w.heap.size + 1, 1, none⟩ (.int .i64 p1)).setCell ⟨w.heap.size + 1, 2, none⟩ (.int .i64 p2)).setCell ⟨w.heap.size + 1, 3, none⟩ (.slice uo l.length uc)).cell? ⟨w.heap.size + 1, 0, none⟩ = some (.int .i64 p0) := by go_cell
    have e1 : ((((w2.setCell ⟨w.heap.size + 1, 0, none⟩ (.int .i64 p0)).setCell ⟨w.heap.size + 1, 1, none⟩ (.int .i64 p1)).setCell ⟨w.heap.size + 1, 2, none⟩ (.int .i64 p2)).setCell ⟨w.heap.size + 1, 3, none⟩ (.slice uo l.length uc)).cell? ⟨w.heap.size + 1, 1, none⟩ = some (.int .i64 p1) := by go_cell
    have e2 : ((((w2.setCell ⟨w.heap.size + 1, 0, none⟩ (.int .i64 p0)).setCell ⟨w.heap.size + 1, 1, none⟩ (.int .i64 p1)).setCell ⟨w.heap.size + 1, 2, none⟩ (.int .i64 p2)).setCell ⟨w.heap.size + 1, 3, none⟩ (.slice uo l.length uc)).cell? ⟨w.heap.size + 1, 2, none⟩ = some (.int .i64 p2) := by go_cell
    have e3 : ((((w2.setCell ⟨w.heap.size + 1, 0, none⟩ (.int .i64 p0)).setCell ⟨w.heap.size + 1, 1, none⟩ (.int .i64 p1)).setCell ⟨w.heap.size + 1, 2, none⟩ (.int .i64 p2)).setCell ⟨w.heap.size + 1, 3, none⟩ (.slice uo l.length uc)).cell? ⟨w.heap.size + 1, 3, none⟩ = some (.slice uo l.length uc) := by go_cell
    have HF := hid (Own.mono ((((HO.out.apartSet (p := ⟨w.heap.size + 1, 0, none⟩) (by show w.heap.size + 1 < w1.heap.size; omega) (.int .i64 p0)).apartSet (p := ⟨w.heap.size + 1, 1, none⟩) (by show w.heap.size + 1 < w1.heap.size; omega) (.int .i64 p1)).apartSet (p := ⟨w.heap.size + 1, 2, none⟩) (by show w.heap.size + 1 < w1.heap.size; omega) (.int .i64 p2)).apartSet (p := ⟨w.heap.size + 1, 3, none⟩) (by show w.heap.size + 1 < w1.heap.size; omega) (.slice uo l.length uc)) (B' := w.heap.size) (by omega))
    have HB := hid ((((C2.out.setCell (p := ⟨w.heap.size + 1, 0, none⟩) (by show w.heap.size ≤ w.heap.size + 1; omega) (.int .i64 p0)).setCell (p := ⟨w.heap.size + 1, 1, none⟩) (by show w.heap.size ≤ w.heap.size + 1; omega) (.int .i64 p1)).setCell (p := ⟨w.heap.size + 1, 2, none⟩) (by show w.heap.size ≤ w.heap.size + 1; omega) (.int .i64 p2)).setCell (p := ⟨w.heap.size + 1, 3, none⟩) (by show w.heap.size ≤ w.heap.size + 1; omega) (.slice uo l.length uc))
    exact bodyPost_ret (v := .agg #[.int .i64 p0, .int .i64 p1, .int .i64 p2, .slice uo l.length uc]) (by simp [results, Tryz.results88, go_sem, e0, e1, e2, e3]) rfl ⟨⟨uo, uc, rfl, HF.out⟩, HB.out⟩
/-- What a getter answers of an item, if there is one. -/
def EndG (w w' : World) (o : Option KD) (e : Ending) : Prop := ∃ (a : Option Addr) (c : Nat), e = .returned (.tuple #[.agg #[.int .i64 (gk o), .int .i64 (gv o), .int .i64 (gn o), .slice a (gl o).length c], .bool (gb o)]) ∧ Own w' w.heap.size (.slice a (gl o).length c) (gl o)
/-- None of the first k items is of that key. -/
def NoneK (I : List KD) (key : Int) (k : Nat) : Prop := ∀ j, j < k → keyK (I.getD j kd0) ≠ key
theorem find_none {I : List KD} {key : Int} (h : NoneK I key I.length) : I.find? (fun x => keyK x == key) = none := by
  rw [List.find?_eq_none]
  intro x hx
  obtain ⟨i, hi, rfl⟩ := List.getElem_of_mem hx
  have := h i hi
  rw [getD_at hi] at this
  simpa using this
theorem find_some {I : List KD} {key : Int} {k : Nat} (hk : k < I.length) (h : NoneK I key k) (he : keyK (I.getD k kd0) = key) : I.find? (fun x => keyK x == key) = some (I.getD k kd0) := by
  rw [getD_at hk] at he ⊢
  refine List.find?_eq_some_iff_getElem.2 ⟨by simpa using he, k, hk, rfl, fun j hj => ?_⟩
  have := h j hj
  rw [getD_at (by omega)] at this
  simpa using this
set_option maxRecDepth 100000 in
set_option maxHeartbeats 4000000 in
theorem l5Get_any (v0 v1 : Value) (I F : List KD) (key : Int) (w : World) (h0 : RdM 4 3 true w v0 I) (h1 : RdM 1 1 false w v1 F) (hl : ∀ i, i < I.length → (I.getD i kd0).2.length ≤ 1099511627776) :
    Calls Tryz.prog 89 #[.agg #[v0, v1], .int .i64 key] w fun e w' => EndG w w' (I.find? (fun x => keyK x == key)) e ∧ Below w.heap.size w w' := by
  have H0 := hid h0
  obtain ⟨ai, ci, rfl, hli, hci⟩ := h0
  obtain ⟨af, cf, rfl, hq2, hq3⟩ := h1
  have HC := hid hci
  have HL := hid hl
  clear hq2 hq3 hci hl
  unfold maxLen at hli
  go_enter Tryz.func89, Tryz.ntmps89
  go_wp2_with fail
  generalize hW1 : ((w.alloc (.cells #[.slice ai I.length ci, .slice af F.length cf] 36)).alloc (.cells #[.int .i64 0, .int .i64 0, .int .i64 0, .slice none 0 0] 84)) = w1
  have a0_1 : w1.cell? ⟨w.heap.size, 0, none⟩ = some (.slice ai I.length ci) := by subst hW1; go_cell
  have a1_1 : w1.cell? ⟨w.heap.size, 1, none⟩ = some (.slice af F.length cf) := by subst hW1; go_cell
  have al_1 : w.heap.size < w1.heap.size := by subst hW1; first | (simp; done) | (simp; omega)
  have r0_1 : w1.cell? ⟨w.heap.size + 1, 0, none⟩ = some (.int .i64 0) := by subst hW1; go_cell
  have rf0_1 : w1.frozen? ⟨w.heap.size + 1, 0, none⟩ = false := by subst hW1; (first | go_cell | (simp [World.frozen?, World.alloc]; done) | rfl)
  have r1_1 : w1.cell? ⟨w.heap.size + 1, 1, none⟩ = some (.int .i64 0) := by subst hW1; go_cell
  have rf1_1 : w1.frozen? ⟨w.heap.size + 1, 1, none⟩ = false := by subst hW1; (first | go_cell | (simp [World.frozen?, World.alloc]; done) | rfl)
  have r2_1 : w1.cell? ⟨w.heap.size + 1, 2, none⟩ = some (.int .i64 0) := by subst hW1; go_cell
  have rf2_1 : w1.frozen? ⟨w.heap.size + 1, 2, none⟩ = false := by subst hW1; (first | go_cell | (simp [World.frozen?, World.alloc]; done) | rfl)
  have r3_1 : w1.cell? ⟨w.heap.size + 1, 3, none⟩ = some (.slice none 0 0) := by subst hW1; go_cell
  have rf3_1 : w1.frozen? ⟨w.heap.size + 1, 3, none⟩ = false := by subst hW1; (first | go_cell | (simp [World.frozen?, World.alloc]; done) | rfl)
  have rl_1 : w.heap.size + 1 < w1.heap.size := by subst hW1; first | (simp; done) | (simp; omega)
  have c1 : Below w.heap.size w w1 := by subst hW1; go_grown
  have s1 : w1.heap.size = w.heap.size + 2 := by subst hW1; simp
  clear hW1
  have qa0_1 := cell_regrown a0_1
  have qa1_1 := cell_regrown a1_1
  have qr0_1 := cell_regrown r0_1
  have qr1_1 := cell_regrown r1_1
  have qr2_1 := cell_regrown r2_1
  have qr3_1 := cell_regrown r3_1
  clear qa0_1 qa1_1 qr0_1 qr1_1 qr2_1 qr3_1
  go_loopw [6] (fun i wr => ∃ k : Nat, k ≤ I.length ∧ i = .int .i64 k ∧ Hid (NoneK I key k) ∧ Below w1.heap.size w1 wr) (fun i _ => I.length - (intOf i).toNat)
  case atStart => exact ⟨0, Nat.zero_le _, rfl, hid (fun j hj => absurd hj (Nat.not_lt_zero j)), Below.refl _ _⟩
  case round =>
    obtain ⟨k, hk, rfl, hpre, hbel1⟩ := hrel
    have hbel := c1.trans (hbel1.mono c1.size)
    have x0 := (hbel1.cell (p := ⟨w.heap.size, 0, none⟩) al_1).trans a0_1
    have r0_2 := (hbel1.cell (p := ⟨w.heap.size + 1, 0, none⟩) rl_1).trans r0_1
    have rf0_2 := (hbel1.frozen (p := ⟨w.heap.size + 1, 0, none⟩) rl_1).trans rf0_1
    have r1_2 := (hbel1.cell (p := ⟨w.heap.size + 1, 1, none⟩) rl_1).trans r1_1
    have rf1_2 := (hbel1.frozen (p := ⟨w.heap.size + 1, 1, none⟩) rl_1).trans rf1_1
    have r2_2 := (hbel1.cell (p := ⟨w.heap.size + 1, 2, none⟩) rl_1).trans r2_1
    have rf2_2 := (hbel1.frozen (p := ⟨w.heap.size + 1, 2, none⟩) rl_1).trans rf2_1
    have r3_2 := (hbel1.cell (p := ⟨w.heap.size + 1, 3, none⟩) rl_1).trans r3_1
    have rf3_2 := (hbel1.frozen (p := ⟨w.heap.size + 1, 3, none⟩) rl_1).trans rf3_1
    have hsz1 := hbel1.size
    by_cases hlt : k < I.length
    · have hki : (k : Int) < (I.length : Int) := by omega
      obtain ⟨b, o, rfl, hb, hcc⟩ := HC.out (by omega)
      obtain ⟨p0, p1, p2, lx, ux, hx, e0, e1, e2, e3, hux⟩ := atK_3k ((hcc k hlt).later hb hbel)
      have HX := hid hx
      have HU := hid hux
      obtain ⟨uo, uc, rfl, _, _⟩ := hux
      clear hcc hx
      by_cases hkk : p0 = key
      · subst hkk
        have HF := hid (find_some hlt hpre.out (by rw [HX.out]; rfl))
        rw [HX.out] at HF
        have HLX : Hid (lx.length ≤ 1099511627776) := hid (by have := HL.out k hlt; rw [HX.out] at this; exact this)
        go_wp2_with fail
        refine (l5Copy_any _ _ _ _ lx _ HU.out HLX.out).mono ?_
        rintro e w5 ⟨⟨a, c, rfl, ho5⟩, b5⟩
        have r0_5 := (b5.cell (p := ⟨w.heap.size + 1, 0, none⟩) (by show w.heap.size + 1 < wr.heap.size; omega)).trans r0_2
        have rf0_5 := (b5.frozen (p := ⟨w.heap.size + 1, 0, none⟩) (by show w.heap.size + 1 < wr.heap.size; omega)).trans rf0_2
        have r1_5 := (b5.cell (p := ⟨w.heap.size + 1, 1, none⟩) (by show w.heap.size + 1 < wr.heap.size; omega)).trans r1_2
        have rf1_5 := (b5.frozen (p := ⟨w.heap.size + 1, 1, none⟩) (by show w.heap.size + 1 < wr.heap.size; omega)).trans rf1_2
        have r2_5 := (b5.cell (p := ⟨w.heap.size + 1, 2, none⟩) (by show w.heap.size + 1 < wr.heap.size; omega)).trans r2_2
        have rf2_5 := (b5.frozen (p := ⟨w.heap.size + 1, 2, none⟩) (by show w.heap.size + 1 < wr.heap.size; omega)).trans rf2_2
        have r3_5 := (b5.cell (p := ⟨w.heap.size + 1, 3, none⟩) (by show w.heap.size + 1 < wr.heap.size; omega)).trans r3_2
        have rf3_5 := (b5.frozen (p := ⟨w.heap.size + 1, 3, none⟩) (by show w.heap.size + 1 < wr.heap.size; omega)).trans rf3_2
        have HO5 := hid ho5
        have C5 := hid (hbel.trans (b5.mono hbel.size))
        clear b5 ho5 e0 e1 e2 e3
        go_wp2_with fail
        have e0 : ((((w5.setCell ⟨w.heap.size + 1, 0, none⟩ (.int .i64 p0)).setCell ⟨w.heap.size + 1, 1, none⟩ (.int .i64 p1)).setCell ⟨w.heap.size + 1, 2, none⟩ (.int .i64 p2)).setCell ⟨w.heap.size + 1, 3, none⟩ (.slice a lx.length c)).cell? ⟨w.heap.size + 1, 0, none⟩ = some (.int .i64 p0) := by go_cell
        have e1 : ((((w5.setCell ⟨w.heap.size + 1, 0, none⟩ (.int .i64 p0)).setCell ⟨w.heap.size + 1, 1, none⟩ (.int .i64 p1)).setCell ⟨w.heap.size + 1, 2, none⟩ (.int .i64 p2)).setCell ⟨w.heap.size + 1, 3, none⟩ (.slice a lx.length c)).cell? ⟨w.heap.size + 1, 1, none⟩ = some (.int .i64 p1) := by go_cell
        have e2 : ((((w5.setCell ⟨w.heap.size + 1, 0, none⟩ (.int .i64 p0)).setCell ⟨w.heap.size + 1, 1, none⟩ (.int .i64 p1)).setCell ⟨w.heap.size + 1, 2, none⟩ (.int .i64 p2)).setCell ⟨w.heap.size + 1, 3, none⟩ (.slice a lx.length c)).cell? ⟨w.heap.size + 1, 2, none⟩ = some (.int .i64 p2) := by go_cell
        have e3 : ((((w5.setCell ⟨w.heap.size + 1, 0, none⟩ (.int .i64 p0)).setCell ⟨w.heap.size + 1, 1, none⟩ (.int .i64 p1)).setCell ⟨w.heap.size + 1, 2, none⟩ (.int .i64 p2)).setCell ⟨w.heap.size + 1, 3, none⟩ (.slice a lx.length c)).cell? ⟨w.heap.size + 1, 3, none⟩ = some (.slice a lx.length c) := by go_cell
        have HFO := hid (Own.mono ((((HO5.out.apartSet (p := ⟨w.heap.size + 1, 0, none⟩) (by show w.heap.size + 1 < wr.heap.size; omega) (.int .i64 p0)).apartSet (p := ⟨w.heap.size + 1, 1, none⟩) (by show w.heap.size + 1 < wr.heap.size; omega) (.int .i64 p1)).apartSet (p := ⟨w.heap.size + 1, 2, none⟩) (by show w.heap.size + 1 < wr.heap.size; omega) (.int .i64 p2)).apartSet (p := ⟨w.heap.size + 1, 3, none⟩) (by show w.heap.size + 1 < wr.heap.size; omega) (.slice a lx.length c)) (B' := w.heap.size) (by omega))
        have HB := hid ((((C5.out.setCell (p := ⟨w.heap.size + 1, 0, none⟩) (by show w.heap.size ≤ w.heap.size + 1; omega) (.int .i64 p0)).setCell (p := ⟨w.heap.size + 1, 1, none⟩) (by show w.heap.size ≤ w.heap.size + 1; omega) (.int .i64 p1)).setCell (p := ⟨w.heap.size + 1, 2, none⟩) (by show w.heap.size ≤ w.heap.size + 1; omega) (.int .i64 p2)).setCell (p := ⟨w.heap.size + 1, 3, none⟩) (by show w.heap.size ≤ w.heap.size + 1; omega) (.slice a lx.length c))
        refine bodyPost_ret (v := .tuple #[.agg #[.int .i64 p0, .int .i64 p1, .int .i64 p2, .slice a lx.length c], .bool true]) ?_ rfl ⟨by rw [HF.out]; exact ⟨a, c, rfl, HFO.out⟩, HB.out⟩
        simp [results, Tryz.results89, go_sem, e0, e1, e2, e3]
      · have hne : (p0 == key) = false := by simpa using hkk
        have HN : Hid (NoneK I key (k + 1)) := hid (fun j hj => by
          by_cases e : j = k
          · rw [e, HX.out]; exact hkk
          · exact hpre.out j (by omega))
        go_wp2_with fail
        go_roundw
        case rel => exact ⟨k + 1, by omega, by go_num, HN, hbel1⟩
        case measure => simp [intOf]; omega
    · have hki : ¬ (k : Int) < (I.length : Int) := by omega
      have hkn : k = I.length := by omega
      subst hkn
      have HF := hid (find_none hpre.out)
      have HBEL := hid hbel
      go_wp2_with fail
      have e0 : ((((wr.setCell ⟨w.heap.size + 1, 0, none⟩ (.int .i64 0)).setCell ⟨w.heap.size + 1, 1, none⟩ (.int .i64 0)).setCell ⟨w.heap.size + 1, 2, none⟩ (.int .i64 0)).setCell ⟨w.heap.size + 1, 3, none⟩ (.slice none 0 0)).cell? ⟨w.heap.size + 1, 0, none⟩ = some (.int .i64 0) := by go_cell
      have e1 : ((((wr.setCell ⟨w.heap.size + 1, 0, none⟩ (.int .i64 0)).setCell ⟨w.heap.size + 1, 1, none⟩ (.int .i64 0)).setCell ⟨w.heap.size + 1, 2, none⟩ (.int .i64 0)).setCell ⟨w.heap.size + 1, 3, none⟩ (.slice none 0 0)).cell? ⟨w.heap.size + 1, 1, none⟩ = some (.int .i64 0) := by go_cell
      have e2 : ((((wr.setCell ⟨w.heap.size + 1, 0, none⟩ (.int .i64 0)).setCell ⟨w.heap.size + 1, 1, none⟩ (.int .i64 0)).setCell ⟨w.heap.size + 1, 2, none⟩ (.int .i64 0)).setCell ⟨w.heap.size + 1, 3, none⟩ (.slice none 0 0)).cell? ⟨w.heap.size + 1, 2, none⟩ = some (.int .i64 0) := by go_cell
      have e3 : ((((wr.setCell ⟨w.heap.size + 1, 0, none⟩ (.int .i64 0)).setCell ⟨w.heap.size + 1, 1, none⟩ (.int .i64 0)).setCell ⟨w.heap.size + 1, 2, none⟩ (.int .i64 0)).setCell ⟨w.heap.size + 1, 3, none⟩ (.slice none 0 0)).cell? ⟨w.heap.size + 1, 3, none⟩ = some (.slice none 0 0) := by go_cell
      refine bodyPost_ret (v := .tuple #[.agg #[.int .i64 0, .int .i64 0, .int .i64 0, .slice none 0 0], .bool false]) ?_ rfl ⟨by rw [HF.out]; exact ⟨none, 0, rfl, World.ownsRow_nil _ _ _ _⟩, ((((HBEL.out.setCell (p := ⟨w.heap.size + 1, 0, none⟩) (by show w.heap.size ≤ w.heap.size + 1; omega) (.int .i64 0)).setCell (p := ⟨w.heap.size + 1, 1, none⟩) (by show w.heap.size ≤ w.heap.size + 1; omega) (.int .i64 0)).setCell (p := ⟨w.heap.size + 1, 2, none⟩) (by show w.heap.size ≤ w.heap.size + 1; omega) (.int .i64 0)).setCell (p := ⟨w.heap.size + 1, 3, none⟩) (by show w.heap.size ≤ w.heap.size + 1; omega) (.slice none 0 0))⟩
      simp [results, Tryz.results89, go_sem, e0, e1, e2, e3]
end Go.Proofs.YtddpoheoecafjaaGreat
