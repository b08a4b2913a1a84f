/- spec.CachePut: contract. Written by a program (gspr.py). -/
import Derived.Test.YtilbaiohcfhcaaaXx
import Derived.Deep.Cut
namespace Go.Proofs.Ytilbaiohcfhcaaa
open Go.RowKit
attribute [local go_sem ↓] Go.wp_at_zero Go.wp_at_succ

/-- A cache that reads so whatever becomes of the blocks below B. -/
def Apart (B : Nat) (w : World) (v0 v1 : Value) (I F : List KD) : Prop := ∀ w2, Only (fun q => q < B) w w2 → RSCache w2 v0 v1 I F
theorem Apart.self {B : Nat} {w : World} {v0 v1 : Value} {I F : List KD} (h : Apart B w v0 v1 I F) : RSCache w v0 v1 I F := h w (Only.refl _ _)
def EndP (B : Nat) (w' : World) (I F : List KD) (b : Bool) (e : Ending) : Prop := ∃ v0 v1, e = .returned (.tuple #[.agg #[v0, v1], .bool b]) ∧ Apart B w' v0 v1 I F
set_option maxRecDepth 100000 in
set_option maxHeartbeats 8000000 in
theorem specCPut_any (v0 v1 : Value) (I F : List KD) (k v n : Int) (u : Value) (l : List (Int × Int)) (w : World) (h0 : RdM 4 3 true w v0 I) (h1 : RdM 1 1 false w v1 F) (hu : Rd w u l) {D : (List KD × List KD) × Bool} (hD : ansP I F k v n l = D) :
    Calls Try.prog 6 #[.agg #[v0, v1], .agg #[.int .i64 k, .int .i64 v, .int .i64 n, u]] w fun e w' => EndP w.heap.size w' D.1.1 D.1.2 D.2 e ∧ Below w.heap.size w w' := by
  have H0 := hid h0
  have H1 := hid h1
  have HU := hid hu
  have HUL := hid (hu.own_lt)
  obtain ⟨ai, ci, rfl, hq0, hq1⟩ := h0
  obtain ⟨af, cf, rfl, hq2, hq3⟩ := h1
  obtain ⟨uo, uc, rfl, _⟩ := hu
  clear hq0 hq1 hq2 hq3
  have hco := fun (W : World) (a : RdM 4 3 true W (.slice ai I.length ci) I) (b : RdM 1 1 false W (.slice af F.length cf) F) => specCOk_any _ _ I F W a b
  go_enter Try.func6, Try.ntmps6
  go_wp2_with fail
  generalize hW1 : (((w.alloc (.cells #[.slice ai I.length ci, .slice af F.length cf] 26)).alloc (.cells #[.int .i64 k, .int .i64 v, .int .i64 n, .slice uo l.length uc] 31)).alloc (.cells #[.slice none 0 0, .slice none 0 0] 26)) = w1
  have a0_1 : w1.cell? ⟨w.heap.size, 0, none⟩ = some (.slice ai I.length ci) := by subst hW1; go_cell
  have a1_1 : w1.cell? ⟨w.heap.size, 1, none⟩ = some (.slice af F.length cf) := by subst hW1; go_cell
  have al_1 : w.heap.size < w1.heap.size := by subst hW1; first | (simp; done) | (simp; omega)
  have b0_1 : w1.cell? ⟨w.heap.size + 1, 0, none⟩ = some (.int .i64 k) := by subst hW1; go_cell
  have b1_1 : w1.cell? ⟨w.heap.size + 1, 1, none⟩ = some (.int .i64 v) := by subst hW1; go_cell
  have b2_1 : w1.cell? ⟨w.heap.size + 1, 2, none⟩ = some (.int .i64 n) := by subst hW1; go_cell
  have b3_1 : w1.cell? ⟨w.heap.size + 1, 3, none⟩ = some (.slice uo l.length uc) := by subst hW1; go_cell
  have bl_1 : w.heap.size + 1 < w1.heap.size := by subst hW1; first | (simp; done) | (simp; omega)
  have r0_1 : w1.cell? ⟨w.heap.size + 1 + 1, 0, none⟩ = some (.slice none 0 0) := by subst hW1; go_cell
  have rf0_1 : w1.frozen? ⟨w.heap.size + 1 + 1, 0, none⟩ = false := by subst hW1; (first | go_cell | (simp [World.frozen?, World.alloc]; done) | rfl)
  have r1_1 : w1.cell? ⟨w.heap.size + 1 + 1, 1, none⟩ = some (.slice none 0 0) := by subst hW1; go_cell
  have rf1_1 : w1.frozen? ⟨w.heap.size + 1 + 1, 1, none⟩ = false := by subst hW1; (first | go_cell | (simp [World.frozen?, World.alloc]; done) | rfl)
  have rl_1 : w.heap.size + 1 + 1 < w1.heap.size := by subst hW1; first | (simp; done) | (simp; omega)
  have c1 : Below w.heap.size w w1 := by subst hW1; go_grown
  have s1 : w1.heap.size = w.heap.size + 3 := by subst hW1; simp
  clear hW1
  have qa0_1 := cell_regrown a0_1
  have qa1_1 := cell_regrown a1_1
  have qb0_1 := cell_regrown b0_1
  have qb1_1 := cell_regrown b1_1
  have qb2_1 := cell_regrown b2_1
  have qb3_1 := cell_regrown b3_1
  have qr0_1 := cell_regrown r0_1
  have qr1_1 := cell_regrown r1_1
  clear qa0_1 qa1_1 qb0_1 qb1_1 qb2_1 qb3_1 qr0_1 qr1_1
  cases hok : okC I F with
  | false =>
    rw [hok] at hco
    obtain rfl : D = (([], []), false) := by rw [← hD]; simp [ansP, hok]
    refine (hco _ (H0.out.later c1) (H1.out.later c1)).mono ?_
    rintro e w2 ⟨rfl, b2⟩
    have d2 : Below w1.heap.size w1 w2 := (Below.trans (by go_grown) (b2.mono (by first | omega | (simp; done) | (simp; omega))))
    have c2 : Below w.heap.size w w2 := c1.trans (d2.mono c1.size)
    have r0_2 : w2.cell? ⟨w.heap.size + 1 + 1, 0, none⟩ = some (.slice none 0 0) := (by rw [b2.cell (by first | omega | (simp; done) | (simp; omega))]; go_cell)
    have rf0_2 : w2.frozen? ⟨w.heap.size + 1 + 1, 0, none⟩ = false := (by rw [b2.frozen (by first | omega | (simp; done) | (simp; omega))]; (first | go_cell | (simp [World.frozen?, World.alloc]; done) | rfl))
    have r1_2 : w2.cell? ⟨w.heap.size + 1 + 1, 1, none⟩ = some (.slice none 0 0) := (by rw [b2.cell (by first | omega | (simp; done) | (simp; omega))]; go_cell)
    have rf1_2 : w2.frozen? ⟨w.heap.size + 1 + 1, 1, none⟩ = false := (by rw [b2.frozen (by first | omega | (simp; done) | (simp; omega))]; (first | go_cell | (simp [World.frozen?, World.alloc]; done) | rfl))
    have rl_2 : w.heap.size + 1 + 1 < w2.heap.size := (by have := b2.size; first | omega | (revert this; simp; done) | (revert this; simp; omega))
    clear r0_1 rf0_1 r1_1 rf1_1 rl_1
    have HC := hid c2
    clear b2 d2 hco hok hD
    go_wp2_with fail
    have KB := (HC.out.setCell (p := ⟨w.heap.size + 1 + 1, 0, none⟩) (by show w.heap.size ≤ w.heap.size + 1 + 1; omega) (.slice none 0 0)).setCell (p := ⟨w.heap.size + 1 + 1, 1, none⟩) (by show w.heap.size ≤ w.heap.size + 1 + 1; omega) (.slice none 0 0)
    have e0 : ((w2.setCell ⟨w.heap.size + 1 + 1, 0, none⟩ (.slice none 0 0)).setCell ⟨w.heap.size + 1 + 1, 1, none⟩ (.slice none 0 0)).cell? ⟨w.heap.size + 1 + 1, 0, none⟩ = some (.slice none 0 0) := by go_cell
    have e1 : ((w2.setCell ⟨w.heap.size + 1 + 1, 0, none⟩ (.slice none 0 0)).setCell ⟨w.heap.size + 1 + 1, 1, none⟩ (.slice none 0 0)).cell? ⟨w.heap.size + 1 + 1, 1, none⟩ = some (.slice none 0 0) := by go_cell
    exact bodyPost_ret (v := .tuple #[.agg #[.slice none 0 0, .slice none 0 0], .bool false]) (by simp [results, Try.results6, go_sem, e0, e1]) rfl ⟨⟨_, _, rfl, fun _ _ => ⟨RdM.nil _ none 0, RdM.nil _ none 0⟩⟩, KB⟩
  | true =>
    rw [hok] at hco
    have hD' : (if putB F k v n l then ((putI k v n l I, putF F k v), true) else ((I, F), false)) = D := by rw [← hD]; simp [ansP, hok]
    have HFL := hid (floF_of H1.out (okC_iff.1 hok).1)
    have HFP : Hid (FloF D.1.2) := hid (by
      rw [← hD']
      cases hp : putB F k v n l with
      | true => exact okC_putF HFL.out hp
      | false => exact HFL.out)
    have HSM := hid (okC_small hok)
    obtain ⟨⟨I', F'⟩, bo⟩ := D
    simp only at HFP ⊢
    refine (hco _ (H0.out.later c1) (H1.out.later c1)).mono ?_
    rintro e w2 ⟨rfl, b2⟩
    have d2 : Below w1.heap.size w1 w2 := (Below.trans (by go_grown) (b2.mono (by first | omega | (simp; done) | (simp; omega))))
    have c2 : Below w.heap.size w w2 := c1.trans (d2.mono c1.size)
    have a0_2 : w2.cell? ⟨w.heap.size, 0, none⟩ = some (.slice ai I.length ci) := (by rw [b2.cell (by first | omega | (simp; done) | (simp; omega))]; go_cell)
    have a1_2 : w2.cell? ⟨w.heap.size, 1, none⟩ = some (.slice af F.length cf) := (by rw [b2.cell (by first | omega | (simp; done) | (simp; omega))]; go_cell)
    have al_2 : w.heap.size < w2.heap.size := (by have := b2.size; first | omega | (revert this; simp; done) | (revert this; simp; omega))
    have b0_2 : w2.cell? ⟨w.heap.size + 1, 0, none⟩ = some (.int .i64 k) := (by rw [b2.cell (by first | omega | (simp; done) | (simp; omega))]; go_cell)
    have b1_2 : w2.cell? ⟨w.heap.size + 1, 1, none⟩ = some (.int .i64 v) := (by rw [b2.cell (by first | omega | (simp; done) | (simp; omega))]; go_cell)
    have b2_2 : w2.cell? ⟨w.heap.size + 1, 2, none⟩ = some (.int .i64 n) := (by rw [b2.cell (by first | omega | (simp; done) | (simp; omega))]; go_cell)
    have b3_2 : w2.cell? ⟨w.heap.size + 1, 3, none⟩ = some (.slice uo l.length uc) := (by rw [b2.cell (by first | omega | (simp; done) | (simp; omega))]; go_cell)
    have bl_2 : w.heap.size + 1 < w2.heap.size := (by have := b2.size; first | omega | (revert this; simp; done) | (revert this; simp; omega))
    have r0_2 : w2.cell? ⟨w.heap.size + 1 + 1, 0, none⟩ = some (.slice none 0 0) := (by rw [b2.cell (by first | omega | (simp; done) | (simp; omega))]; go_cell)
    have rf0_2 : w2.frozen? ⟨w.heap.size + 1 + 1, 0, none⟩ = false := (by rw [b2.frozen (by first | omega | (simp; done) | (simp; omega))]; (first | go_cell | (simp [World.frozen?, World.alloc]; done) | rfl))
    have r1_2 : w2.cell? ⟨w.heap.size + 1 + 1, 1, none⟩ = some (.slice none 0 0) := (by rw [b2.cell (by first | omega | (simp; done) | (simp; omega))]; go_cell)
    have rf1_2 : w2.frozen? ⟨w.heap.size + 1 + 1, 1, none⟩ = false := (by rw [b2.frozen (by first | omega | (simp; done) | (simp; omega))]; (first | go_cell | (simp [World.frozen?, World.alloc]; done) | rfl))
    have rl_2 : w.heap.size + 1 + 1 < w2.heap.size := (by have := b2.size; first | omega | (revert this; simp; done) | (revert this; simp; omega))
    clear a0_1 a1_1 al_1 b0_1 b1_1 b2_1 b3_1 bl_1 r0_1 rf0_1 r1_1 rf1_1 rl_1
    have HC2 := hid c2
    have rl2 : w.heap.size + 1 + 1 < w2.heap.size := rl_2
    have HD := hid hD'
    clear b2 d2 hco hok hD hD'
    go_upto_region 3 with fail
    go_region_with (first
      | (go_at_call 23; refine (l5Cache_any _ _ I F _ (H0.out.later (HC2.out.trans (Below.mono (by go_grown) HC2.out.size))) (H1.out.later (HC2.out.trans (Below.mono (by go_grown) HC2.out.size))) HFL.out HSM.out.1 HSM.out.2).mono ?_; rintro e w3 ⟨⟨x0, g, cg, N, rfl, hg1, hg2, hN, hrow, hrk⟩, b3⟩; have HROW := hid hrow; have HRK := hid hrk; obtain ⟨vo, vc, hv, _⟩ := hrk; subst hv; have d3 : Below w2.heap.size w2 w3 := (Below.trans (by go_grown) (b3.mono (by first | omega | (simp; done) | (simp; omega)))); have c3 : Below w.heap.size w w3 := c2.trans (d3.mono c2.size); have b0_3 : w3.cell? ⟨w.heap.size + 1, 0, none⟩ = some (.int .i64 k) := (by rw [b3.cell (by first | omega | (simp; done) | (simp; omega))]; go_cell); have b1_3 : w3.cell? ⟨w.heap.size + 1, 1, none⟩ = some (.int .i64 v) := (by rw [b3.cell (by first | omega | (simp; done) | (simp; omega))]; go_cell); have b2_3 : w3.cell? ⟨w.heap.size + 1, 2, none⟩ = some (.int .i64 n) := (by rw [b3.cell (by first | omega | (simp; done) | (simp; omega))]; go_cell); have b3_3 : w3.cell? ⟨w.heap.size + 1, 3, none⟩ = some (.slice uo l.length uc) := (by rw [b3.cell (by first | omega | (simp; done) | (simp; omega))]; go_cell); have bl_3 : w.heap.size + 1 < w3.heap.size := (by have := b3.size; first | omega | (revert this; simp; done) | (revert this; simp; omega)); have r0_3 : w3.cell? ⟨w.heap.size + 1 + 1, 0, none⟩ = some (.slice none 0 0) := (by rw [b3.cell (by first | omega | (simp; done) | (simp; omega))]; go_cell); have rf0_3 : w3.frozen? ⟨w.heap.size + 1 + 1, 0, none⟩ = false := (by rw [b3.frozen (by first | omega | (simp; done) | (simp; omega))]; (first | go_cell | (simp [World.frozen?, World.alloc]; done) | rfl)); have r1_3 : w3.cell? ⟨w.heap.size + 1 + 1, 1, none⟩ = some (.slice none 0 0) := (by rw [b3.cell (by first | omega | (simp; done) | (simp; omega))]; go_cell); have rf1_3 : w3.frozen? ⟨w.heap.size + 1 + 1, 1, none⟩ = false := (by rw [b3.frozen (by first | omega | (simp; done) | (simp; omega))]; (first | go_cell | (simp [World.frozen?, World.alloc]; done) | rfl)); have rl_3 : w.heap.size + 1 + 1 < w3.heap.size := (by have := b3.size; first | omega | (revert this; simp; done) | (revert this; simp; omega)); clear b0_2 b1_2 b2_2 b3_2 bl_2 r0_2 rf0_2 r1_2 rf1_2 rl_2; have HC3 := hid c3; have HG := hid (And.intro (show w2.heap.size ≤ g from hg1) (And.intro hg2 hN)); clear hrow b3 hg1 hg2 hN)
      | (go_at_call 22; refine (l5Put_any N g cg _ _ I F k v n _ l _ (HRK.out.later (by go_grown)) (by have := HG.out.2.2; first | omega | (simp; omega)) HG.out.2.1 (row_later HROW.out (by go_grown)) HFL.out HSM.out.1 (HU.out.later (HC3.out.trans (Below.mono (by go_grown) HC3.out.size))) (fun h0 b hb e => by have := HUL.out h0 b hb; have h9 := HG.out.1; first | omega | (simp at h9; omega)) HD.out).mono ?_; rintro e w4 ⟨⟨x, rfl, hx, hrow4⟩, o4⟩; simp only at hx hrow4; have HX := hid hx; have HROW4 := hid hrow4; obtain ⟨xo, xc, hv, _⟩ := hx; subst hv; have o34 : Only (fun b => b = g) w3 w4 := Only.trans (Only.later (by go_grown)) o4; have hne : ¬ w.heap.size + 1 + 1 = g := (by have := HG.out.1; omega); have r0_4 := (World.cell?_of_block (a := ⟨w.heap.size + 1 + 1, 0, none⟩) (o34.block (w.heap.size + 1 + 1) rl_3 hne)).trans r0_3; have r1_4 := (World.cell?_of_block (a := ⟨w.heap.size + 1 + 1, 1, none⟩) (o34.block (w.heap.size + 1 + 1) rl_3 hne)).trans r1_3; have rf0_4 := (World.frozen?_of_block (a := ⟨w.heap.size + 1 + 1, 0, none⟩) (o34.block (w.heap.size + 1 + 1) rl_3 hne)).trans rf0_3; have rf1_4 := (World.frozen?_of_block (a := ⟨w.heap.size + 1 + 1, 1, none⟩) (o34.block (w.heap.size + 1 + 1) rl_3 hne)).trans rf1_3; have HC4 := hid (HC3.out.trans (o34.below (B := w.heap.size) (fun q hq => by have := HG.out.1; omega) HC3.out.size)); clear o4 hrow4))
    all_goals
      have hg1 := HG.out.1
      have hg2 := HG.out.2.1
      have hgr : w.heap.size + 1 + 1 < N := by omega
      clear r0_3 r1_3 rf0_3 rf1_3 o34
      go_wp2_with fail
      have KB := (HC4.out.setCell (p := ⟨w.heap.size + 1 + 1, 0, none⟩) (by show w.heap.size ≤ w.heap.size + 1 + 1; omega) (.slice xo I'.length xc)).setCell (p := ⟨w.heap.size + 1 + 1, 1, none⟩) (by show w.heap.size ≤ w.heap.size + 1 + 1; omega) (.slice (some ⟨g, 0, none⟩) 24 cg)
      have KO : Only (fun q => q < N) w4 ((w4.setCell ⟨w.heap.size + 1 + 1, 0, none⟩ (.slice xo I'.length xc)).setCell ⟨w.heap.size + 1 + 1, 1, none⟩ (.slice (some ⟨g, 0, none⟩) 24 cg)) := (Only.set (F := fun q => q < N) _ (p := ⟨w.heap.size + 1 + 1, 0, none⟩) hgr _).trans (Only.set (F := fun q => q < N) _ (p := ⟨w.heap.size + 1 + 1, 1, none⟩) hgr _)
      have RK := HX.out.only KO
      have FK := (row_agree HROW4.out (w' := ((w4.setCell ⟨w.heap.size + 1 + 1, 0, none⟩ (.slice xo I'.length xc)).setCell ⟨w.heap.size + 1 + 1, 1, none⟩ (.slice (some ⟨g, 0, none⟩) 24 cg))) (fun q hq => by cases hq; exact (Below.heap_setCell _ _ _ _ (by show g ≠ w.heap.size + 1 + 1; omega)).trans (Below.heap_setCell _ _ _ _ (by show g ≠ w.heap.size + 1 + 1; omega))))
      have e0 : ((w4.setCell ⟨w.heap.size + 1 + 1, 0, none⟩ (.slice xo I'.length xc)).setCell ⟨w.heap.size + 1 + 1, 1, none⟩ (.slice (some ⟨g, 0, none⟩) 24 cg)).cell? ⟨w.heap.size + 1 + 1, 0, none⟩ = some (.slice xo I'.length xc) := by go_cell
      have e1 : ((w4.setCell ⟨w.heap.size + 1 + 1, 0, none⟩ (.slice xo I'.length xc)).setCell ⟨w.heap.size + 1 + 1, 1, none⟩ (.slice (some ⟨g, 0, none⟩) 24 cg)).cell? ⟨w.heap.size + 1 + 1, 1, none⟩ = some (.slice (some ⟨g, 0, none⟩) 24 cg) := by go_cell
      exact bodyPost_ret (v := .tuple #[.agg #[(.slice xo I'.length xc), (.slice (some ⟨g, 0, none⟩) 24 cg)], .bool bo]) (by simp [results, Try.results6, go_sem, e0, e1]) rfl ⟨⟨_, _, rfl, fun w2 h2 => ⟨((RK.weaken (G' := fun q => q < w.heap.size) (fun q _ h => by show q < N; omega)).only h2).rd, rowF_rd (row_agree FK (fun q hq => by cases hq; exact h2.block g (FK.lt g rfl).2 (by show ¬ g < w.heap.size; omega))) HFP.out⟩⟩, KB⟩
end Go.Proofs.Ytilbaiohcfhcaaa
