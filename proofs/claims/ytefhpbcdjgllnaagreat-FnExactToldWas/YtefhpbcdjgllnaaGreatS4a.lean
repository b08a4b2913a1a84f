/- impl.valApart: contract. -/
import Derived.Test.YtefhpbcdjgllnaaGreatRa
import Derived.Test.YtefhpbcdjgllnaaGreatAps
import Derived.Deep.RegionLaw
import Derived.Deep.RegionHeld3
namespace Go.Proofs.YtefhpbcdjgllnaaGreat
open Go.RowKit
attribute [local go_sem ↓] Go.wp_at_zero Go.wp_at_succ

theorem rangeL_all (l : List (Int × Int)) : rangeL l 0 (l.length : Int) = l := by simp [rangeL, fromL]
set_option maxRecDepth 100000 in
set_option maxHeartbeats 2000000 in
theorem valApart_any (n : Int) (u : Value) (l : List (Int × Int)) (w : World) (h : Rd w u l) (hl : l.length ≤ 1099511627776) :
    Calls Tryz.prog 112 #[.agg #[.int .i64 n, u]] w fun e w' => (∃ u', e = .returned (.agg #[.int .i64 n, u']) ∧ Own w' w.heap.size u' l) ∧ Below w.heap.size w w' := by
  have H := hid h
  obtain ⟨uo, uc, rfl, _⟩ := h
  go_enter Tryz.func112, Tryz.ntmps112
  go_wp2_with fail
  generalize hW1 : ((w.alloc (.cells #[.int .i64 n, .slice uo l.length uc] 47)).alloc (.cells #[.int .i64 0, .slice none 0 0] 47)) = w1
  have a0_1 : w1.cell? ⟨w.heap.size, 0, none⟩ = some (.int .i64 n) := by subst hW1; go_cell
  have a1_1 : w1.cell? ⟨w.heap.size, 1, none⟩ = some (.slice uo l.length uc) := by subst hW1; go_cell
  have al_1 : w.heap.size < w1.heap.size := by subst hW1; first | (simp; done) | (simp; omega)
  have r0_1 : w1.cell? ⟨w.heap.size + 1, 0, none⟩ = some (.int .i64 0) := by subst hW1; go_cell
  have rf0_1 : w1.frozen? ⟨w.heap.size + 1, 0, none⟩ = false := by subst hW1; (first | go_cell | (simp [World.frozen?, World.alloc]; done) | rfl)
  have r1_1 : w1.cell? ⟨w.heap.size + 1, 1, none⟩ = some (.slice none 0 0) := by subst hW1; go_cell
  have rf1_1 : w1.frozen? ⟨w.heap.size + 1, 1, none⟩ = false := by subst hW1; (first | go_cell | (simp [World.frozen?, World.alloc]; done) | rfl)
  have rl_1 : w.heap.size + 1 < w1.heap.size := by subst hW1; first | (simp; done) | (simp; omega)
  have c1 : Below w.heap.size w w1 := by subst hW1; go_grown
  have s1 : w1.heap.size = w.heap.size + 2 := by subst hW1; simp
  clear hW1
  have qa0_1 := cell_regrown a0_1
  have qa1_1 := cell_regrown a1_1
  have qr0_1 := cell_regrown r0_1
  have qr1_1 := cell_regrown r1_1
  have HS1 := hid s1
  clear s1
  have ra := hid (And.intro a0_1 a1_1)
  go_region_held3 (fun w' => w'.cell? ⟨w.heap.size, 0, none⟩ = some (.int .i64 n) ∧ w'.cell? ⟨w.heap.size, 1, none⟩ = some (.slice uo l.length uc)) (go_keep) (first
    | (go_at_call 118; refine (implRange_any (.slice uo l.length uc) l 0 (l.length : Int) _ (H.out.later (c1.drew)) hl).mono ?_; rintro e w2 ⟨u', rfl, ho, b2⟩; rw [rangeL_all] at ho; have d2 : Below w1.heap.size w1 w2 := (Below.trans (by go_grown) (b2.mono (by first | omega | (simp; done) | (simp; omega)))); have c2 : Below w.heap.size w w2 := c1.trans (d2.mono c1.size); have a0_2 : w2.cell? ⟨w.heap.size, 0, none⟩ = some (.int .i64 n) := (by rw [b2.cell (by first | omega | (simp; done) | (simp; omega))]; go_cell); have a1_2 : w2.cell? ⟨w.heap.size, 1, none⟩ = some (.slice uo l.length uc) := (by rw [b2.cell (by first | omega | (simp; done) | (simp; omega))]; go_cell); have al_2 : w.heap.size < w2.heap.size := (by have := b2.size; first | omega | (revert this; simp; done) | (revert this; simp; omega)); have r0_2 : w2.cell? ⟨w.heap.size + 1, 0, none⟩ = some (.int .i64 0) := (by rw [b2.cell (by first | omega | (simp; done) | (simp; omega))]; go_cell); have rf0_2 : w2.frozen? ⟨w.heap.size + 1, 0, none⟩ = false := (by rw [b2.frozen (by first | omega | (simp; done) | (simp; omega))]; (first | go_cell | (simp [World.frozen?, World.alloc]; done) | rfl)); have r1_2 : w2.cell? ⟨w.heap.size + 1, 1, none⟩ = some (.slice none 0 0) := (by rw [b2.cell (by first | omega | (simp; done) | (simp; omega))]; go_cell); have rf1_2 : w2.frozen? ⟨w.heap.size + 1, 1, none⟩ = false := (by rw [b2.frozen (by first | omega | (simp; done) | (simp; omega))]; (first | go_cell | (simp [World.frozen?, World.alloc]; done) | rfl)); have rl_2 : w.heap.size + 1 < w2.heap.size := (by have := b2.size; first | omega | (revert this; simp; done) | (revert this; simp; omega)); clear a0_1 a1_1 al_1 r0_1 rf0_1 r1_1 rf1_1 rl_1; have HO2 := hid ho; obtain ⟨u2o, u2c, hu2, _⟩ := ho.rd; subst hu2; clear ho))
  have HOW := HO2.out
  rw [show w1.drew.heap.size = w1.heap.size from rfl] at HOW
  have HO3 : Hid (Own ((w2.setCell ⟨w.heap.size + 1, 0, none⟩ (.int .i64 n)).setCell ⟨w.heap.size + 1, 1, none⟩ (.slice u2o l.length u2c)) w.heap.size (.slice u2o l.length u2c) l) := hid (by
    have hlt : ∀ k, (Value.slice u2o l.length u2c).ownBlock = some k → k ≠ w.heap.size + 1 := fun k hk => by have := (HOW.block k hk).1; have := HS1.out; omega
    exact ((HOW.mono (by have := c1.size; exact this)).agree fun k hk => by rw [Below.heap_setCell _ _ _ _ (hlt k hk), Below.heap_setCell _ _ _ _ (hlt k hk)]))
  have c3 : Below w.heap.size w ((w2.setCell ⟨w.heap.size + 1, 0, none⟩ (.int .i64 n)).setCell ⟨w.heap.size + 1, 1, none⟩ (.slice u2o l.length u2c)) := (c2.setCell (p := ⟨w.heap.size + 1, 0, none⟩) (Nat.le_succ _) _).setCell (p := ⟨w.heap.size + 1, 1, none⟩) (Nat.le_succ _) _
  have e0 : ((w2.setCell ⟨w.heap.size + 1, 0, none⟩ (.int .i64 n)).setCell ⟨w.heap.size + 1, 1, none⟩ (.slice u2o l.length u2c)).cell? ⟨w.heap.size + 1, 0, none⟩ = some (.int .i64 n) := by go_cell
  have e1 : ((w2.setCell ⟨w.heap.size + 1, 0, none⟩ (.int .i64 n)).setCell ⟨w.heap.size + 1, 1, none⟩ (.slice u2o l.length u2c)).cell? ⟨w.heap.size + 1, 1, none⟩ = some (.slice u2o l.length u2c) := by go_cell
  generalize ((w2.setCell ⟨w.heap.size + 1, 0, none⟩ (.int .i64 n)).setCell ⟨w.heap.size + 1, 1, none⟩ (.slice u2o l.length u2c)) = w3 at HO3 c3 e0 e1 ⊢
  go_wp2
  exact bodyPost_ret (v := .agg #[.int .i64 n, .slice u2o l.length u2c]) (by simp [results, Tryz.results112, go_sem, e0, e1]) rfl ⟨⟨_, rfl, HO3.out⟩, c3⟩
end Go.Proofs.YtefhpbcdjgllnaaGreat
