/- (impl.spot).told: contract. -/
import Derived.Test.YtilbaiohcfhcaaaGrD
import Derived.Test.YtilbaiohcfhcaaaRa
import Derived.Test.YtilbaiohcfhcaaaGrA
import Derived.Deep.RegionHeld3
namespace Go.Proofs.Ytilbaiohcfhcaaa
open Go.RowKit
attribute [local go_sem ↓] Go.wp_at_zero Go.wp_at_succ

/-- The eight pairs that a spot has room for. -/
def kin8 (l : List (Int × Int)) : List (Int × Int) := (List.range 8).map (fun i => l.getD i (0, 0))
theorem kin8_length (l : List (Int × Int)) : (kin8 l).length = 8 := by simp [kin8]
theorem kin8_get (l : List (Int × Int)) (i : Nat) (h : i < 8) : (kin8 l).getD i (0, 0) = l.getD i (0, 0) := by
  obtain rfl | rfl | rfl | rfl | rfl | rfl | rfl | rfl : i = 0 ∨ i = 1 ∨ i = 2 ∨ i = 3 ∨ i = 4 ∨ i = 5 ∨ i = 6 ∨ i = 7 := by omega
  all_goals rfl
theorem kin8_range {l : List (Int × Int)} (h : l.length ≤ 8) : rangeL (kin8 l) 0 l.length = l := by
  unfold rangeL fromL
  rw [if_neg (by omega)]
  apply List.ext_getElem?
  intro i
  rw [Int.toNat_natCast, List.getElem?_take]
  by_cases hi : i < l.length
  · rw [if_pos hi, show (0 : Int).toNat = 0 from rfl, List.drop_zero]
    have h1 := kin8_get l i (by omega)
    simp only [List.getD_eq_getElem?_getD] at h1
    rw [List.getElem?_eq_getElem (by rw [kin8_length]; omega), List.getElem?_eq_getElem hi] at h1 ⊢
    simpa using h1
  · rw [if_neg hi, List.getElem?_eq_none (by omega)]
theorem spot_kin (p0 p1 p2 : Int) (l : List (Int × Int)) : ∀ i, i < 8 → (spotC true p0 p1 p2 l)[4 + i * 2]? = some (.int .i64 ((kin8 l).getD i (0, 0)).1) ∧ (spotC true p0 p1 p2 l)[4 + i * 2 + 1]? = some (.int .i64 ((kin8 l).getD i (0, 0)).2) := by
  intro i h
  obtain rfl | rfl | rfl | rfl | rfl | rfl | rfl | rfl : i = 0 ∨ i = 1 ∨ i = 2 ∨ i = 3 ∨ i = 4 ∨ i = 5 ∨ i = 6 ∨ i = 7 := by omega
  all_goals exact ⟨rfl, rfl⟩
theorem spot_cell {w : World} {g : Nat} {C : List Value} (h : w.heap[g]? = some (.cells C.toArray 55 (0, 0))) (i : Nat) (v : Value) (hv : C[i]? = some v) : w.cell? ⟨g, i, none⟩ = some v := by
  rw [cell_of_row w g i _ _ _ h]
  simpa using hv
set_option maxRecDepth 100000 in
set_option maxHeartbeats 2000000 in
theorem spotTold_any (p0 p1 p2 : Int) (l : List (Int × Int)) (w : World) (hl : l.length ≤ 8) :
    Calls Try.prog 29 #[.agg (spotC true p0 p1 p2 l).toArray] w fun e w' => (∃ (o : Option Addr) (c : Nat), e = .returned (.agg #[.int .i64 p0, .int .i64 p1, .int .i64 p2, .slice o l.length c]) ∧ Own w' w.heap.size (.slice o l.length c) l) ∧ Below w.heap.size w w' := by
  have hb0 := heap_alloc_new w (.cells (spotC true p0 p1 p2 l).toArray 55)
  have c1 : Below w.heap.size w ((w.alloc (.cells (spotC true p0 p1 p2 l).toArray 55)).alloc (.cells #[.int .i64 0, .int .i64 0, .int .i64 0, .slice none 0 0] 31)) := by go_grown
  have hb : ((w.alloc (.cells (spotC true p0 p1 p2 l).toArray 55)).alloc (.cells #[.int .i64 0, .int .i64 0, .int .i64 0, .slice none 0 0] 31)).heap[w.heap.size]? = some (.cells (spotC true p0 p1 p2 l).toArray 55 (0, 0)) := (Below.heap_alloc _ _ _ (by simp)).trans hb0
  have r0_1 : ((w.alloc (.cells (spotC true p0 p1 p2 l).toArray 55)).alloc (.cells #[.int .i64 0, .int .i64 0, .int .i64 0, .slice none 0 0] 31)).cell? ⟨w.heap.size + 1, 0, none⟩ = some (.int .i64 0) := by go_cell
  have r1_1 : ((w.alloc (.cells (spotC true p0 p1 p2 l).toArray 55)).alloc (.cells #[.int .i64 0, .int .i64 0, .int .i64 0, .slice none 0 0] 31)).cell? ⟨w.heap.size + 1, 1, none⟩ = some (.int .i64 0) := by go_cell
  have r2_1 : ((w.alloc (.cells (spotC true p0 p1 p2 l).toArray 55)).alloc (.cells #[.int .i64 0, .int .i64 0, .int .i64 0, .slice none 0 0] 31)).cell? ⟨w.heap.size + 1, 2, none⟩ = some (.int .i64 0) := by go_cell
  have r3_1 : ((w.alloc (.cells (spotC true p0 p1 p2 l).toArray 55)).alloc (.cells #[.int .i64 0, .int .i64 0, .int .i64 0, .slice none 0 0] 31)).cell? ⟨w.heap.size + 1, 3, none⟩ = some (.slice none 0 0) := by go_cell
  have rf0_1 : ((w.alloc (.cells (spotC true p0 p1 p2 l).toArray 55)).alloc (.cells #[.int .i64 0, .int .i64 0, .int .i64 0, .slice none 0 0] 31)).frozen? ⟨w.heap.size + 1, 0, none⟩ = false := by (first | go_cell | (simp [World.frozen?, World.alloc]; done) | rfl)
  have rf1_1 : ((w.alloc (.cells (spotC true p0 p1 p2 l).toArray 55)).alloc (.cells #[.int .i64 0, .int .i64 0, .int .i64 0, .slice none 0 0] 31)).frozen? ⟨w.heap.size + 1, 1, none⟩ = false := by (first | go_cell | (simp [World.frozen?, World.alloc]; done) | rfl)
  have rf2_1 : ((w.alloc (.cells (spotC true p0 p1 p2 l).toArray 55)).alloc (.cells #[.int .i64 0, .int .i64 0, .int .i64 0, .slice none 0 0] 31)).frozen? ⟨w.heap.size + 1, 2, none⟩ = false := by (first | go_cell | (simp [World.frozen?, World.alloc]; done) | rfl)
  have rf3_1 : ((w.alloc (.cells (spotC true p0 p1 p2 l).toArray 55)).alloc (.cells #[.int .i64 0, .int .i64 0, .int .i64 0, .slice none 0 0] 31)).frozen? ⟨w.heap.size + 1, 3, none⟩ = false := by (first | go_cell | (simp [World.frozen?, World.alloc]; done) | rfl)
  have s1 : ((w.alloc (.cells (spotC true p0 p1 p2 l).toArray 55)).alloc (.cells #[.int .i64 0, .int .i64 0, .int .i64 0, .slice none 0 0] 31)).heap.size = w.heap.size + 2 := by simp
  go_enter Try.func29, Try.ntmps29
  go_wp2_with fail
  generalize ((w.alloc (.cells (spotC true p0 p1 p2 l).toArray 55)).alloc (.cells #[.int .i64 0, .int .i64 0, .int .i64 0, .slice none 0 0] 31)) = w1 at c1 hb r0_1 r1_1 r2_1 r3_1 rf0_1 rf1_1 rf2_1 rf3_1 s1 ⊢
  have k1 := spot_cell hb 1 _ rfl
  have k2 := spot_cell hb 2 _ rfl
  have k3 := spot_cell hb 3 _ rfl
  have k20 := spot_cell hb 20 _ rfl
  have HR : Hid (Rd w1 (.slice (some ⟨w.heap.size, 4, none⟩) 8 8) (kin8 l)) := hid ⟨some ⟨w.heap.size, 4, none⟩, 8, by rw [kin8_length], by rw [kin8_length]; decide, fun _ => ⟨w.heap.size, 4, rfl, by omega, fun i hi => by
    rw [kin8_length] at hi
    obtain ⟨q0, q1⟩ := spot_kin p0 p1 p2 l i hi
    exact ⟨spot_cell hb _ _ q0, spot_cell hb _ _ q1⟩⟩⟩
  have HK := hid (kin8_range hl)
  have rl_1 : w.heap.size + 1 < w1.heap.size := by omega
  have wl_1 : w.heap.size < w1.heap.size := by omega
  clear hb hb0
  go_region_held3 (fun w' => w'.cell? ⟨w.heap.size, 1, none⟩ = some (.int .i64 p0) ∧ w'.cell? ⟨w.heap.size, 2, none⟩ = some (.int .i64 p1) ∧ w'.cell? ⟨w.heap.size, 3, none⟩ = some (.int .i64 p2) ∧ w'.cell? ⟨w.heap.size, 20, none⟩ = some (.int .i64 l.length)) (go_keep) (first | (go_at_call 48; refine (implRange_any _ (kin8 l) 0 _ _ (HR.out.later (by go_grown)) (by rw [kin8_length]; decide)).mono ?_; rintro e w2 ⟨v', rfl, ho, b2⟩; have d2 : Below w1.heap.size w1 w2 := (Below.trans (by go_grown) (b2.mono (by first | omega | (simp; done) | (simp; omega)))); have j1 := (d2.cell (p := ⟨w.heap.size, 1, none⟩) wl_1).trans k1; have j2 := (d2.cell (p := ⟨w.heap.size, 2, none⟩) wl_1).trans k2; have j3 := (d2.cell (p := ⟨w.heap.size, 3, none⟩) wl_1).trans k3; have j20 := (d2.cell (p := ⟨w.heap.size, 20, none⟩) wl_1).trans k20; have HO := hid (Own.mono ho (B' := w1.heap.size) (by show w1.heap.size ≤ w1.heap.size; omega)); clear ho; have r0_2 : w2.cell? ⟨w.heap.size + 1, 0, none⟩ = some (.int .i64 0) := (by rw [b2.cell (by first | omega | (simp; done) | (simp; omega))]; go_cell); have rf0_2 : w2.frozen? ⟨w.heap.size + 1, 0, none⟩ = false := (by rw [b2.frozen (by first | omega | (simp; done) | (simp; omega))]; (first | go_cell | (simp [World.frozen?, World.alloc]; done) | rfl)); have r1_2 : w2.cell? ⟨w.heap.size + 1, 1, none⟩ = some (.int .i64 0) := (by rw [b2.cell (by first | omega | (simp; done) | (simp; omega))]; go_cell); have rf1_2 : w2.frozen? ⟨w.heap.size + 1, 1, none⟩ = false := (by rw [b2.frozen (by first | omega | (simp; done) | (simp; omega))]; (first | go_cell | (simp [World.frozen?, World.alloc]; done) | rfl)); have r2_2 : w2.cell? ⟨w.heap.size + 1, 2, none⟩ = some (.int .i64 0) := (by rw [b2.cell (by first | omega | (simp; done) | (simp; omega))]; go_cell); have rf2_2 : w2.frozen? ⟨w.heap.size + 1, 2, none⟩ = false := (by rw [b2.frozen (by first | omega | (simp; done) | (simp; omega))]; (first | go_cell | (simp [World.frozen?, World.alloc]; done) | rfl)); have r3_2 : w2.cell? ⟨w.heap.size + 1, 3, none⟩ = some (.slice none 0 0) := (by rw [b2.cell (by first | omega | (simp; done) | (simp; omega))]; go_cell); have rf3_2 : w2.frozen? ⟨w.heap.size + 1, 3, none⟩ = false := (by rw [b2.frozen (by first | omega | (simp; done) | (simp; omega))]; (first | go_cell | (simp [World.frozen?, World.alloc]; done) | rfl)); have rl_2 : w.heap.size + 1 < w2.heap.size := (by have := b2.size; first | omega | (revert this; simp; done) | (revert this; simp; omega)); rw [HK.out] at HO; obtain ⟨uo, uc, huv, _⟩ := HO.out.rd; subst huv))
  all_goals
    have C2 := hid (c1.trans (d2.mono c1.size))
    clear d2 b2 c1
    go_wp2_with fail
    have e0 : ((((w2.setCell ⟨w.heap.size + 1, 0, none⟩ (.int .i64 p0)).setCell ⟨w.heap.size + 1, 1, none⟩ (.int .i64 p1)).setCell ⟨w.heap.size + 1, 2, none⟩ (.int .i64 p2)).setCell ⟨w.heap.size + 1, 3, none⟩ (.slice uo l.length uc)).cell? ⟨w.heap.size + 1, 0, none⟩ = some (.int .i64 p0) := by go_cell
    have e1 : ((((w2.setCell ⟨w.heap.size + 1, 0, none⟩ (.int .i64 p0)).setCell ⟨w.heap.size + 1, 1, none⟩ (.int .i64 p1)).setCell ⟨w.heap.size + 1, 2, none⟩ (.int .i64 p2)).setCell ⟨w.heap.size + 1, 3, none⟩ (.slice uo l.length uc)).cell? ⟨w.heap.size + 1, 1, none⟩ = some (.int .i64 p1) := by go_cell
    have e2 : ((((w2.setCell ⟨w.heap.size + 1, 0, none⟩ (.int .i64 p0)).setCell ⟨w.heap.size + 1, 1, none⟩ (.int .i64 p1)).setCell ⟨w.heap.size + 1, 2, none⟩ (.int .i64 p2)).setCell ⟨w.heap.size + 1, 3, none⟩ (.slice uo l.length uc)).cell? ⟨w.heap.size + 1, 2, none⟩ = some (.int .i64 p2) := by go_cell
    have e3 : ((((w2.setCell ⟨w.heap.size + 1, 0, none⟩ (.int .i64 p0)).setCell ⟨w.heap.size + 1, 1, none⟩ (.int .i64 p1)).setCell ⟨w.heap.size + 1, 2, none⟩ (.int .i64 p2)).setCell ⟨w.heap.size + 1, 3, none⟩ (.slice uo l.length uc)).cell? ⟨w.heap.size + 1, 3, none⟩ = some (.slice uo l.length uc) := by go_cell
    have HF := hid (Own.mono ((((HO.out.apartSet (p := ⟨w.heap.size + 1, 0, none⟩) (by show w.heap.size + 1 < w1.heap.size; omega) (.int .i64 p0)).apartSet (p := ⟨w.heap.size + 1, 1, none⟩) (by show w.heap.size + 1 < w1.heap.size; omega) (.int .i64 p1)).apartSet (p := ⟨w.heap.size + 1, 2, none⟩) (by show w.heap.size + 1 < w1.heap.size; omega) (.int .i64 p2)).apartSet (p := ⟨w.heap.size + 1, 3, none⟩) (by show w.heap.size + 1 < w1.heap.size; omega) (.slice uo l.length uc)) (B' := w.heap.size) (by omega))
    have HB := hid ((((C2.out.setCell (p := ⟨w.heap.size + 1, 0, none⟩) (by show w.heap.size ≤ w.heap.size + 1; omega) (.int .i64 p0)).setCell (p := ⟨w.heap.size + 1, 1, none⟩) (by show w.heap.size ≤ w.heap.size + 1; omega) (.int .i64 p1)).setCell (p := ⟨w.heap.size + 1, 2, none⟩) (by show w.heap.size ≤ w.heap.size + 1; omega) (.int .i64 p2)).setCell (p := ⟨w.heap.size + 1, 3, none⟩) (by show w.heap.size ≤ w.heap.size + 1; omega) (.slice uo l.length uc))
    exact bodyPost_ret (v := .agg #[.int .i64 p0, .int .i64 p1, .int .i64 p2, .slice uo l.length uc]) (by simp [results, Try.results29, go_sem, e0, e1, e2, e3]) rfl ⟨⟨uo, uc, rfl, HF.out⟩, HB.out⟩
end Go.Proofs.Ytilbaiohcfhcaaa
