/- An empty cache: (impl.shelf).told of an empty shelf, both CacheOpen: contracts. Written by a program (gco.py). -/
import Derived.Test.YtanfmgigpiljpaaGrA
import Derived.Deep.MidRow
namespace Go.Proofs.Ytanfmgigpiljpaa
open Go.RowKit
attribute [local go_sem ↓] Go.wp_at_zero Go.wp_at_succ

/-- 24 numbers from cell o of block g on, that may be written. -/
def RowN (w : World) (g o : Nat) (f : Nat → Int) : Prop := ∀ i, i < 24 → w.cell? ⟨g, o + i, none⟩ = some (.int .i64 (f i)) ∧ w.frozen? ⟨g, o + i, none⟩ = false
theorem RowN.later {w w' : World} {g o : Nat} {f : Nat → Int} (h : RowN w g o f) (hg : g < w.heap.size) (hb : Below w.heap.size w w') : RowN w' g o f := fun i hi =>
  ⟨(hb.cell (p := ⟨g, o + i, none⟩) hg).trans (h i hi).1, (hb.frozen (p := ⟨g, o + i, none⟩) hg).trans (h i hi).2⟩
theorem RowN.agree {w w' : World} {g o : Nat} {f : Nat → Int} (h : RowN w g o f) (hb : w'.heap[g]? = w.heap[g]?) : RowN w' g o f := fun i hi =>
  ⟨(World.cell?_of_block (a := ⟨g, o + i, none⟩) hb).trans (h i hi).1, by have := (h i hi).2; simp only [World.frozen?] at this ⊢; rw [hb]; exact this⟩
theorem RowN.set {w : World} {g o : Nat} {f : Nat → Int} (h : RowN w g o f) {p : Addr} (hp : p.block ≠ g) (v : Value) : RowN (w.setCell p v) g o f := h.agree (Below.heap_setCell _ _ _ _ (fun e => hp e.symm))
/-- The cells of an empty spot, of four, of an empty shelf. -/
def spotZ : List Value := [.bool false, .int .i64 0, .int .i64 0, .int .i64 0, .int .i64 0, .int .i64 0, .int .i64 0, .int .i64 0, .int .i64 0, .int .i64 0, .int .i64 0, .int .i64 0, .int .i64 0, .int .i64 0, .int .i64 0, .int .i64 0, .int .i64 0, .int .i64 0, .int .i64 0, .int .i64 0, .int .i64 0]
def fourZ : List Value := spotZ ++ (spotZ ++ (spotZ ++ spotZ))
def shelfZ : List Value := fourZ ++ List.replicate 24 (.int .i64 0)
theorem shelfZ_spots (j : Nat) (v : Value) (h : fourZ[j]? = some v) : shelfZ[j]? = some v := by
  have hj : j < fourZ.length := (List.getElem?_eq_some_iff.1 h).1
  rw [shelfZ, List.getElem?_append_left hj, h]
theorem shelfZ_floors (i : Nat) (h : i < 24) : shelfZ[84 + i]? = some (.int .i64 0) := by
  have hl : fourZ.length = 84 := rfl
  rw [shelfZ, List.getElem?_append_right (by omega), hl, show 84 + i - 84 = i from by omega, List.getElem?_replicate, if_pos h]
theorem Try.info_four : (Try.prog.info? 57).map (·.size) = some 84 := by kernel_rfl
theorem Try.info_spot : (Try.prog.info? 56).map (·.size) = some 21 := by kernel_rfl
theorem Try.info_shelf : (Try.prog.info? 60).map (·.size) = some 108 := by kernel_rfl
/-- Four spots out of memory, one of them (names that the walk does not take apart). -/
def ldP (v : Value) : Sem Value := Instr.loadAt 57 v
theorem ldP_open (v : Value) : Instr.loadAt 57 v = ldP v := rfl
def ixP (x k : Value) : Sem Value := Instr.index 57 x k
theorem ixP_open (x k : Value) : Instr.index 57 x k = ixP x k := rfl
theorem ixP_row (k : Nat) (hk : k < 4) (W : World) : (ixP (.agg fourZ.toArray) (.int .i64 (k : Int))).run Try.prog W = .ok (.agg spotZ.toArray) W := by
  obtain rfl | rfl | rfl | rfl : k = 0 ∨ k = 1 ∨ k = 2 ∨ k = 3 := by omega
  all_goals
    simp only [ixP]
    kernel_rfl
theorem ldP_row {W : World} {g : Nat} (h : W.rangeAt g 0 fourZ) : (ldP (.pointer (some ⟨g, 0, none⟩))).run Try.prog W = .ok (.agg fourZ.toArray) W :=
  run_loadAt_mid W g 0 57 fourZ _ h Try.underlying57 rfl (by rw [Try.info_four]; rfl)
theorem Try.zero_spot : (Try.prog.info? 56).map (fun i => i.zero) = some (some (.agg spotZ.toArray)) := by kernel_rfl
theorem zeroP (w : World) : (zeroValue 56).run Try.prog w = .ok (.agg spotZ.toArray) w := by
  cases hq : Try.prog.info? 56 with
  | none => have := Try.zero_spot; rw [hq] at this; cases this
  | some i =>
    have hz : i.zero = some (.agg spotZ.toArray) := by have := Try.zero_spot; rw [hq] at this; simpa using this
    simp [zeroValue, typeInfo, hq, hz]
def stP (p v : Value) : Sem Unit := Instr.storeAt 56 p v
theorem stP_open (p v : Value) : Instr.storeAt 56 p v = stP p v := rfl
theorem stP_new (w : World) : (stP (.pointer (some ⟨w.heap.size, 0, none⟩)) (.agg spotZ.toArray)).run Try.prog (w.alloc (.cells spotZ.toArray 56)) = .ok () (w.alloc (.cells spotZ.toArray 56)) := by
  have hg : (w.alloc (.cells spotZ.toArray 56)).heap[w.heap.size]? = some (.cells spotZ.toArray 56 (0, 0)) := heap_alloc_new w _
  have h := run_storeVar_row (P := Try.prog) (w.alloc (.cells spotZ.toArray 56)) w.heap.size 56 56 spotZ.toArray spotZ.toArray hg (by rw [Try.info_spot]; rfl) rfl (by kernel_rfl)
  rw [setRow_self _ _ _ _ _ hg] at h
  simp only [stP, Instr.storeAt, Instr.sureAddr, Sem.run_bind, Sem.run_pure, Result.andThen]
  exact h
attribute [local go_sem ↓] ldP_open ixP_open stP_open zeroP
set_option maxRecDepth 100000 in
set_option maxHeartbeats 4000000 in
theorem told_open (w : World) :
    Calls Try.prog 24 #[.agg shelfZ.toArray] w fun e w' => e = .returned (.agg #[.slice none 0 0, .slice (some ⟨w.heap.size, 84, none⟩) 24 24]) ∧ RowN w' w.heap.size 84 (fun _ => 0) ∧ w.heap.size < w'.heap.size ∧ Below w.heap.size w w' := by
  have hB : ((w.alloc (.cells shelfZ.toArray 60)).alloc (.cells #[.slice none 0 0, .slice none 0 0] 26)).heap[w.heap.size]? = some (.cells shelfZ.toArray 60 (0, 0)) := (Below.heap_alloc _ _ _ (by simp)).trans (heap_alloc_new w _)
  have hcell : ∀ j v, shelfZ[j]? = some v → ((w.alloc (.cells shelfZ.toArray 60)).alloc (.cells #[.slice none 0 0, .slice none 0 0] 26)).cell? ⟨w.heap.size, j, none⟩ = some v := fun j v hv => by rw [cell_of_row _ _ j _ _ _ hB]; simpa using hv
  have HR : Hid (RowN ((w.alloc (.cells shelfZ.toArray 60)).alloc (.cells #[.slice none 0 0, .slice none 0 0] 26)) w.heap.size 84 (fun _ => 0)) := hid (fun i hi => ⟨hcell _ _ (shelfZ_floors i hi), by simp [World.frozen?, hB]⟩)
  have hrg : ((w.alloc (.cells shelfZ.toArray 60)).alloc (.cells #[.slice none 0 0, .slice none 0 0] 26)).rangeAt w.heap.size 0 fourZ := fun j v hv => by rw [Nat.zero_add]; exact hcell j v (shelfZ_spots j v hv)
  have hld := ldP_row hrg
  have r0_1 : ((w.alloc (.cells shelfZ.toArray 60)).alloc (.cells #[.slice none 0 0, .slice none 0 0] 26)).cell? ⟨w.heap.size + 1, 0, none⟩ = some (.slice none 0 0) := by go_cell
  have rf0_1 : ((w.alloc (.cells shelfZ.toArray 60)).alloc (.cells #[.slice none 0 0, .slice none 0 0] 26)).frozen? ⟨w.heap.size + 1, 0, none⟩ = false := by (first | go_cell | (simp [World.frozen?, World.alloc]; done) | rfl)
  have r1_1 : ((w.alloc (.cells shelfZ.toArray 60)).alloc (.cells #[.slice none 0 0, .slice none 0 0] 26)).cell? ⟨w.heap.size + 1, 1, none⟩ = some (.slice none 0 0) := by go_cell
  have rf1_1 : ((w.alloc (.cells shelfZ.toArray 60)).alloc (.cells #[.slice none 0 0, .slice none 0 0] 26)).frozen? ⟨w.heap.size + 1, 1, none⟩ = false := by (first | go_cell | (simp [World.frozen?, World.alloc]; done) | rfl)
  have c1 : Below w.heap.size w ((w.alloc (.cells shelfZ.toArray 60)).alloc (.cells #[.slice none 0 0, .slice none 0 0] 26)) := by go_grown
  have s1 : ((w.alloc (.cells shelfZ.toArray 60)).alloc (.cells #[.slice none 0 0, .slice none 0 0] 26)).heap.size = w.heap.size + 2 := by simp
  clear hB hcell hrg
  go_enter Try.func24, Try.ntmps24
  go_wp2_with fail
  clear hld
  generalize ((w.alloc (.cells shelfZ.toArray 60)).alloc (.cells #[.slice none 0 0, .slice none 0 0] 26)) = w1 at HR r0_1 rf0_1 r1_1 rf1_1 c1 s1 ⊢
  have hlt1 : w.heap.size < w1.heap.size := by omega
  have hlt2 : w.heap.size + 1 < w1.heap.size := by omega
  go_loopw [3, 8] (fun s i wr => ∃ k : Nat, k ≤ 4 ∧ s = .slice none 0 0 ∧ i = .int .i64 k ∧ Below w1.heap.size w1 wr) (fun _ i _ => 4 - (intOf i).toNat)
  case atStart => exact ⟨0, Nat.zero_le _, rfl, rfl, Below.refl _ _⟩
  case round =>
    obtain ⟨k, hk, rfl, rfl, hbel⟩ := hrel
    by_cases hlt : k < 4
    · have hix := fun W => ixP_row k hlt W
      have hki : (k : Int) < 4 := by omega
      have hst := stP_new wr
      have hcl : (wr.alloc (.cells spotZ.toArray 56)).cell? ⟨wr.heap.size, 0, none⟩ = some (.bool false) := by rw [cell_of_row _ _ 0 _ _ _ (heap_alloc_new wr _)]; rfl
      have hbw : Below wr.heap.size wr (wr.alloc (.cells spotZ.toArray 56)) := by go_grown
      go_wp2_with fail
      go_roundw
      case rel => exact ⟨k + 1, by omega, rfl, by go_num, hbel.trans (hbw.mono hbel.size)⟩
      case measure => simp [intOf]; omega
    · have hki : ¬ (k : Int) < 4 := by omega
      have r0_2 : wr.cell? ⟨w.heap.size + 1, 0, none⟩ = some (.slice none 0 0) := (hbel.cell (p := ⟨w.heap.size + 1, 0, none⟩) hlt2).trans r0_1
      have r1_2 : wr.cell? ⟨w.heap.size + 1, 1, none⟩ = some (.slice none 0 0) := (hbel.cell (p := ⟨w.heap.size + 1, 1, none⟩) hlt2).trans r1_1
      have rf0_2 : wr.frozen? ⟨w.heap.size + 1, 0, none⟩ = false := (hbel.frozen (p := ⟨w.heap.size + 1, 0, none⟩) hlt2).trans rf0_1
      have rf1_2 : wr.frozen? ⟨w.heap.size + 1, 1, none⟩ = false := (hbel.frozen (p := ⟨w.heap.size + 1, 1, none⟩) hlt2).trans rf1_1
      have HR2 := hid (HR.out.later hlt1 hbel)
      go_wp2_with fail
      have hsz := hbel.size
      have e0 : ((wr.setCell ⟨w.heap.size + 1, 0, none⟩ (.slice none 0 0)).setCell ⟨w.heap.size + 1, 1, none⟩ (.slice (some ⟨w.heap.size, 84, none⟩) 24 24)).cell? ⟨w.heap.size + 1, 0, none⟩ = some (.slice none 0 0) := by go_cell
      have e1 : ((wr.setCell ⟨w.heap.size + 1, 0, none⟩ (.slice none 0 0)).setCell ⟨w.heap.size + 1, 1, none⟩ (.slice (some ⟨w.heap.size, 84, none⟩) 24 24)).cell? ⟨w.heap.size + 1, 1, none⟩ = some (.slice (some ⟨w.heap.size, 84, none⟩) 24 24) := by go_cell
      refine bodyPost_ret (v := .agg #[.slice none 0 0, .slice (some ⟨w.heap.size, 84, none⟩) 24 24]) (by simp [results, Try.results24, go_sem, e0, e1]) rfl ⟨rfl, ?_, ?_, ?_⟩
      · exact (HR2.out.set (p := ⟨w.heap.size + 1, 0, none⟩) (by simp) _).set (p := ⟨w.heap.size + 1, 1, none⟩) (by simp) _
      · simp; omega
      · exact ((c1.trans (hbel.mono c1.size)).setCell (p := ⟨w.heap.size + 1, 0, none⟩) (by simp) _).setCell (p := ⟨w.heap.size + 1, 1, none⟩) (by simp) _
/-! ### Both CacheOpen -/
theorem Try.zero_shelf : (Try.prog.info? 60).map (fun i => i.zero) = some (some (.agg shelfZ.toArray)) := by kernel_rfl
theorem zeroS (w : World) : (zeroValue 60).run Try.prog w = .ok (.agg shelfZ.toArray) w := by
  cases hq : Try.prog.info? 60 with
  | none => have := Try.zero_shelf; rw [hq] at this; cases this
  | some i =>
    have hz : i.zero = some (.agg shelfZ.toArray) := by have := Try.zero_shelf; rw [hq] at this; simpa using this
    simp [zeroValue, typeInfo, hq, hz]
attribute [local go_sem ↓] zeroS
set_option maxRecDepth 100000 in
set_option maxHeartbeats 2000000 in
theorem implCOpen_any (w : World) : Calls Try.prog 16 #[] w fun e w' => (∃ g, e = .returned (.agg #[.slice none 0 0, .slice (some ⟨g, 84, none⟩) 24 24]) ∧ w.heap.size ≤ g ∧ g < w'.heap.size ∧ RowN w' g 84 (fun _ => 0)) ∧ Below w.heap.size w w' := by
  go_enter Try.func16, Try.ntmps16
  go_wp2_with fail
  have r0_1 : (w.alloc (.cells #[.slice none 0 0, .slice none 0 0] 26)).cell? ⟨w.heap.size, 0, none⟩ = some (.slice none 0 0) := by go_cell
  have r1_1 : (w.alloc (.cells #[.slice none 0 0, .slice none 0 0] 26)).cell? ⟨w.heap.size, 1, none⟩ = some (.slice none 0 0) := by go_cell
  have rf0_1 : (w.alloc (.cells #[.slice none 0 0, .slice none 0 0] 26)).frozen? ⟨w.heap.size, 0, none⟩ = false := by (first | go_cell | (simp [World.frozen?, World.alloc]; done) | rfl)
  have rf1_1 : (w.alloc (.cells #[.slice none 0 0, .slice none 0 0] 26)).frozen? ⟨w.heap.size, 1, none⟩ = false := by (first | go_cell | (simp [World.frozen?, World.alloc]; done) | rfl)
  have c1 : Below w.heap.size w (w.alloc (.cells #[.slice none 0 0, .slice none 0 0] 26)) := by go_grown
  have s1 : (w.alloc (.cells #[.slice none 0 0, .slice none 0 0] 26)).heap.size = w.heap.size + 1 := by simp
  generalize (w.alloc (.cells #[.slice none 0 0, .slice none 0 0] 26)) = w1 at r0_1 r1_1 rf0_1 rf1_1 c1 s1 ⊢
  refine (told_open _).mono ?_
  rintro e w2 ⟨rfl, hr, hl, b2⟩
  rw [s1] at hr hl
  have HR := hid hr
  clear hr
  have r0_2 : w2.cell? ⟨w.heap.size, 0, none⟩ = some (.slice none 0 0) := (b2.cell (p := ⟨w.heap.size, 0, none⟩) (by show w.heap.size < _; omega)).trans r0_1
  have r1_2 : w2.cell? ⟨w.heap.size, 1, none⟩ = some (.slice none 0 0) := (b2.cell (p := ⟨w.heap.size, 1, none⟩) (by show w.heap.size < _; omega)).trans r1_1
  have rf0_2 : w2.frozen? ⟨w.heap.size, 0, none⟩ = false := (b2.frozen (p := ⟨w.heap.size, 0, none⟩) (by show w.heap.size < _; omega)).trans rf0_1
  have rf1_2 : w2.frozen? ⟨w.heap.size, 1, none⟩ = false := (b2.frozen (p := ⟨w.heap.size, 1, none⟩) (by show w.heap.size < _; omega)).trans rf1_1
  have c2 : Below w.heap.size w w2 := c1.trans (b2.mono c1.size)
  go_wp2_with fail
  have e0 : ((w2.setCell ⟨w.heap.size, 0, none⟩ (.slice none 0 0)).setCell ⟨w.heap.size, 1, none⟩ (.slice (some ⟨w.heap.size + 1, 84, none⟩) 24 24)).cell? ⟨w.heap.size, 0, none⟩ = some (.slice none 0 0) := by go_cell
  have e1 : ((w2.setCell ⟨w.heap.size, 0, none⟩ (.slice none 0 0)).setCell ⟨w.heap.size, 1, none⟩ (.slice (some ⟨w.heap.size + 1, 84, none⟩) 24 24)).cell? ⟨w.heap.size, 1, none⟩ = some (.slice (some ⟨w.heap.size + 1, 84, none⟩) 24 24) := by go_cell
  refine bodyPost_ret (v := .agg #[.slice none 0 0, .slice (some ⟨w.heap.size + 1, 84, none⟩) 24 24]) (by simp [results, Try.results16, go_sem, e0, e1]) rfl ⟨⟨w.heap.size + 1, rfl, by omega, by simpa using hl, ?_⟩, ?_⟩
  · exact (HR.out.set (p := ⟨w.heap.size, 0, none⟩) (by show w.heap.size ≠ _; omega) _).set (p := ⟨w.heap.size, 1, none⟩) (by show w.heap.size ≠ _; omega) _
  · exact (c2.setCell (p := ⟨w.heap.size, 0, none⟩) (Nat.le_refl _) _).setCell (p := ⟨w.heap.size, 1, none⟩) (Nat.le_refl _) _
theorem Try.infoInt_Z : (Try.prog.info? 3).map (fun i => (i.zero, i.size, i.bytes)) = some (some (.int .i64 0), 1, 8) := by kernel_rfl
set_option maxRecDepth 100000 in
set_option maxHeartbeats 2000000 in
theorem specCOpen_any (w : World) : Calls Try.prog 17 #[] w fun e w' => (∃ g, e = .returned (.agg #[.slice none 0 0, .slice (some ⟨g, 0, none⟩) 24 24]) ∧ w.heap.size ≤ g ∧ g < w'.heap.size ∧ RowN w' g 0 (fun _ => 0)) ∧ Below w.heap.size w w' := by
  obtain ⟨i0, hi, hz0, hz1, hz2⟩ := info_parts Try.infoInt_Z
  have hby : i0.bytes * 24 ≤ 281474976710656 := by rw [hz2]; omega
  go_enter Try.func17, Try.ntmps17
  go_wp2_with (first | (at_make; refine wpList_make_full _ rfl (.const (.int .i64 24)) (.const (.int .i64 24)) 24 rfl (w.heap.size + 1) 3 i0 _ 1 Try.underlying24 hi hz0 hz1 .i64 .i64 _ _ 24 rfl rfl rfl rfl hby (by decide) (by simp) ?_; intro w1 hown hgrow; have r0 := hgrow.cell (show (w.alloc (.cells #[.slice none 0 0, .slice none 0 0] 26)).cell? ⟨w.heap.size, 0, none⟩ = some (.slice none 0 0) by go_cell) (by simp); have r1 := hgrow.cell (show (w.alloc (.cells #[.slice none 0 0, .slice none 0 0] 26)).cell? ⟨w.heap.size, 1, none⟩ = some (.slice none 0 0) by go_cell) (by simp); have rf0 : w1.frozen? ⟨w.heap.size, 0, none⟩ = false := (World.frozen?_of_block (w := (w.alloc (.cells #[.slice none 0 0, .slice none 0 0] 26))) (a := ⟨w.heap.size, 0, none⟩) (hgrow.block w.heap.size (by simp) (by simp))).trans (by (first | go_cell | (simp [World.frozen?, World.alloc]; done) | rfl)); have rf1 : w1.frozen? ⟨w.heap.size, 1, none⟩ = false := (World.frozen?_of_block (w := (w.alloc (.cells #[.slice none 0 0, .slice none 0 0] 26))) (a := ⟨w.heap.size, 1, none⟩) (hgrow.block w.heap.size (by simp) (by simp))).trans (by (first | go_cell | (simp [World.frozen?, World.alloc]; done) | rfl))))
  rw [World.size_alloc] at hown
  have hb1 : Below w.heap.size w w1 := ((Below.refl _ w).alloc (Nat.le_refl _) _).grown hgrow (by simp) (by simp)
  have hgl : w.heap.size + 1 < w1.heap.size := by have := (hown.lt (w.heap.size + 1) rfl).2; simpa using this
  have e0 : ((w1.setCell ⟨w.heap.size, 0, none⟩ (.slice none 0 0)).setCell ⟨w.heap.size, 1, none⟩ (.slice (some ⟨w.heap.size + 1, 0, none⟩) 24 24)).cell? ⟨w.heap.size, 0, none⟩ = some (.slice none 0 0) := by go_cell
  have e1 : ((w1.setCell ⟨w.heap.size, 0, none⟩ (.slice none 0 0)).setCell ⟨w.heap.size, 1, none⟩ (.slice (some ⟨w.heap.size + 1, 0, none⟩) 24 24)).cell? ⟨w.heap.size, 1, none⟩ = some (.slice (some ⟨w.heap.size + 1, 0, none⟩) 24 24) := by go_cell
  have hrow : RowN w1 (w.heap.size + 1) 0 (fun _ => 0) := fun j hj => by
    refine ⟨?_, ?_⟩
    · rw [Nat.zero_add, show j = j * 1 from (Nat.mul_one j).symm, hown.cellAt (j * 1) (by omega)]
      rcases j with _ | _ | _ | _ | _ | _ | _ | _ | _ | _ | _ | _ | _ | _ | _ | _ | _ | _ | _ | _ | _ | _ | _ | _ | j <;> first | omega | rfl | (simp [madeCells]; done) | (kernel_rfl)
    · exact hown.frozenAt _
  refine bodyPost_ret (v := .agg #[.slice none 0 0, .slice (some ⟨w.heap.size + 1, 0, none⟩) 24 24]) (by simp [results, Try.results17, go_sem, e0, e1]) rfl ⟨⟨w.heap.size + 1, rfl, by omega, by simpa using hgl, ?_⟩, (hb1.setCell (p := ⟨w.heap.size, 0, none⟩) (Nat.le_refl _) _).setCell (p := ⟨w.heap.size, 1, none⟩) (Nat.le_refl _) _⟩
  exact (hrow.set (p := ⟨w.heap.size, 0, none⟩) (by show w.heap.size ≠ _; omega) _).set (p := ⟨w.heap.size, 1, none⟩) (by show w.heap.size ≠ _; omega) _
/-! ### Marks of numbers at an offset -/
theorem RowN.put {w : World} {g o : Nat} {f : Nat → Int} (h : RowN w g o f) (j : Nat) (hj : j < 24) (v : Int) : RowN (w.setCell ⟨g, o + j, none⟩ (.int .i64 v)) g o (fun i => if i = j then v else f i) := by
  intro i hi
  refine ⟨?_, by rw [World.frozen?_setCell]; exact (h i hi).2⟩
  by_cases e : i = j
  · subst e
    simp only [if_true]
    exact World.cell?_setCell_same _ _ _ (h i hi).1
  · simp only [if_neg e]
    exact (World.cell?_setCell_other _ _ _ _ (by intro q; injection q with _ q; omega)).trans (h i hi).1
theorem RowN.congr {w : World} {g o : Nat} {f f' : Nat → Int} (h : RowN w g o f) (e : ∀ i, i < 24 → f i = f' i) : RowN w g o f' := fun i hi => by rw [← e i hi]; exact h i hi
theorem RowN.rd {w : World} {g o : Nat} {f : Nat → Int} (h : RowN w g o f) (hg : g < w.heap.size) : RdM 1 1 false w (.slice (some ⟨g, o, none⟩) 24 24) ((List.range 24).map fun i => ([f i], [])) := by
  refine ⟨some ⟨g, o, none⟩, 24, by simp, by simp [maxLen], fun _ => ⟨g, o, rfl, hg, fun i hi => ?_⟩⟩
  have hi' : i < 24 := by simpa using hi
  have hx : ((List.range 24).map fun i => (([f i], []) : KD)).getD i kd0 = ([f i], []) := by simp [List.getD_eq_getElem?_getD, hi']
  rw [hx]
  refine ⟨rfl, fun j hj => ?_, fun q => (by cases q), fun _ => rfl⟩
  obtain rfl : j = 0 := by omega
  rw [Nat.mul_one]
  exact (h i hi').1
end Go.Proofs.Ytanfmgigpiljpaa
