/- A graph of 24 rows without kin: both GraphOpen, markGraph, heldGraph of such: contracts. -/
import Derived.Test.YthmbhcgecnkgeaaGs
import Derived.Test.YthmbhcgecnkgeaaMark
import Derived.Test.YthmbhcgecnkgeaaItP
namespace Go.Proofs.Ythmbhcgecnkgeaa
open Go.RowKit
attribute [local go_sem ↓] Go.wp_at_zero Go.wp_at_succ

/-- 24 values without kin lie in block g; their numbers are F's. -/
structure ZG (w : World) (g : Nat) (F : Nat → Int) : Prop where
  num : ∀ j, j < 24 → w.cell? ⟨g, j * 2, none⟩ = some (.int .i64 (F j))
  kin : ∀ j, j < 24 → w.cell? ⟨g, j * 2 + 1, none⟩ = some (.slice none 0 0)
  frz : ∀ o, w.frozen? ⟨g, o, none⟩ = false
  lt : g < w.heap.size
theorem ZG.later {w w' : World} {g : Nat} {F : Nat → Int} (h : ZG w g F) (hb : Below w.heap.size w w') : ZG w' g F :=
  ⟨fun j hj => (hb.cell (p := ⟨g, j * 2, none⟩) h.lt).trans (h.num j hj), fun j hj => (hb.cell (p := ⟨g, j * 2 + 1, none⟩) h.lt).trans (h.kin j hj), fun o => (hb.frozen (p := ⟨g, o, none⟩) h.lt).trans (h.frz o), Nat.lt_of_lt_of_le h.lt hb.size⟩
theorem ZG.kept {w w' : World} {g r : Nat} {F : Nat → Int} (h : ZG w g F) (hg : w.grownBy w' (some r)) (hne : g ≠ r) : ZG w' g F :=
  ⟨fun j hj => hg.cell (h.num j hj) (fun e => hne (Option.some.inj e)), fun j hj => hg.cell (h.kin j hj) (fun e => hne (Option.some.inj e)), fun o => (World.frozen?_of_block (w := w) (a := ⟨g, o, none⟩) (hg.block g h.lt (fun e => hne (Option.some.inj e)))).trans (h.frz o), Nat.lt_of_lt_of_le h.lt hg.size⟩
theorem grownZ {w w' w'' : World} {row : Option Nat} (h : w.grownBy w' row) (k : w'.grownBy w'' row) : w.grownBy w'' row :=
  ⟨k.os.trans h.os, k.tape.trans h.tape, k.output.trans h.output, Nat.le_trans h.size k.size, fun i hi hne => (k.block i (Nat.lt_of_lt_of_le hi h.size) hne).trans (h.block i hi hne)⟩
theorem grownN {w w' : World} {row : Option Nat} (h : w.grownBy w' none) : w.grownBy w' row := ⟨h.os, h.tape, h.output, h.size, fun k hk _ => h.block k hk (by simp)⟩
theorem grown_setZ (w : World) (a : Addr) (v : Value) : w.grownBy (w.setCell a v) (some a.block) :=
  ⟨rfl, rfl, rfl, by simp [World.setCell], fun k _ hne => Below.heap_setCell _ _ _ _ (fun e => hne (by rw [e]))⟩
def listZ (F : Nat → Int) : List ValD := (List.range 24).map fun j => (F j, [])
theorem ZG.rd {w : World} {g : Nat} {F : Nat → Int} (h : ZG w g F) (cap : Nat) : RdG w (.slice (some ⟨g, 0, none⟩) 24 cap) (listZ F) := by
  refine ⟨_, _, by simp [listZ]; rfl, by simp [listZ, maxLen], fun _ => ⟨g, 0, rfl, h.lt, fun i hi => ?_⟩⟩
  have hi' : i < 24 := by simpa [listZ] using hi
  have e : (listZ F).getD i valD0 = (F i, []) := by simp [listZ, List.getD_eq_getElem?_getD, hi']
  rw [e, Nat.zero_add]
  exact ⟨h.num i hi', _, h.kin i hi', Rd.nil _ _ _⟩
theorem listZ_eq {F G : Nat → Int} (h : ∀ j, j < 24 → F j = G j) : listZ F = listZ G := by
  unfold listZ
  exact List.map_congr_left fun j hj => by rw [h j (List.mem_range.1 hj)]
theorem ZG.set {w : World} {g : Nat} {F : Nat → Int} (h : ZG w g F) (i : Nat) (z : Int) : ZG (w.setCell ⟨g, i * 2, none⟩ (.int .i64 z)) g (fun j => if j = i then z else F j) := by
  refine ⟨fun j hj => ?_, fun j hj => ?_, fun o => by simpa using h.frz o, by simpa using h.lt⟩
  · by_cases e : j = i
    · subst e
      have h0 := h.num j hj
      simp only [if_true]
      go_cell
    · have h0 := h.num j hj
      rw [if_neg e]
      go_cell
  · have h0 := h.kin j hj
    go_cell

set_option maxRecDepth 100000 in
set_option maxHeartbeats 1000000 in
theorem specGOpen_any (w : World) : Calls Try.prog 24 #[] w fun e w' => (∃ g, e = .returned (.agg #[.slice (some ⟨g, 0, none⟩) 24 24]) ∧ w.heap.size ≤ g ∧ ZG w' g (fun _ => 0)) ∧ Below w.heap.size w w' := by
  obtain ⟨i0, hi, hz0, hz1, hz2⟩ := info_parts Try.info30
  have hby : i0.bytes * 24 ≤ 281474976710656 := by rw [hz2]; omega
  go_enter Try.func24, Try.ntmps24
  go_wp2_with (first | (at_make; refine wpList_make_full _ rfl (.const (.int .i64 24)) (.const (.int .i64 24)) 37 rfl (w.heap.size + 1) 30 i0 _ 2 Try.underlying37 hi hz0 hz1 .i64 .i64 _ _ 24 rfl rfl rfl rfl hby (by decide) (by simp) ?_; intro w1 hown hgrow; have r0 := hgrow.cell (show (w.alloc (.cells #[.slice none 0 0] 39)).cell? ⟨w.heap.size, 0, none⟩ = some (.slice none 0 0) by go_cell) (by simp); have r1 : w1.frozen? ⟨w.heap.size, 0, none⟩ = false := (World.frozen?_of_block (w := w.alloc (.cells #[.slice none 0 0] 39)) (a := ⟨w.heap.size, 0, none⟩) (hgrow.block w.heap.size (by simp) (by simp))).trans (by (first | go_cell | (simp [World.frozen?, World.alloc]; done) | rfl))))
  rw [World.size_alloc] at hown
  have hb1 : Below w.heap.size w w1 := ((Below.refl _ w).alloc (Nat.le_refl _) _).grown hgrow (by simp) (by simp)
  have z0 : (w1.setCell ⟨w.heap.size, 0, none⟩ (.slice (some ⟨w.heap.size + 1, 0, none⟩) 24 24)).cell? ⟨w.heap.size, 0, none⟩ = some (.slice (some ⟨w.heap.size + 1, 0, none⟩) 24 24) := by go_cell
  refine bodyPost_ret (v := .agg #[.slice (some ⟨w.heap.size + 1, 0, none⟩) 24 24]) (by simp [results, Try.results24, go_sem, z0]) rfl ⟨⟨w.heap.size + 1, rfl, by omega, ?_⟩, hb1.setCell (p := ⟨w.heap.size, 0, none⟩) (Nat.le_refl _) _⟩
  refine ⟨fun j hj => ?_, fun j hj => ?_, fun o => ?_, ?_⟩
  · rw [World.cell?_of_block (w := w1) (Below.heap_setCell _ _ _ _ (by show w.heap.size + 1 ≠ w.heap.size; omega)), hown.cellAt (j * 2) (by omega)]
    rcases j with _ | _ | _ | _ | _ | _ | _ | _ | _ | _ | _ | _ | _ | _ | _ | _ | _ | _ | _ | _ | _ | _ | _ | _ | j <;> first | omega | rfl | (simp [madeCells]; done) | (kernel_rfl)
  · rw [World.cell?_of_block (w := w1) (Below.heap_setCell _ _ _ _ (by show w.heap.size + 1 ≠ w.heap.size; omega)), hown.cellAt (j * 2 + 1) (by omega)]
    rcases j with _ | _ | _ | _ | _ | _ | _ | _ | _ | _ | _ | _ | _ | _ | _ | _ | _ | _ | _ | _ | _ | _ | _ | _ | j <;> first | omega | rfl | (simp [madeCells]; done) | (kernel_rfl)
  · rw [World.frozen?_of_block (w := w1) (Below.heap_setCell _ _ _ _ (by show w.heap.size + 1 ≠ w.heap.size; omega))]
    exact hown.frozenAt o
  · have := (hown.lt (w.heap.size + 1) rfl).2
    simpa using this
set_option maxRecDepth 100000 in
set_option maxHeartbeats 1000000 in
theorem implGOpen_any (w : World) : Calls Try.prog 21 #[] w fun e w' => (∃ g, e = .returned (.agg #[.slice (some ⟨g, 0, none⟩) 24 24]) ∧ w.heap.size ≤ g ∧ ZG w' g (fun _ => 0)) ∧ Below w.heap.size w w' := by
  go_enter Try.func21, Try.ntmps21
  go_wp2
  refine bodyPost_ret (v := .agg #[.slice (some ⟨w.heap.size + 1, 0, none⟩) 24 24]) (by simp [results, Try.results21, go_sem]) rfl ⟨⟨w.heap.size + 1, rfl, by omega, ?_⟩, by go_grown⟩
  refine ⟨fun j hj => ?_, fun j hj => ?_, fun o => by (first | go_cell | (simp [World.frozen?, World.alloc]; done) | rfl), by simp⟩
  · rcases j with _ | _ | _ | _ | _ | _ | _ | _ | _ | _ | _ | _ | _ | _ | _ | _ | _ | _ | _ | _ | _ | _ | _ | _ | j <;> first | omega | rfl | (simp; done) | go_cell
  · rcases j with _ | _ | _ | _ | _ | _ | _ | _ | _ | _ | _ | _ | _ | _ | _ | _ | _ | _ | _ | _ | _ | _ | _ | _ | j <;> first | omega | rfl | (simp; done) | go_cell

end Go.Proofs.Ythmbhcgecnkgeaa
