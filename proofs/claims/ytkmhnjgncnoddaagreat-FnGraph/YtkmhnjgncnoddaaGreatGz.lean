/- A graph of 24 rows without kin: both GraphOpen, markGraph, heldGraph of such: contracts. -/
import Derived.Test.YtkmhnjgncnoddaaGreatGs
import Derived.Test.YtkmhnjgncnoddaaGreatMark
import Derived.Test.YtkmhnjgncnoddaaGreatItP
namespace Go.Proofs.YtkmhnjgncnoddaaGreat
open Go.RowKit
attribute [local go_sem ↓] Go.wp_at_zero Go.wp_at_succ

/-- 24 values without kin lie in block g; their numbers are F's. -/
structure ZG (w : World) (g : Nat) (F : Nat → Int) : Prop where
  num : ∀ j, j < 24 → w.cell? ⟨g, j * 2, none⟩ = some (.int .i64 (F j))
  kin : ∀ j, j < 24 → w.cell? ⟨g, j * 2 + 1, none⟩ = some (.slice none 0 0)
  frz : ∀ o, w.frozen? ⟨g, o, none⟩ = false
  lt : g < w.heap.size
theorem ZG.later {w w' : World} {g : Nat} {F : Nat → Int} (h : ZG w g F) (hb : Below w.heap.size w w') : ZG w' g F :=
  ⟨fun j hj => (hb.cell (p := ⟨g, j * 2, none⟩) h.lt).trans (h.num j hj), fun j hj => (hb.cell (p := ⟨g, j * 2 + 1, none⟩) h.lt).trans (h.kin j hj), fun o => (hb.frozen (p := ⟨g, o, none⟩) h.lt).trans (h.frz o), Nat.lt_of_lt_of_le h.lt hb.size⟩
theorem ZG.kept {w w' : World} {g r : Nat} {F : Nat → Int} (h : ZG w g F) (hg : w.grownBy w' (some r)) (hne : g ≠ r) : ZG w' g F :=
  ⟨fun j hj => hg.cell (h.num j hj) (fun e => hne (Option.some.inj e)), fun j hj => hg.cell (h.kin j hj) (fun e => hne (Option.some.inj e)), fun o => (World.frozen?_of_block (w := w) (a := ⟨g, o, none⟩) (hg.block g h.lt (fun e => hne (Option.some.inj e)))).trans (h.frz o), Nat.lt_of_lt_of_le h.lt hg.size⟩
theorem grownZ {w w' w'' : World} {row : Option Nat} (h : w.grownBy w' row) (k : w'.grownBy w'' row) : w.grownBy w'' row :=
  ⟨k.os.trans h.os, k.tape.trans h.tape, k.output.trans h.output, Nat.le_trans h.size k.size, fun i hi hne => (k.block i (Nat.lt_of_lt_of_le hi h.size) hne).trans (h.block i hi hne)⟩
theorem grownN {w w' : World} {row : Option Nat} (h : w.grownBy w' none) : w.grownBy w' row := ⟨h.os, h.tape, h.output, h.size, fun k hk _ => h.block k hk (by simp)⟩
theorem grown_setZ (w : World) (a : Addr) (v : Value) : w.grownBy (w.setCell a v) (some a.block) :=
  ⟨rfl, rfl, rfl, by simp [World.setCell], fun k _ hne => Below.heap_setCell _ _ _ _ (fun e => hne (by rw [e]))⟩
def listZ (F : Nat → Int) : List ValD := (List.range 24).map fun j => (F j, [])
theorem ZG.rd {w : World} {g : Nat} {F : Nat → Int} (h : ZG w g F) (cap : Nat) : RdG w (.slice (some ⟨g, 0, none⟩) 24 cap) (listZ F) := by
  refine ⟨_, _, by simp [listZ]; rfl, by simp [listZ, maxLen], fun _ => ⟨g, 0, rfl, h.lt, fun i hi => ?_⟩⟩
  have hi' : i < 24 := by simpa [listZ] using hi
  have e : (listZ F).getD i valD0 = (F i, []) := by simp [listZ, List.getD_eq_getElem?_getD, hi']
  rw [e, Nat.zero_add]
  exact ⟨h.num i hi', _, h.kin i hi', Rd.nil _ _ _⟩
theorem listZ_eq {F G : Nat → Int} (h : ∀ j, j < 24 → F j = G j) : listZ F = listZ G := by
  unfold listZ
  exact List.map_congr_left fun j hj => by rw [h j (List.mem_range.1 hj)]
theorem ZG.set {w : World} {g : Nat} {F : Nat → Int} (h : ZG w g F) (i : Nat) (z : Int) : ZG (w.setCell ⟨g, i * 2, none⟩ (.int .i64 z)) g (fun j => if j = i then z else F j) := by
  refine ⟨fun j hj => ?_, fun j hj => ?_, fun o => by simpa using h.frz o, by simpa using h.lt⟩
  · by_cases e : j = i
    · subst e
      have h0 := h.num j hj
      simp only [if_true]
      go_cell
    · have h0 := h.num j hj
      rw [if_neg e]
      go_cell
  · have h0 := h.kin j hj
    go_cell

set_option maxRecDepth 100000 in
set_option maxHeartbeats 1000000 in
theorem specGOpen_any (w : World) : Calls Tryz.prog 94 #[] w fun e w' => (∃ g, e = .returned (.agg #[.slice (some ⟨g, 0, none⟩) 24 24]) ∧ w.heap.size ≤ g ∧ ZG w' g (fun _ => 0)) ∧ Below w.heap.size w w' := by
  obtain ⟨i0, hi, hz0, hz1, hz2⟩ := info_parts Tryz.info38
  have hby : i0.bytes * 24 ≤ 281474976710656 := by rw [hz2]; omega
  go_enter Tryz.func94, Tryz.ntmps94
  go_wp2_with (first | (at_make; refine wpList_make_full _ rfl (.const (.int .i64 24)) (.const (.int .i64 24)) 23 rfl (w.heap.size + 1) 38 i0 _ 2 Tryz.underlying23 hi hz0 hz1 .i64 .i64 _ _ 24 rfl rfl rfl rfl hby (by decide) (by simp) ?_; intro w1 hown hgrow; have r0 := hgrow.cell (show (w.alloc (.cells #[.slice none 0 0] 25)).cell? ⟨w.heap.size, 0, none⟩ = some (.slice none 0 0) by go_cell) (by simp); have r1 : w1.frozen? ⟨w.heap.size, 0, none⟩ = false := (World.frozen?_of_block (w := w.alloc (.cells #[.slice none 0 0] 25)) (a := ⟨w.heap.size, 0, none⟩) (hgrow.block w.heap.size (by simp) (by simp))).trans (by (first | go_cell | (simp [World.frozen?, World.alloc]; done) | rfl))))
  rw [World.size_alloc] at hown
  have hb1 : Below w.heap.size w w1 := ((Below.refl _ w).alloc (Nat.le_refl _) _).grown hgrow (by simp) (by simp)
  have z0 : (w1.setCell ⟨w.heap.size, 0, none⟩ (.slice (some ⟨w.heap.size + 1, 0, none⟩) 24 24)).cell? ⟨w.heap.size, 0, none⟩ = some (.slice (some ⟨w.heap.size + 1, 0, none⟩) 24 24) := by go_cell
  refine bodyPost_ret (v := .agg #[.slice (some ⟨w.heap.size + 1, 0, none⟩) 24 24]) (by simp [results, Tryz.results94, go_sem, z0]) rfl ⟨⟨w.heap.size + 1, rfl, by omega, ?_⟩, hb1.setCell (p := ⟨w.heap.size, 0, none⟩) (Nat.le_refl _) _⟩
  refine ⟨fun j hj => ?_, fun j hj => ?_, fun o => ?_, ?_⟩
  · rw [World.cell?_of_block (w := w1) (Below.heap_setCell _ _ _ _ (by show w.heap.size + 1 ≠ w.heap.size; omega)), hown.cellAt (j * 2) (by omega)]
    rcases j with _ | _ | _ | _ | _ | _ | _ | _ | _ | _ | _ | _ | _ | _ | _ | _ | _ | _ | _ | _ | _ | _ | _ | _ | j <;> first | omega | rfl | (simp [madeCells]; done) | (kernel_rfl)
  · rw [World.cell?_of_block (w := w1) (Below.heap_setCell _ _ _ _ (by show w.heap.size + 1 ≠ w.heap.size; omega)), hown.cellAt (j * 2 + 1) (by omega)]
    rcases j with _ | _ | _ | _ | _ | _ | _ | _ | _ | _ | _ | _ | _ | _ | _ | _ | _ | _ | _ | _ | _ | _ | _ | _ | j <;> first | omega | rfl | (simp [madeCells]; done) | (kernel_rfl)
  · rw [World.frozen?_of_block (w := w1) (Below.heap_setCell _ _ _ _ (by show w.heap.size + 1 ≠ w.heap.size; omega))]
    exact hown.frozenAt o
  · have := (hown.lt (w.heap.size + 1) rfl).2
    simpa using this
set_option maxRecDepth 100000 in
set_option maxHeartbeats 1000000 in
theorem markValS_z (g : Nat) (F : Nat → Int) (k : Int) (w : World) (h : ZG w g F) (hk : 0 ≤ k) (hk2 : k ≤ 1000000) :
    Calls Tryz.prog 54 #[.slice (some ⟨g, 0, none⟩) 24 24, .int .i64 k] w fun e w' => e = .returned (.int .i64 (k + 24)) ∧ ZG w' g (fun j => k + j) ∧ w.grownBy w' (some g) := by
  have HZ := hid h
  clear h
  go_enter Tryz.func54, Tryz.ntmps54
  go_wp2
  go_loopw [1, 5] (fun kk i wr => ∃ (j : Nat) (F' : Nat → Int), j ≤ 24 ∧ i = .int .i64 j ∧ kk = .int .i64 (k + (j : Int)) ∧ Hid (∀ t, t < j → F' t = k + t) ∧ Hid (ZG wr g F') ∧ w.grownBy wr (some g)) (fun _ i _ => 24 - (intOf i).toNat)
  case atStart => exact ⟨0, F, by omega, rfl, by simp, hid (fun t ht => absurd ht (Nat.not_lt_zero _)), hid HZ.out, World.grownBy.refl _ _⟩
  case round =>
    obtain ⟨j, F', hj, rfl, rfl, hF, hz, hgr⟩ := hrel
    by_cases hlt : j < 24
    · have c0 := hz.out.num j hlt
      have c1 := hz.out.kin j hlt
      have f0 := hz.out.frz (j * 2)
      have hnx := hid (hz.out.set j (k + (j : Int)))
      have HGR := hid hgr
      have hset := hid (grown_setZ wr ⟨g, j * 2, none⟩ (.int .i64 (k + (j : Int))))
      clear hgr
      go_wp2_with fail
      refine (mark_any (.slice none 0 0) [] (k + (j : Int) + 1) 0 _ (World.ownsRow_nil _ _ _ _) (by omega) (by omega) (by simp)).mono ?_
      rintro e w2 ⟨rfl, _, g2⟩
      have HZ2 := hid (hnx.out.later (Below.of_grown g2 (Nat.le_refl _) (fun _ e => by cases e)))
      have HG2 := hid (grown_of_below (Below.of_grown g2 (Nat.le_refl _) (fun _ e => by cases e)))
      go_wp2
      go_roundw
      case rel =>
        refine ⟨j + 1, _, by omega, by go_num, by go_num, ?_, hid HZ2.out, ?_⟩
        · refine hid (fun t ht => ?_)
          by_cases e : t = j
          · subst e; simp
          · simp only [e, if_false]
            exact hF.out t (by omega)
        · exact grownZ (grownZ HGR.out hset.out) (grownN HG2.out)
      case measure => simp [intOf]; omega
    · obtain rfl : j = 24 := by omega
      go_wp2
      go_ret
      refine ⟨by simp, ?_, hgr⟩
      have hz' := hz.out
      exact ⟨fun t ht => by rw [hz'.num t ht, hF.out t ht], hz'.kin, hz'.frz, hz'.lt⟩

set_option maxRecDepth 100000 in
set_option maxHeartbeats 1000000 in
theorem heldValS_z (g : Nat) (F : Nat → Int) (k : Int) (w : World) (h : ZG w g F) (hF : ∀ j : Nat, j < 24 → F j = k + (j : Int)) (hk : 0 ≤ k) (hk2 : k ≤ 1000000) :
    Calls Tryz.prog 55 #[.slice (some ⟨g, 0, none⟩) 24 24, .int .i64 k] w fun e w' => e = .returned (.int .i64 (k + 24)) ∧ Below w.heap.size w w' := by
  have HZ := hid h
  have HF := hid hF
  clear h hF
  go_enter Tryz.func55, Tryz.ntmps55
  go_wp2
  go_loopw [1, 5] (fun kk i wr => ∃ j : Nat, j ≤ 24 ∧ i = .int .i64 j ∧ kk = .int .i64 (k + (j : Int)) ∧ Below w.heap.size w wr) (fun _ i _ => 24 - (intOf i).toNat)
  case atStart => exact ⟨0, by omega, rfl, by simp, Below.refl _ _⟩
  case round =>
    obtain ⟨j, hj, rfl, rfl, hbel⟩ := hrel
    by_cases hlt : j < 24
    · have hz := HZ.out.later hbel
      have c0 := hz.num j hlt
      have c1 := hz.kin j hlt
      rw [HF.out j hlt] at c0
      clear hz
      go_wp2_with fail
      refine (held_any (.slice none 0 0) 0 (k + (j : Int) + 1) _ (Rd.nil _ _ _) (by omega) (by omega) (by omega)).mono ?_
      rintro e w2 ⟨rfl, rfl⟩
      go_wp2
      all_goals first
        | (exfalso; omega)
        | (go_roundw
           case rel => exact ⟨j + 1, by omega, by go_num, by go_num, hbel⟩
           case measure => simp [intOf]; omega)
    · obtain rfl : j = 24 := by omega
      go_wp2
      go_ret
      exact ⟨by simp, hbel⟩

set_option maxHeartbeats 1000000 in
theorem markGraph_z (g : Nat) (F : Nat → Int) (k : Int) (w : World) (h : ZG w g F) (hk : 0 ≤ k) (hk2 : k ≤ 1000000) :
    Calls Tryz.prog 20 #[.agg #[.slice (some ⟨g, 0, none⟩) 24 24], .int .i64 k] w fun e w' => e = .returned (.int .i64 (k + 24)) ∧ ZG w' g (fun j => k + j) ∧ w.grownBy w' (some g) := by
  have HZ := hid (h.later (show Below w.heap.size w (w.alloc (.cells #[.slice (some ⟨g, 0, none⟩) 24 24] 25)) from (Below.refl _ w).alloc (Nat.le_refl _) _))
  clear h
  go_enter Tryz.func20, Tryz.ntmps20
  go_wp2_with fail
  refine (markValS_z g F k _ HZ.out hk hk2).mono ?_
  rintro e w1 ⟨rfl, hz, hg⟩
  have HZ1 := hid hz
  have HG := hid (grownZ (World.grownBy_alloc w (.cells #[.slice (some ⟨g, 0, none⟩) 24 24] 25) (some g)) hg)
  clear hz hg
  go_wp2
  go_ret
  exact ⟨by simp, HZ1.out, HG.out⟩
set_option maxHeartbeats 1000000 in
theorem heldGraph_z (g : Nat) (F : Nat → Int) (k : Int) (w : World) (h : ZG w g F) (hF : ∀ j : Nat, j < 24 → F j = k + (j : Int)) (hk : 0 ≤ k) (hk2 : k ≤ 1000000) :
    Calls Tryz.prog 21 #[.agg #[.slice (some ⟨g, 0, none⟩) 24 24], .int .i64 k] w fun e w' => e = .returned (.int .i64 (k + 24)) ∧ Below w.heap.size w w' := by
  have HZ := hid (h.later (show Below w.heap.size w (w.alloc (.cells #[.slice (some ⟨g, 0, none⟩) 24 24] 25)) from (Below.refl _ w).alloc (Nat.le_refl _) _))
  have HF := hid hF
  clear h hF
  go_enter Tryz.func21, Tryz.ntmps21
  go_wp2_with fail
  refine (heldValS_z g F k _ HZ.out HF.out hk hk2).mono ?_
  rintro e w1 ⟨rfl, b1⟩
  have c1 : Below w.heap.size w w1 := (Below.trans (by go_grown) (b1.mono (by first | omega | (simp; done) | (simp; omega))))
  go_wp2
  all_goals first | (exfalso; omega) | (go_ret; exact ⟨by simp, c1⟩)
end Go.Proofs.YtkmhnjgncnoddaaGreat
