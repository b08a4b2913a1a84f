/- A tier while it does something: how it lies in memory, how it is made and told: contracts. Written by a program (gqd.py). -/
import Derived.Test.YtddpoheoecafjaaGreatQc
import Derived.Test.YtddpoheoecafjaaGreatXr
import Derived.Test.YtddpoheoecafjaaGreatXs
import Derived.Test.YtddpoheoecafjaaGreatYv
import Derived.Deep.Cut
import Derived.Deep.RegionHeld3
namespace Go.Proofs.YtddpoheoecafjaaGreat
open Go.RowKit
attribute [local go_sem ↓] Go.wp_at_zero Go.wp_at_succ

/-- What stands around the shelf of a tier that does something: number, life, request, joined parts, what it waits for; what it sent and told. -/
abbrev frK (i0 i1 i2 : Int) (q0 q1 : Bool) (wt sv tv : Value) : Fr := { t := 124, pre := [.int .i64 i0, .int .i64 i1, .int .i64 i2, .bool q0, .bool q1, wt], post := [sv, tv] }
theorem ldH_fr {w : World} {g : Nat} {fr : Fr} {X : List (Option KD)} {F : List KD} (h : ShAt w g fr X F) : (ldH (.pointer (some ⟨g, fr.pre.length, none⟩))).run Tryz.prog w = .ok (.agg (cellsH X F).toArray) w :=
  run_loadAt_mid w g fr.pre.length 113 _ _ (fun j v hv => by
    have hj : j < (cellsH X F).length := (List.getElem?_eq_some_iff.1 hv).1
    rw [cell_of_row w g _ _ _ _ h.row, List.getElem?_toArray, cellsS, List.getElem?_append_right (by omega), show fr.pre.length + j - fr.pre.length = j from by omega, ← List.append_assoc, List.getElem?_append_left (by exact hj)]
    exact hv) Tryz.underlying113 rfl (by rw [Tryz.infoX_shelf, cellsH_length h.x4 h.f24])
theorem ShAt.pre {w : World} {g : Nat} {fr : Fr} {X : List (Option KD)} {F : List KD} (h : ShAt w g fr X F) (j : Nat) (v : Value) (hv : fr.pre[j]? = some v) : w.cell? ⟨g, j, none⟩ = some v := by
  have hj : j < fr.pre.length := (List.getElem?_eq_some_iff.1 hv).1
  rw [cell_of_row w g _ _ _ _ h.row, List.getElem?_toArray, cellsS, List.getElem?_append_left hj]
  exact hv
theorem ShAt.post {w : World} {g : Nat} {fr : Fr} {X : List (Option KD)} {F : List KD} (h : ShAt w g fr X F) (j : Nat) (v : Value) (hv : fr.post[j]? = some v) : w.cell? ⟨g, fr.pre.length + 108 + j, none⟩ = some v := by
  have hl := spotsC_length X
  have hf := floC_length F
  have hx := h.x4
  have h24 := h.f24
  rw [cell_of_row w g _ _ _ _ h.row, List.getElem?_toArray, cellsS, List.getElem?_append_right (by omega), List.getElem?_append_right (by omega), List.getElem?_append_right (by omega)]
  rw [show fr.pre.length + 108 + j - fr.pre.length - (spotsC X).length - (floC F).length = j from by omega]
  exact hv
/-- Built of its parts. -/
def bdK (parts : Array (Nat × Value)) : Sem Value := Instr.build 124 parts
theorem bdK_open (parts : Array (Nat × Value)) : Instr.build 124 parts = bdK parts := rfl
def shN (f : Nat → Value) : List Value := (List.range 108).map f
theorem bdK_N (i0 i1 i2 : Int) (q0 q1 : Bool) (ty : TypeId) (x : Value) (f : Nat → Value) (w : World) :
    (bdK #[(0, .int .i64 i0), (1, .int .i64 i1), (2, .int .i64 i2), (3, .agg #[.bool q0, .bool q1]), (4, .iface ty x), (5, .agg (shN f).toArray)]).run Tryz.prog w = .ok (.agg (([.int .i64 i0, .int .i64 i1, .int .i64 i2, .bool q0, .bool q1, .iface ty x] : List Value) ++ (shN f ++ ([.slice none 0 0, .slice none 0 0] : List Value))).toArray) w := by
  simp only [bdK]
  kernel_rfl
theorem shN_of {C : List Value} (h : C.length = 108) : C = shN (fun i => C.getD i undef) := by
  apply List.ext_getElem?
  intro i
  by_cases hi : i < 108
  · simp [shN, List.getElem?_range hi, List.getElem?_eq_getElem (show i < C.length by omega), List.getD_eq_getElem?_getD]
  · rw [List.getElem?_eq_none (by omega), List.getElem?_eq_none (by simp [shN]; omega)]
theorem bdK_run (i0 i1 i2 : Int) (q0 q1 : Bool) (ty : TypeId) (x : Value) {X : List (Option KD)} {F : List KD} (hx : X.length = 4) (hf : F.length = 24) (w : World) :
    (bdK #[(0, .int .i64 i0), (1, .int .i64 i1), (2, .int .i64 i2), (3, .agg #[.bool q0, .bool q1]), (4, .iface ty x), (5, .agg (cellsH X F).toArray)]).run Tryz.prog w = .ok (.agg (cellsS (frK i0 i1 i2 q0 q1 (.iface ty x) (.slice none 0 0) (.slice none 0 0)) X F).toArray) w := by
  have e := shN_of (cellsH_length hx hf)
  have h := bdK_N i0 i1 i2 q0 q1 ty x (fun i => (cellsH X F).getD i undef) w
  rw [← e] at h
  rw [h]
  simp [cellsS, cellsH]
attribute [local go_sem ↓] ldH_open stH_open zeroH bdK_open
/-- A tier that does something lies in a block of its own. -/
def CutK (B : Nat) (w : World) (fr : Fr) (X : List (Option KD)) (F : List KD) (s : Value) (wx : World) : Prop := ∃ K, s = .pointer (some ⟨K, 0, none⟩) ∧ B ≤ K ∧ ShAt wx K fr X F ∧ Below w.heap.size w wx
theorem cutK_new {w w5 : World} {fr : Fr} {X : List (Option KD)} {F : List KD} (h4 : X.length = 4) (h24 : F.length = 24) (hb : Below w.heap.size w w5) :
    CutK w.heap.size w fr X F (.pointer (some ⟨w5.heap.size, 0, none⟩)) (w5.alloc (.cells (cellsS fr X F).toArray fr.t)) :=
  ⟨w5.heap.size, rfl, hb.size, ⟨h4, h24, heap_alloc_new w5 _⟩, hb.alloc hb.size _⟩
set_option maxRecDepth 100000 in
set_option maxHeartbeats 4000000 in
theorem keeperOf_any (i0 i1 i2 : Int) (q0 q1 q2 q3 : Bool) (i3 i4 i5 i6 i7 : Int) (va0 va1 : Value) (I F : List KD) (ty : TypeId) (x : Value) (w : World) (ha : RSCache w va0 va1 I F) (hok : okC I F = true)
    (hwt : ∀ W, Calls Tryz.prog 67 #[.agg #[.bool q2, .bool q3, .int .i64 i3, .int .i64 i4, .int .i64 i5, .int .i64 i6, .int .i64 i7]] W fun e w' => e = .returned (.iface ty x) ∧ Below W.heap.size W w') :
    Calls Tryz.prog 73 #[.agg #[.int .i64 i0, .int .i64 i1, .int .i64 i2, .bool q0, .bool q1, .bool q2, .bool q3, .int .i64 i3, .int .i64 i4, .int .i64 i5, .int .i64 i6, .int .i64 i7, va0, va1]] w fun e w' => ∃ s, e = .returned s ∧ CutK w.heap.size w (frK i0 i1 i2 q0 q1 (.iface ty x) (.slice none 0 0) (.slice none 0 0)) (itemsX I) F s w' := by
  have HA := hid ha
  have HWT := hid hwt
  have HOK := hid hok
  have h24 := (okC_iff.1 hok).1
  have H24 := hid h24
  obtain ⟨ao0, ao1, ac0, ac1, rfl, rfl⟩ := ha.open
  clear ha hwt hok h24
  go_enter Tryz.func73, Tryz.ntmps73
  go_wp2_with fail
  generalize hW1 : (w.alloc (.cells #[.int .i64 i0, .int .i64 i1, .int .i64 i2, .bool q0, .bool q1, .bool q2, .bool q3, .int .i64 i3, .int .i64 i4, .int .i64 i5, .int .i64 i6, .int .i64 i7, .slice ao0 I.length ac0, .slice ao1 F.length ac1] 38)) = w1
  have a0_1 : w1.cell? ⟨w.heap.size, 0, none⟩ = some (.int .i64 i0) := by subst hW1; go_cell
  have a1_1 : w1.cell? ⟨w.heap.size, 1, none⟩ = some (.int .i64 i1) := by subst hW1; go_cell
  have a2_1 : w1.cell? ⟨w.heap.size, 2, none⟩ = some (.int .i64 i2) := by subst hW1; go_cell
  have a3_1 : w1.cell? ⟨w.heap.size, 3, none⟩ = some (.bool q0) := by subst hW1; go_cell
  have a4_1 : w1.cell? ⟨w.heap.size, 4, none⟩ = some (.bool q1) := by subst hW1; go_cell
  have a5_1 : w1.cell? ⟨w.heap.size, 5, none⟩ = some (.bool q2) := by subst hW1; go_cell
  have a6_1 : w1.cell? ⟨w.heap.size, 6, none⟩ = some (.bool q3) := by subst hW1; go_cell
  have a7_1 : w1.cell? ⟨w.heap.size, 7, none⟩ = some (.int .i64 i3) := by subst hW1; go_cell
  have a8_1 : w1.cell? ⟨w.heap.size, 8, none⟩ = some (.int .i64 i4) := by subst hW1; go_cell
  have a9_1 : w1.cell? ⟨w.heap.size, 9, none⟩ = some (.int .i64 i5) := by subst hW1; go_cell
  have a10_1 : w1.cell? ⟨w.heap.size, 10, none⟩ = some (.int .i64 i6) := by subst hW1; go_cell
  have a11_1 : w1.cell? ⟨w.heap.size, 11, none⟩ = some (.int .i64 i7) := by subst hW1; go_cell
  have a12_1 : w1.cell? ⟨w.heap.size, 12, none⟩ = some (.slice ao0 I.length ac0) := by subst hW1; go_cell
  have a13_1 : w1.cell? ⟨w.heap.size, 13, none⟩ = some (.slice ao1 F.length ac1) := by subst hW1; go_cell
  have al_1 : w.heap.size < w1.heap.size := by subst hW1; first | (simp; done) | (simp; omega)
  have c1 : Below w.heap.size w w1 := by subst hW1; go_grown
  have s1 : w1.heap.size = w.heap.size + 1 := by subst hW1; simp
  clear hW1
  have qa0_1 := cell_regrown a0_1
  have qa1_1 := cell_regrown a1_1
  have qa2_1 := cell_regrown a2_1
  have qa3_1 := cell_regrown a3_1
  have qa4_1 := cell_regrown a4_1
  have qa5_1 := cell_regrown a5_1
  have qa6_1 := cell_regrown a6_1
  have qa7_1 := cell_regrown a7_1
  have qa8_1 := cell_regrown a8_1
  have qa9_1 := cell_regrown a9_1
  have qa10_1 := cell_regrown a10_1
  have qa11_1 := cell_regrown a11_1
  have qa12_1 := cell_regrown a12_1
  have qa13_1 := cell_regrown a13_1
  refine (shelfOf_any _ _ I F _ (HA.out.later c1).h0 (HA.out.later c1).h1).mono ?_
  rintro e w2 ⟨⟨X, G, hx, hg, rfl, hc⟩, b2⟩
  obtain ⟨hX, hG⟩ := hc HOK.out
  subst hX
  have hG' := hG.symm
  subst hG'
  have d2 : Below w1.heap.size w1 w2 := (Below.trans (by go_grown) (b2.mono (by first | omega | (simp; done) | (simp; omega))))
  have c2 : Below w.heap.size w w2 := c1.trans (d2.mono c1.size)
  have a0_2 : w2.cell? ⟨w.heap.size, 0, none⟩ = some (.int .i64 i0) := (by rw [b2.cell (by first | omega | (simp; done) | (simp; omega))]; go_cell)
  have a1_2 : w2.cell? ⟨w.heap.size, 1, none⟩ = some (.int .i64 i1) := (by rw [b2.cell (by first | omega | (simp; done) | (simp; omega))]; go_cell)
  have a2_2 : w2.cell? ⟨w.heap.size, 2, none⟩ = some (.int .i64 i2) := (by rw [b2.cell (by first | omega | (simp; done) | (simp; omega))]; go_cell)
  have a3_2 : w2.cell? ⟨w.heap.size, 3, none⟩ = some (.bool q0) := (by rw [b2.cell (by first | omega | (simp; done) | (simp; omega))]; go_cell)
  have a4_2 : w2.cell? ⟨w.heap.size, 4, none⟩ = some (.bool q1) := (by rw [b2.cell (by first | omega | (simp; done) | (simp; omega))]; go_cell)
  have a5_2 : w2.cell? ⟨w.heap.size, 5, none⟩ = some (.bool q2) := (by rw [b2.cell (by first | omega | (simp; done) | (simp; omega))]; go_cell)
  have a6_2 : w2.cell? ⟨w.heap.size, 6, none⟩ = some (.bool q3) := (by rw [b2.cell (by first | omega | (simp; done) | (simp; omega))]; go_cell)
  have a7_2 : w2.cell? ⟨w.heap.size, 7, none⟩ = some (.int .i64 i3) := (by rw [b2.cell (by first | omega | (simp; done) | (simp; omega))]; go_cell)
  have a8_2 : w2.cell? ⟨w.heap.size, 8, none⟩ = some (.int .i64 i4) := (by rw [b2.cell (by first | omega | (simp; done) | (simp; omega))]; go_cell)
  have a9_2 : w2.cell? ⟨w.heap.size, 9, none⟩ = some (.int .i64 i5) := (by rw [b2.cell (by first | omega | (simp; done) | (simp; omega))]; go_cell)
  have a10_2 : w2.cell? ⟨w.heap.size, 10, none⟩ = some (.int .i64 i6) := (by rw [b2.cell (by first | omega | (simp; done) | (simp; omega))]; go_cell)
  have a11_2 : w2.cell? ⟨w.heap.size, 11, none⟩ = some (.int .i64 i7) := (by rw [b2.cell (by first | omega | (simp; done) | (simp; omega))]; go_cell)
  have a12_2 : w2.cell? ⟨w.heap.size, 12, none⟩ = some (.slice ao0 I.length ac0) := (by rw [b2.cell (by first | omega | (simp; done) | (simp; omega))]; go_cell)
  have a13_2 : w2.cell? ⟨w.heap.size, 13, none⟩ = some (.slice ao1 F.length ac1) := (by rw [b2.cell (by first | omega | (simp; done) | (simp; omega))]; go_cell)
  have al_2 : w.heap.size < w2.heap.size := (by have := b2.size; first | omega | (revert this; simp; done) | (revert this; simp; omega))
  clear a0_1 a1_1 a2_1 a3_1 a4_1 a5_1 a6_1 a7_1 a8_1 a9_1 a10_1 a11_1 a12_1 a13_1 al_1
  clear b2 d2 hc
  obtain ⟨w3, hst, h3, o3, s3⟩ := stH_at (shAt_of emptyX_length zeroF_length (heap_alloc_new w2 (.cells (cellsH emptyX zeroF).toArray 113))) hx hg
  have b3 : Below w2.heap.size w2 w3 := ((Below.refl _ w2).alloc (Nat.le_refl _) (.cells (cellsH emptyX zeroF).toArray 113)).trans (o3.below (fun k hk => by omega) (by simp))
  have H3 := hid h3
  have HX := hid hx
  have HG := hid hg
  have hz3 : Hid (w2.heap.size < w3.heap.size) := hid h3.lt
  clear h3 o3 s3 hx hg
  go_upto_region 2 with fail
  clear hst
  have d3 : Below w2.heap.size w2 w3 := (Below.trans (by go_grown) (b3.mono (by first | omega | (simp; done) | (simp; omega))))
  have c3 : Below w.heap.size w w3 := c2.trans (d3.mono c2.size)
  have a0_3 : w3.cell? ⟨w.heap.size, 0, none⟩ = some (.int .i64 i0) := (by rw [b3.cell (by first | omega | (simp; done) | (simp; omega))]; go_cell)
  have a1_3 : w3.cell? ⟨w.heap.size, 1, none⟩ = some (.int .i64 i1) := (by rw [b3.cell (by first | omega | (simp; done) | (simp; omega))]; go_cell)
  have a2_3 : w3.cell? ⟨w.heap.size, 2, none⟩ = some (.int .i64 i2) := (by rw [b3.cell (by first | omega | (simp; done) | (simp; omega))]; go_cell)
  have a3_3 : w3.cell? ⟨w.heap.size, 3, none⟩ = some (.bool q0) := (by rw [b3.cell (by first | omega | (simp; done) | (simp; omega))]; go_cell)
  have a4_3 : w3.cell? ⟨w.heap.size, 4, none⟩ = some (.bool q1) := (by rw [b3.cell (by first | omega | (simp; done) | (simp; omega))]; go_cell)
  have a5_3 : w3.cell? ⟨w.heap.size, 5, none⟩ = some (.bool q2) := (by rw [b3.cell (by first | omega | (simp; done) | (simp; omega))]; go_cell)
  have a6_3 : w3.cell? ⟨w.heap.size, 6, none⟩ = some (.bool q3) := (by rw [b3.cell (by first | omega | (simp; done) | (simp; omega))]; go_cell)
  have a7_3 : w3.cell? ⟨w.heap.size, 7, none⟩ = some (.int .i64 i3) := (by rw [b3.cell (by first | omega | (simp; done) | (simp; omega))]; go_cell)
  have a8_3 : w3.cell? ⟨w.heap.size, 8, none⟩ = some (.int .i64 i4) := (by rw [b3.cell (by first | omega | (simp; done) | (simp; omega))]; go_cell)
  have a9_3 : w3.cell? ⟨w.heap.size, 9, none⟩ = some (.int .i64 i5) := (by rw [b3.cell (by first | omega | (simp; done) | (simp; omega))]; go_cell)
  have a10_3 : w3.cell? ⟨w.heap.size, 10, none⟩ = some (.int .i64 i6) := (by rw [b3.cell (by first | omega | (simp; done) | (simp; omega))]; go_cell)
  have a11_3 : w3.cell? ⟨w.heap.size, 11, none⟩ = some (.int .i64 i7) := (by rw [b3.cell (by first | omega | (simp; done) | (simp; omega))]; go_cell)
  have a12_3 : w3.cell? ⟨w.heap.size, 12, none⟩ = some (.slice ao0 I.length ac0) := (by rw [b3.cell (by first | omega | (simp; done) | (simp; omega))]; go_cell)
  have a13_3 : w3.cell? ⟨w.heap.size, 13, none⟩ = some (.slice ao1 F.length ac1) := (by rw [b3.cell (by first | omega | (simp; done) | (simp; omega))]; go_cell)
  have al_3 : w.heap.size < w3.heap.size := (by have := b3.size; first | omega | (revert this; simp; done) | (revert this; simp; omega))
  clear a0_2 a1_2 a2_2 a3_2 a4_2 a5_2 a6_2 a7_2 a8_2 a9_2 a10_2 a11_2 a12_2 a13_2 al_2
  clear b3 d3
  go_cut [2] from 2 (fun s wx => CutK w.heap.size w (frK i0 i1 i2 q0 q1 (.iface ty x) (.slice none 0 0) (.slice none 0 0)) (itemsX I) F s wx)
  case first =>
    have hld : ∀ W, Below w3.heap.size w3 W → (ldH (.pointer (some ⟨w2.heap.size, 0, none⟩))).run Tryz.prog W = .ok (.agg (cellsH (itemsX I) F).toArray) W := fun W hW => ldH_at (H3.out.later hW)
    have hbd := fun W => bdK_run i0 i1 i2 q0 q1 ty x HX.out HG.out W
    have hl3 := hld w3 (Below.refl _ _)
    have hl3' := hld w3.drew (Below.refl _ _).drew
    have HLD := hid hld
    clear hld
    go_region_held3 (fun w' => w'.cell? ⟨w.heap.size, 0, none⟩ = some (.int .i64 i0) ∧ w'.cell? ⟨w.heap.size, 1, none⟩ = some (.int .i64 i1) ∧ w'.cell? ⟨w.heap.size, 2, none⟩ = some (.int .i64 i2) ∧ w'.cell? ⟨w.heap.size, 3, none⟩ = some (.bool q0) ∧ w'.cell? ⟨w.heap.size, 4, none⟩ = some (.bool q1) ∧ w'.cell? ⟨w.heap.size, 5, none⟩ = some (.bool q2) ∧ w'.cell? ⟨w.heap.size, 6, none⟩ = some (.bool q3) ∧ w'.cell? ⟨w.heap.size, 7, none⟩ = some (.int .i64 i3) ∧ w'.cell? ⟨w.heap.size, 8, none⟩ = some (.int .i64 i4) ∧ w'.cell? ⟨w.heap.size, 9, none⟩ = some (.int .i64 i5) ∧ w'.cell? ⟨w.heap.size, 10, none⟩ = some (.int .i64 i6) ∧ w'.cell? ⟨w.heap.size, 11, none⟩ = some (.int .i64 i7) ∧ w'.cell? ⟨w.heap.size, 12, none⟩ = some (.slice ao0 I.length ac0) ∧ w'.cell? ⟨w.heap.size, 13, none⟩ = some (.slice ao1 F.length ac1) ∧ (ldH (.pointer (some ⟨w2.heap.size, 0, none⟩))).run Tryz.prog w' = .ok (.agg (cellsH (itemsX I) F).toArray) w') (go_keep) (first
      | (go_at_call 39; refine (askedOf_any i0 i1 i2 q0 q1 q2 q3 i3 i4 i5 i6 i7 _ _ _).mono ?_; rintro e w4 ⟨rfl, b4⟩; have d4 : Below w3.heap.size w3 w4 := (Below.trans (by go_grown) (b4.mono (by first | omega | (simp; done) | (simp; omega)))); have c4 : Below w.heap.size w w4 := c3.trans (d4.mono c3.size); have a0_4 : w4.cell? ⟨w.heap.size, 0, none⟩ = some (.int .i64 i0) := (by rw [b4.cell (by first | omega | (simp; done) | (simp; omega))]; go_cell); have a1_4 : w4.cell? ⟨w.heap.size, 1, none⟩ = some (.int .i64 i1) := (by rw [b4.cell (by first | omega | (simp; done) | (simp; omega))]; go_cell); have a2_4 : w4.cell? ⟨w.heap.size, 2, none⟩ = some (.int .i64 i2) := (by rw [b4.cell (by first | omega | (simp; done) | (simp; omega))]; go_cell); have a3_4 : w4.cell? ⟨w.heap.size, 3, none⟩ = some (.bool q0) := (by rw [b4.cell (by first | omega | (simp; done) | (simp; omega))]; go_cell); have a4_4 : w4.cell? ⟨w.heap.size, 4, none⟩ = some (.bool q1) := (by rw [b4.cell (by first | omega | (simp; done) | (simp; omega))]; go_cell); have a5_4 : w4.cell? ⟨w.heap.size, 5, none⟩ = some (.bool q2) := (by rw [b4.cell (by first | omega | (simp; done) | (simp; omega))]; go_cell); have a6_4 : w4.cell? ⟨w.heap.size, 6, none⟩ = some (.bool q3) := (by rw [b4.cell (by first | omega | (simp; done) | (simp; omega))]; go_cell); have a7_4 : w4.cell? ⟨w.heap.size, 7, none⟩ = some (.int .i64 i3) := (by rw [b4.cell (by first | omega | (simp; done) | (simp; omega))]; go_cell); have a8_4 : w4.cell? ⟨w.heap.size, 8, none⟩ = some (.int .i64 i4) := (by rw [b4.cell (by first | omega | (simp; done) | (simp; omega))]; go_cell); have a9_4 : w4.cell? ⟨w.heap.size, 9, none⟩ = some (.int .i64 i5) := (by rw [b4.cell (by first | omega | (simp; done) | (simp; omega))]; go_cell); have a10_4 : w4.cell? ⟨w.heap.size, 10, none⟩ = some (.int .i64 i6) := (by rw [b4.cell (by first | omega | (simp; done) | (simp; omega))]; go_cell); have a11_4 : w4.cell? ⟨w.heap.size, 11, none⟩ = some (.int .i64 i7) := (by rw [b4.cell (by first | omega | (simp; done) | (simp; omega))]; go_cell); have a12_4 : w4.cell? ⟨w.heap.size, 12, none⟩ = some (.slice ao0 I.length ac0) := (by rw [b4.cell (by first | omega | (simp; done) | (simp; omega))]; go_cell); have a13_4 : w4.cell? ⟨w.heap.size, 13, none⟩ = some (.slice ao1 F.length ac1) := (by rw [b4.cell (by first | omega | (simp; done) | (simp; omega))]; go_cell); have al_4 : w.heap.size < w4.heap.size := (by have := b4.size; first | omega | (revert this; simp; done) | (revert this; simp; omega)); clear a0_3 a1_3 a2_3 a3_3 a4_3 a5_3 a6_3 a7_3 a8_3 a9_3 a10_3 a11_3 a12_3 a13_3 al_3; have hl4 := HLD.out w4 d4; clear b4)
      | (go_at_call 67; refine (HWT.out _).mono ?_; rintro e w5 ⟨rfl, b5⟩; have d5 : Below w4.heap.size w4 w5 := (Below.trans (by go_grown) (b5.mono (by first | omega | (simp; done) | (simp; omega)))); have c5 : Below w.heap.size w w5 := c4.trans (d5.mono c4.size); have a0_5 : w5.cell? ⟨w.heap.size, 0, none⟩ = some (.int .i64 i0) := (by rw [b5.cell (by first | omega | (simp; done) | (simp; omega))]; go_cell); have a1_5 : w5.cell? ⟨w.heap.size, 1, none⟩ = some (.int .i64 i1) := (by rw [b5.cell (by first | omega | (simp; done) | (simp; omega))]; go_cell); have a2_5 : w5.cell? ⟨w.heap.size, 2, none⟩ = some (.int .i64 i2) := (by rw [b5.cell (by first | omega | (simp; done) | (simp; omega))]; go_cell); have a3_5 : w5.cell? ⟨w.heap.size, 3, none⟩ = some (.bool q0) := (by rw [b5.cell (by first | omega | (simp; done) | (simp; omega))]; go_cell); have a4_5 : w5.cell? ⟨w.heap.size, 4, none⟩ = some (.bool q1) := (by rw [b5.cell (by first | omega | (simp; done) | (simp; omega))]; go_cell); have a5_5 : w5.cell? ⟨w.heap.size, 5, none⟩ = some (.bool q2) := (by rw [b5.cell (by first | omega | (simp; done) | (simp; omega))]; go_cell); have a6_5 : w5.cell? ⟨w.heap.size, 6, none⟩ = some (.bool q3) := (by rw [b5.cell (by first | omega | (simp; done) | (simp; omega))]; go_cell); have a7_5 : w5.cell? ⟨w.heap.size, 7, none⟩ = some (.int .i64 i3) := (by rw [b5.cell (by first | omega | (simp; done) | (simp; omega))]; go_cell); have a8_5 : w5.cell? ⟨w.heap.size, 8, none⟩ = some (.int .i64 i4) := (by rw [b5.cell (by first | omega | (simp; done) | (simp; omega))]; go_cell); have a9_5 : w5.cell? ⟨w.heap.size, 9, none⟩ = some (.int .i64 i5) := (by rw [b5.cell (by first | omega | (simp; done) | (simp; omega))]; go_cell); have a10_5 : w5.cell? ⟨w.heap.size, 10, none⟩ = some (.int .i64 i6) := (by rw [b5.cell (by first | omega | (simp; done) | (simp; omega))]; go_cell); have a11_5 : w5.cell? ⟨w.heap.size, 11, none⟩ = some (.int .i64 i7) := (by rw [b5.cell (by first | omega | (simp; done) | (simp; omega))]; go_cell); have a12_5 : w5.cell? ⟨w.heap.size, 12, none⟩ = some (.slice ao0 I.length ac0) := (by rw [b5.cell (by first | omega | (simp; done) | (simp; omega))]; go_cell); have a13_5 : w5.cell? ⟨w.heap.size, 13, none⟩ = some (.slice ao1 F.length ac1) := (by rw [b5.cell (by first | omega | (simp; done) | (simp; omega))]; go_cell); have al_5 : w.heap.size < w5.heap.size := (by have := b5.size; first | omega | (revert this; simp; done) | (revert this; simp; omega)); clear a0_4 a1_4 a2_4 a3_4 a4_4 a5_4 a6_4 a7_4 a8_4 a9_4 a10_4 a11_4 a12_4 a13_4 al_4; have D5 := hid (d4.trans (d5.mono d4.size)); have hl5 := HLD.out w5 D5.out; have hl6 := fun (o : Obj) => HLD.out (w5.alloc o) (D5.out.alloc D5.out.size o); clear b5))
    all_goals
      go_wp2_with fail
      go_meet
      exact cutK_new HX.out HG.out c5
  case rest =>
    have HC := hid hcut
    clear hcut
    go_wp2
    go_ret
    exact ⟨_, by simp, HC.out⟩
end Go.Proofs.YtddpoheoecafjaaGreat
