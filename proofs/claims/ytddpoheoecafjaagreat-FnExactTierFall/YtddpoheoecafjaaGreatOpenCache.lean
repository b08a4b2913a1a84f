/- An argument that is a Cache. Written by a program (gopen.py). -/
import Derived.Test.YtddpoheoecafjaaGreatOpenM
import Derived.Test.YtddpoheoecafjaaGreatGrA
namespace Go.Proofs.YtddpoheoecafjaaGreat
open Go.ChangeShapes Go.WideShapes Go.ChangeAt Go.RowKit Go.Deep Go.Joins

theorem Tryz.cells_Val : Tryz.prog.cellsOf 135 = 2 := by kernel_rfl
set_option maxRecDepth 100000 in
theorem elem_Val {H : Type} (enc : TypeId × Value → H) (W : World) : ElemK enc W 135 1 true := by
  intro fuel cs d p h hlt
  obtain ⟨xs, n, _, hx, hl, hxl, hff⟩ := DataW.trod_struct Tryz.underlying135 h
  rw [Tryz.cells_Val] at hl
  simp only [Prod.mk.injEq] at hx
  match xs, hxl, hx, hff with
  | [(d0, q0), (d1, q1)], _, hx, hff =>
    have h0 : DataW.trod enc Tryz.prog W 0 (fun _ => true) true n 3 ((cs.drop 0).take 1) = some (d0, q0) := by
      have h := hff 0 _ rfl
      first | exact h | (rw [Tryz.cells3] at h; exact h)
    obtain ⟨x0, k0⟩ := elem_int enc W _ _ _ _ h0 (fun x hx1 => hlt x (by rw [hx.2]; simp only [List.flatMap_cons, List.flatMap_nil, List.mem_append]; exact Or.inl hx1))
    have h1 : DataW.trod enc Tryz.prog W 0 (fun _ => true) true n 133 ((cs.drop 1).take 1) = some (d1, q1) := by
      have h := hff 1 _ rfl
      first | exact h | (rw [Tryz.cells133'] at h; exact h)
    obtain ⟨x1, k1⟩ := elem_kin enc W _ _ _ _ h1 (fun x hx1 => hlt x (by rw [hx.2]; simp only [List.flatMap_cons, List.flatMap_nil, List.mem_append]; exact Or.inr (Or.inl hx1)))
    have e : cs = (cs.drop 0).take 1 ++ ((cs.drop 1).take 1) := by
      match cs, hl with
      | [z0, z1], _ => rfl
    have k := (k0.append k1)
    rw [← e] at k
    exact ⟨_, k⟩
theorem Tryz.cells_Item : Tryz.prog.cellsOf 137 = 4 := by kernel_rfl
set_option maxRecDepth 100000 in
theorem elem_Item {H : Type} (enc : TypeId × Value → H) (W : World) : ElemK enc W 137 3 true := by
  intro fuel cs d p h hlt
  obtain ⟨xs, n, _, hx, hl, hxl, hff⟩ := DataW.trod_struct Tryz.underlying137 h
  rw [Tryz.cells_Item] at hl
  simp only [Prod.mk.injEq] at hx
  match xs, hxl, hx, hff with
  | [(d0, q0), (d1, q1), (d2, q2)], _, hx, hff =>
    have h0 : DataW.trod enc Tryz.prog W 0 (fun _ => true) true n 3 ((cs.drop 0).take 1) = some (d0, q0) := by
      have h := hff 0 _ rfl
      first | exact h | (rw [Tryz.cells3] at h; exact h)
    obtain ⟨x0, k0⟩ := elem_int enc W _ _ _ _ h0 (fun x hx1 => hlt x (by rw [hx.2]; simp only [List.flatMap_cons, List.flatMap_nil, List.mem_append]; exact Or.inl hx1))
    have h1 : DataW.trod enc Tryz.prog W 0 (fun _ => true) true n 3 ((cs.drop 1).take 1) = some (d1, q1) := by
      have h := hff 1 _ rfl
      first | exact h | (rw [Tryz.cells3] at h; exact h)
    obtain ⟨x1, k1⟩ := elem_int enc W _ _ _ _ h1 (fun x hx1 => hlt x (by rw [hx.2]; simp only [List.flatMap_cons, List.flatMap_nil, List.mem_append]; exact Or.inr (Or.inl hx1)))
    have h2 : DataW.trod enc Tryz.prog W 0 (fun _ => true) true n 135 ((cs.drop 2).take 2) = some (d2, q2) := by
      have h := hff 2 _ rfl
      first | exact h | (rw [Tryz.cells_Val] at h; exact h)
    obtain ⟨x2, k2⟩ := elem_Val enc W _ _ _ _ h2 (fun x hx1 => hlt x (by rw [hx.2]; simp only [List.flatMap_cons, List.flatMap_nil, List.mem_append]; exact Or.inr (Or.inr (Or.inl hx1))))
    have e : cs = (cs.drop 0).take 1 ++ ((cs.drop 1).take 1 ++ ((cs.drop 2).take 2)) := by
      match cs, hl with
      | [z0, z1, z2, z3], _ => rfl
    have k := (k0.append (k1.append k2))
    rw [← e] at k
    exact ⟨_, k⟩
theorem Tryz.cellsL_Item : Tryz.prog.cellsOf 25 = 1 := by kernel_rfl
theorem Tryz.cellsL_int : Tryz.prog.cellsOf 26 = 1 := by kernel_rfl
theorem Tryz.cells_Cache : Tryz.prog.cellsOf 28 = 2 := by kernel_rfl
set_option maxRecDepth 100000 in
theorem cache_of {H : Type} {enc : TypeId × Value → H} {W : World} {base : Nat} {v : Value} {d : DataW H} {p : List MemPlace} (hv : Value.okWide Tryz.prog W .any base 28 v)
    (h : DataW.Trod enc Tryz.prog W 0 (fun _ => true) true 28 v d p) (hlt : ∀ x ∈ p, x.block < W.heap.size) : ∃ (u0 u1 : Value) (L0 L1 : List KD), v = .agg #[u0, u1] ∧ RSCache W u0 u1 L0 L1 := by
  obtain ⟨cs, rfl, hsz⟩ := okWide_struct Tryz.underlying28 hv
  rw [Tryz.cells_Cache] at hsz
  obtain ⟨z0, z1, rfl⟩ : ∃ z0 z1, cs = #[z0, z1] := by
    obtain ⟨l⟩ := cs
    match l, hsz with
    | [z0, z1], _ => exact ⟨z0, z1, rfl⟩
  obtain ⟨fuel, hf⟩ := h
  obtain ⟨xs, n, _, hx, _, hxl, hff⟩ := DataW.trod_struct Tryz.underlying28 hf
  simp only [Prod.mk.injEq] at hx
  match xs, hxl, hx, hff with
  | [(d0, q0), (d1, q1)], _, hx, hff =>
    have h0 := hff 0 _ rfl
    simp [Value.cells, Tryz.cellsL_Item] at h0
    obtain ⟨L0, hL0⟩ := rdM_of_trod (sz := 4) (m := 3) (kn := true) Tryz.underlying25 Tryz.cells_Item (by decide) (elem_Item enc W) h0 (fun x hx1 => hlt x (by rw [hx.2]; simp only [List.flatMap_cons, List.flatMap_nil, List.mem_append]; exact Or.inl hx1))
    have h1 := hff 1 _ rfl
    simp [Value.cells, Tryz.cellsL_int] at h1
    obtain ⟨L1, hL1⟩ := rdM_of_trod (sz := 1) (m := 1) (kn := false) Tryz.underlying26 Tryz.cells3 (by decide) (elem_int enc W) h1 (fun x hx1 => hlt x (by rw [hx.2]; simp only [List.flatMap_cons, List.flatMap_nil, List.mem_append]; exact Or.inr (Or.inl hx1)))
    exact ⟨z0, z1, L0, L1, rfl, ⟨hL0, hL1⟩⟩
end Go.Proofs.YtddpoheoecafjaaGreat
