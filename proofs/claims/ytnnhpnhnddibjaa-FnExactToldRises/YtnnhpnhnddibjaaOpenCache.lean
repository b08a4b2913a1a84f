/- An argument that is a Cache. Written by a program (gopen.py). -/
import Derived.Test.YtnnhpnhnddibjaaOpenM
import Derived.Test.YtnnhpnhnddibjaaGrA
namespace Go.Proofs.Ytnnhpnhnddibjaa
open Go.ChangeShapes Go.WideShapes Go.ChangeAt Go.RowKit Go.Deep Go.Joins

theorem Try.cells_Val : Try.prog.cellsOf 39 = 2 := by kernel_rfl
set_option maxRecDepth 100000 in
theorem elem_Val {H : Type} (enc : TypeId × Value → H) (W : World) : ElemK enc W 39 1 true := by
  intro fuel cs d p h hlt
  obtain ⟨xs, n, _, hx, hl, hxl, hff⟩ := DataW.trod_struct Try.underlying39 h
  rw [Try.cells_Val] at hl
  simp only [Prod.mk.injEq] at hx
  match xs, hxl, hx, hff with
  | [(d0, q0), (d1, q1)], _, hx, hff =>
    have h0 : DataW.trod enc Try.prog W 0 (fun _ => true) true n 3 ((cs.drop 0).take 1) = some (d0, q0) := by
      have h := hff 0 _ rfl
      first | exact h | (rw [Try.cells3] at h; exact h)
    obtain ⟨x0, k0⟩ := elem_int enc W _ _ _ _ h0 (fun x hx1 => hlt x (by rw [hx.2]; simp only [List.flatMap_cons, List.flatMap_nil, List.mem_append]; exact Or.inl hx1))
    have h1 : DataW.trod enc Try.prog W 0 (fun _ => true) true n 37 ((cs.drop 1).take 1) = some (d1, q1) := by
      have h := hff 1 _ rfl
      first | exact h | (rw [Try.cells37'] at h; exact h)
    obtain ⟨x1, k1⟩ := elem_kin enc W _ _ _ _ h1 (fun x hx1 => hlt x (by rw [hx.2]; simp only [List.flatMap_cons, List.flatMap_nil, List.mem_append]; exact Or.inr (Or.inl hx1)))
    have e : cs = (cs.drop 0).take 1 ++ ((cs.drop 1).take 1) := by
      match cs, hl with
      | [z0, z1], _ => rfl
    have k := (k0.append k1)
    rw [← e] at k
    exact ⟨_, k⟩
theorem Try.cells_Item : Try.prog.cellsOf 41 = 4 := by kernel_rfl
set_option maxRecDepth 100000 in
theorem elem_Item {H : Type} (enc : TypeId × Value → H) (W : World) : ElemK enc W 41 3 true := by
  intro fuel cs d p h hlt
  obtain ⟨xs, n, _, hx, hl, hxl, hff⟩ := DataW.trod_struct Try.underlying41 h
  rw [Try.cells_Item] at hl
  simp only [Prod.mk.injEq] at hx
  match xs, hxl, hx, hff with
  | [(d0, q0), (d1, q1), (d2, q2)], _, hx, hff =>
    have h0 : DataW.trod enc Try.prog W 0 (fun _ => true) true n 3 ((cs.drop 0).take 1) = some (d0, q0) := by
      have h := hff 0 _ rfl
      first | exact h | (rw [Try.cells3] at h; exact h)
    obtain ⟨x0, k0⟩ := elem_int enc W _ _ _ _ h0 (fun x hx1 => hlt x (by rw [hx.2]; simp only [List.flatMap_cons, List.flatMap_nil, List.mem_append]; exact Or.inl hx1))
    have h1 : DataW.trod enc Try.prog W 0 (fun _ => true) true n 3 ((cs.drop 1).take 1) = some (d1, q1) := by
      have h := hff 1 _ rfl
      first | exact h | (rw [Try.cells3] at h; exact h)
    obtain ⟨x1, k1⟩ := elem_int enc W _ _ _ _ h1 (fun x hx1 => hlt x (by rw [hx.2]; simp only [List.flatMap_cons, List.flatMap_nil, List.mem_append]; exact Or.inr (Or.inl hx1)))
    have h2 : DataW.trod enc Try.prog W 0 (fun _ => true) true n 39 ((cs.drop 2).take 2) = some (d2, q2) := by
      have h := hff 2 _ rfl
      first | exact h | (rw [Try.cells_Val] at h; exact h)
    obtain ⟨x2, k2⟩ := elem_Val enc W _ _ _ _ h2 (fun x hx1 => hlt x (by rw [hx.2]; simp only [List.flatMap_cons, List.flatMap_nil, List.mem_append]; exact Or.inr (Or.inr (Or.inl hx1))))
    have e : cs = (cs.drop 0).take 1 ++ ((cs.drop 1).take 1 ++ ((cs.drop 2).take 2)) := by
      match cs, hl with
      | [z0, z1, z2, z3], _ => rfl
    have k := (k0.append (k1.append k2))
    rw [← e] at k
    exact ⟨_, k⟩
theorem Try.cellsL_int : Try.prog.cellsOf 29 = 1 := by kernel_rfl
end Go.Proofs.Ytnnhpnhnddibjaa
