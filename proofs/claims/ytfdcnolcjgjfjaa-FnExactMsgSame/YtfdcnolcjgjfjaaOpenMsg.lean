/- An argument that is a message. Written by a program (gmsg.py). -/
import Derived.Test.YtfdcnolcjgjfjaaOpenM
import Derived.Test.YtfdcnolcjgjfjaaSMsg
namespace Go.Proofs.Ytfdcnolcjgjfjaa
open Go.ChangeShapes Go.WideShapes Go.ChangeAt Go.RowKit Go.Deep Go.Joins

theorem Try.cells_Op : Try.prog.cellsOf 23 = 4 := by kernel_rfl
set_option maxRecDepth 100000 in
theorem elem_Op {H : Type} (enc : TypeId × Value → H) (W : World) : ElemK enc W 23 4 false := by
  intro fuel cs d p h hlt
  obtain ⟨xs, n, _, hx, hl, hxl, hff⟩ := DataW.trod_struct Try.underlying23 h
  rw [Try.cells_Op] at hl
  simp only [Prod.mk.injEq] at hx
  match xs, hxl, hx, hff with
  | [(d0, q0), (d1, q1), (d2, q2), (d3, q3)], _, hx, hff =>
    have h0 : DataW.trod enc Try.prog W 0 (fun _ => true) true n 3 ((cs.drop 0).take 1) = some (d0, q0) := by
      have h := hff 0 _ rfl
      first | exact h | (rw [Try.cells3] at h; exact h)
    obtain ⟨x0, k0⟩ := elem_int enc W _ _ _ _ h0 (fun x hx1 => hlt x (by rw [hx.2]; simp only [List.flatMap_cons, List.flatMap_nil, List.mem_append]; exact Or.inl hx1))
    have h1 : DataW.trod enc Try.prog W 0 (fun _ => true) true n 3 ((cs.drop 1).take 1) = some (d1, q1) := by
      have h := hff 1 _ rfl
      first | exact h | (rw [Try.cells3] at h; exact h)
    obtain ⟨x1, k1⟩ := elem_int enc W _ _ _ _ h1 (fun x hx1 => hlt x (by rw [hx.2]; simp only [List.flatMap_cons, List.flatMap_nil, List.mem_append]; exact Or.inr (Or.inl hx1)))
    have h2 : DataW.trod enc Try.prog W 0 (fun _ => true) true n 3 ((cs.drop 2).take 1) = some (d2, q2) := by
      have h := hff 2 _ rfl
      first | exact h | (rw [Try.cells3] at h; exact h)
    obtain ⟨x2, k2⟩ := elem_int enc W _ _ _ _ h2 (fun x hx1 => hlt x (by rw [hx.2]; simp only [List.flatMap_cons, List.flatMap_nil, List.mem_append]; exact Or.inr (Or.inr (Or.inl hx1))))
    have h3 : DataW.trod enc Try.prog W 0 (fun _ => true) true n 3 ((cs.drop 3).take 1) = some (d3, q3) := by
      have h := hff 3 _ rfl
      first | exact h | (rw [Try.cells3] at h; exact h)
    obtain ⟨x3, k3⟩ := elem_int enc W _ _ _ _ h3 (fun x hx1 => hlt x (by rw [hx.2]; simp only [List.flatMap_cons, List.flatMap_nil, List.mem_append]; exact Or.inr (Or.inr (Or.inr (Or.inl hx1)))))
    have e : cs = (cs.drop 0).take 1 ++ ((cs.drop 1).take 1 ++ ((cs.drop 2).take 1 ++ ((cs.drop 3).take 1))) := by
      match cs, hl with
      | [z0, z1, z2, z3], _ => rfl
    have k := (k0.append (k1.append (k2.append k3)))
    rw [← e] at k
    exact ⟨_, k⟩
theorem Try.cells_Val : Try.prog.cellsOf 26 = 2 := by kernel_rfl
set_option maxRecDepth 100000 in
theorem elem_Val {H : Type} (enc : TypeId × Value → H) (W : World) : ElemK enc W 26 1 true := by
  intro fuel cs d p h hlt
  obtain ⟨xs, n, _, hx, hl, hxl, hff⟩ := DataW.trod_struct Try.underlying26 h
  rw [Try.cells_Val] at hl
  simp only [Prod.mk.injEq] at hx
  match xs, hxl, hx, hff with
  | [(d0, q0), (d1, q1)], _, hx, hff =>
    have h0 : DataW.trod enc Try.prog W 0 (fun _ => true) true n 3 ((cs.drop 0).take 1) = some (d0, q0) := by
      have h := hff 0 _ rfl
      first | exact h | (rw [Try.cells3] at h; exact h)
    obtain ⟨x0, k0⟩ := elem_int enc W _ _ _ _ h0 (fun x hx1 => hlt x (by rw [hx.2]; simp only [List.flatMap_cons, List.flatMap_nil, List.mem_append]; exact Or.inl hx1))
    have h1 : DataW.trod enc Try.prog W 0 (fun _ => true) true n 24 ((cs.drop 1).take 1) = some (d1, q1) := by
      have h := hff 1 _ rfl
      first | exact h | (rw [Try.cells24'] at h; exact h)
    obtain ⟨x1, k1⟩ := elem_kin enc W _ _ _ _ h1 (fun x hx1 => hlt x (by rw [hx.2]; simp only [List.flatMap_cons, List.flatMap_nil, List.mem_append]; exact Or.inr (Or.inl hx1)))
    have e : cs = (cs.drop 0).take 1 ++ ((cs.drop 1).take 1) := by
      match cs, hl with
      | [z0, z1], _ => rfl
    have k := (k0.append k1)
    rw [← e] at k
    exact ⟨_, k⟩
theorem Try.cells_Item : Try.prog.cellsOf 28 = 4 := by kernel_rfl
set_option maxRecDepth 100000 in
theorem elem_Item {H : Type} (enc : TypeId × Value → H) (W : World) : ElemK enc W 28 3 true := by
  intro fuel cs d p h hlt
  obtain ⟨xs, n, _, hx, hl, hxl, hff⟩ := DataW.trod_struct Try.underlying28 h
  rw [Try.cells_Item] at hl
  simp only [Prod.mk.injEq] at hx
  match xs, hxl, hx, hff with
  | [(d0, q0), (d1, q1), (d2, q2)], _, hx, hff =>
    have h0 : DataW.trod enc Try.prog W 0 (fun _ => true) true n 3 ((cs.drop 0).take 1) = some (d0, q0) := by
      have h := hff 0 _ rfl
      first | exact h | (rw [Try.cells3] at h; exact h)
    obtain ⟨x0, k0⟩ := elem_int enc W _ _ _ _ h0 (fun x hx1 => hlt x (by rw [hx.2]; simp only [List.flatMap_cons, List.flatMap_nil, List.mem_append]; exact Or.inl hx1))
    have h1 : DataW.trod enc Try.prog W 0 (fun _ => true) true n 3 ((cs.drop 1).take 1) = some (d1, q1) := by
      have h := hff 1 _ rfl
      first | exact h | (rw [Try.cells3] at h; exact h)
    obtain ⟨x1, k1⟩ := elem_int enc W _ _ _ _ h1 (fun x hx1 => hlt x (by rw [hx.2]; simp only [List.flatMap_cons, List.flatMap_nil, List.mem_append]; exact Or.inr (Or.inl hx1)))
    have h2 : DataW.trod enc Try.prog W 0 (fun _ => true) true n 26 ((cs.drop 2).take 2) = some (d2, q2) := by
      have h := hff 2 _ rfl
      first | exact h | (rw [Try.cells_Val] at h; exact h)
    obtain ⟨x2, k2⟩ := elem_Val enc W _ _ _ _ h2 (fun x hx1 => hlt x (by rw [hx.2]; simp only [List.flatMap_cons, List.flatMap_nil, List.mem_append]; exact Or.inr (Or.inr (Or.inl hx1))))
    have e : cs = (cs.drop 0).take 1 ++ ((cs.drop 1).take 1 ++ ((cs.drop 2).take 2)) := by
      match cs, hl with
      | [z0, z1, z2, z3], _ => rfl
    have k := (k0.append (k1.append k2))
    rw [← e] at k
    exact ⟨_, k⟩
theorem Try.cellsL_int : Try.prog.cellsOf 29 = 1 := by kernel_rfl
theorem Try.cells_Msg : Try.prog.cellsOf 31 = 15 := by kernel_rfl
set_option maxRecDepth 100000 in
set_option maxHeartbeats 2000000 in
theorem msg_of {H : Type} {enc : TypeId × Value → H} {W : World} {base : Nat} {v : Value} {d : DataW H} {p : List MemPlace} (hv : Value.okWide Try.prog W .any base 31 v)
    (h : DataW.Trod enc Try.prog W 0 (fun _ => true) true 31 v d p) (hlt : ∀ x ∈ p, x.block < W.heap.size) : ∃ (i0 i1 i2 i3 i4 i5 i6 i7 i8 i9 i10 i11 i12 : Int) (u0 u1 : Value) (l0 : List (Int × Int)) (l1 : List KD), v = .agg #[.int .i64 i0, .int .i64 i1, .int .i64 i2, .int .i64 i3, .int .i64 i4, .int .i64 i5, .int .i64 i6, .int .i64 i7, .int .i64 i8, .int .i64 i9, .int .i64 i10, .int .i64 i11, u0, u1, .int .i64 i12] ∧ RSMsg W u0 u1 l0 l1 := by
  obtain ⟨cs, rfl, hsz⟩ := okWide_struct Try.underlying31 hv
  rw [Try.cells_Msg] at hsz
  obtain ⟨z0, z1, z2, z3, z4, z5, z6, z7, z8, z9, z10, z11, z12, z13, z14, rfl⟩ : ∃ z0 z1 z2 z3 z4 z5 z6 z7 z8 z9 z10 z11 z12 z13 z14, cs = #[z0, z1, z2, z3, z4, z5, z6, z7, z8, z9, z10, z11, z12, z13, z14] := by
    obtain ⟨l⟩ := cs
    match l, hsz with
    | [z0, z1, z2, z3, z4, z5, z6, z7, z8, z9, z10, z11, z12, z13, z14], _ => exact ⟨z0, z1, z2, z3, z4, z5, z6, z7, z8, z9, z10, z11, z12, z13, z14, rfl⟩
  obtain ⟨fuel, hf⟩ := h
  obtain ⟨xs, n, _, hx, _, hxl, hff⟩ := DataW.trod_struct Try.underlying31 hf
  simp only [Prod.mk.injEq] at hx
  match xs, hxl, hx, hff with
  | [(d0, q0), (d1, q1), (d2, q2), (d3, q3), (d4, q4), (d5, q5), (d6, q6), (d7, q7), (d8, q8)], _, hx, hff =>
    have h0 := hff 0 _ rfl
    simp [Value.cells, Try.cells3] at h0
    obtain ⟨j0, hz0, _⟩ := DataW.trod_int Try.underlying3 h0
    have hz0' : z0 = .int .i64 j0 := by simpa using hz0
    have h1 := hff 1 _ rfl
    simp [Value.cells, Try.cells3] at h1
    obtain ⟨j1, hz1, _⟩ := DataW.trod_int Try.underlying3 h1
    have hz1' : z1 = .int .i64 j1 := by simpa using hz1
    have h2 := hff 2 _ rfl
    simp [Value.cells, Try.cells3] at h2
    obtain ⟨j2, hz2, _⟩ := DataW.trod_int Try.underlying3 h2
    have hz2' : z2 = .int .i64 j2 := by simpa using hz2
    have h3 := hff 3 _ rfl
    simp [Value.cells, Try.cells3] at h3
    obtain ⟨j3, hz3, _⟩ := DataW.trod_int Try.underlying3 h3
    have hz3' : z3 = .int .i64 j3 := by simpa using hz3
    have h4 := hff 4 _ rfl
    simp [Value.cells, Try.cells3] at h4
    obtain ⟨j4, hz4, _⟩ := DataW.trod_int Try.underlying3 h4
    have hz4' : z4 = .int .i64 j4 := by simpa using hz4
    have h5 := hff 5 _ rfl
    simp [Value.cells, Try.cells_Op] at h5
    obtain ⟨⟨xs5, l5⟩, hk5⟩ := elem_Op enc W _ _ _ _ h5 (fun x hx1 => hlt x (by rw [hx.2]; simp only [List.flatMap_cons, List.flatMap_nil, List.mem_append]; exact Or.inr (Or.inr (Or.inr (Or.inr (Or.inr (Or.inl hx1)))))))
    obtain ⟨e5, us5, hc5, _, hn5⟩ := hk5
    obtain ⟨rfl, _⟩ := hn5 rfl
    obtain ⟨p0, p1, p2, p3, rfl⟩ : ∃ a b c d, xs5 = [a, b, c, d] := by
      match xs5, e5 with
      | [a, b, c, d], _ => exact ⟨a, b, c, d, rfl⟩
    simp at hc5
    obtain ⟨hz5a, hz5b, hz5c, hz5d⟩ := hc5
    have h6 := hff 6 _ rfl
    simp [Value.cells, Try.cells_Item] at h6
    obtain ⟨⟨xs6, l6⟩, hk6⟩ := elem_Item enc W _ _ _ _ h6 (fun x hx1 => hlt x (by rw [hx.2]; simp only [List.flatMap_cons, List.flatMap_nil, List.mem_append]; exact Or.inr (Or.inr (Or.inr (Or.inr (Or.inr (Or.inr (Or.inl hx1))))))))
    obtain ⟨e6, us6, hc6, hu6, _⟩ := hk6
    obtain ⟨u6, hus6, hru6⟩ := hu6 rfl
    subst hus6
    obtain ⟨q0', q1', q2', rfl⟩ : ∃ a b c, xs6 = [a, b, c] := by
      match xs6, e6 with
      | [a, b, c], _ => exact ⟨a, b, c, rfl⟩
    simp at hc6
    obtain ⟨hz6a, hz6b, hz6c, hz6d⟩ := hc6
    have hu6' : Rd W u6 l6 := hru6
    have h7 := hff 7 _ rfl
    simp [Value.cells, Try.cellsL_int] at h7
    obtain ⟨l1, hl1⟩ := rdM_of_trod (sz := 1) (m := 1) (kn := false) Try.underlying29 Try.cells3 (by decide) (elem_int enc W) h7 (fun x hx1 => hlt x (by rw [hx.2]; simp only [List.flatMap_cons, List.flatMap_nil, List.mem_append]; exact Or.inr (Or.inr (Or.inr (Or.inr (Or.inr (Or.inr (Or.inr (Or.inl hx1)))))))))
    have h8 := hff 8 _ rfl
    simp [Value.cells, Try.cells3] at h8
    obtain ⟨j8, hz8, _⟩ := DataW.trod_int Try.underlying3 h8
    have hz8' : z14 = .int .i64 j8 := by simpa using hz8
    subst hz5a hz5b hz5c hz5d hz6a hz6b hz6c hz6d hz0' hz1' hz2' hz3' hz4' hz8'
    exact ⟨j0, j1, j2, j3, j4, p0, p1, p2, p3, q0', q1', q2', j8, _, z13, l6, l1, rfl, ⟨hu6', hl1⟩⟩
end Go.Proofs.Ytfdcnolcjgjfjaa
