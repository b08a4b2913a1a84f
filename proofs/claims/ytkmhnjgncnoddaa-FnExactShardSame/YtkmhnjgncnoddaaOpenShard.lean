/- An argument that is a Shard. Written by a program (gopen.py). -/
import Derived.Test.YtkmhnjgncnoddaaOpenM
import Derived.Test.YtkmhnjgncnoddaaSShard
namespace Go.Proofs.Ytkmhnjgncnoddaa
open Go.ChangeShapes Go.WideShapes Go.ChangeAt Go.RowKit Go.Deep Go.Joins

theorem Try.cells_Val : Try.prog.cellsOf 131 = 2 := by kernel_rfl
set_option maxRecDepth 100000 in
theorem elem_Val {H : Type} (enc : TypeId × Value → H) (W : World) : ElemK enc W 131 1 true := by
  intro fuel cs d p h hlt
  obtain ⟨xs, n, _, hx, hl, hxl, hff⟩ := DataW.trod_struct Try.underlying131 h
  rw [Try.cells_Val] at hl
  simp only [Prod.mk.injEq] at hx
  match xs, hxl, hx, hff with
  | [(d0, q0), (d1, q1)], _, hx, hff =>
    have h0 : DataW.trod enc Try.prog W 0 (fun _ => true) true n 3 ((cs.drop 0).take 1) = some (d0, q0) := by
      have h := hff 0 _ rfl
      first | exact h | (rw [Try.cells3] at h; exact h)
    obtain ⟨x0, k0⟩ := elem_int enc W _ _ _ _ h0 (fun x hx1 => hlt x (by rw [hx.2]; simp only [List.flatMap_cons, List.flatMap_nil, List.mem_append]; exact Or.inl hx1))
    have h1 : DataW.trod enc Try.prog W 0 (fun _ => true) true n 129 ((cs.drop 1).take 1) = some (d1, q1) := by
      have h := hff 1 _ rfl
      first | exact h | (rw [Try.cells129'] at h; exact h)
    obtain ⟨x1, k1⟩ := elem_kin enc W _ _ _ _ h1 (fun x hx1 => hlt x (by rw [hx.2]; simp only [List.flatMap_cons, List.flatMap_nil, List.mem_append]; exact Or.inr (Or.inl hx1)))
    have e : cs = (cs.drop 0).take 1 ++ ((cs.drop 1).take 1) := by
      match cs, hl with
      | [z0, z1], _ => rfl
    have k := (k0.append k1)
    rw [← e] at k
    exact ⟨_, k⟩
theorem Try.cells_Row : Try.prog.cellsOf 133 = 3 := by kernel_rfl
set_option maxRecDepth 100000 in
theorem elem_Row {H : Type} (enc : TypeId × Value → H) (W : World) : ElemK enc W 133 2 true := by
  intro fuel cs d p h hlt
  obtain ⟨xs, n, _, hx, hl, hxl, hff⟩ := DataW.trod_struct Try.underlying133 h
  rw [Try.cells_Row] at hl
  simp only [Prod.mk.injEq] at hx
  match xs, hxl, hx, hff with
  | [(d0, q0), (d1, q1)], _, hx, hff =>
    have h0 : DataW.trod enc Try.prog W 0 (fun _ => true) true n 3 ((cs.drop 0).take 1) = some (d0, q0) := by
      have h := hff 0 _ rfl
      first | exact h | (rw [Try.cells3] at h; exact h)
    obtain ⟨x0, k0⟩ := elem_int enc W _ _ _ _ h0 (fun x hx1 => hlt x (by rw [hx.2]; simp only [List.flatMap_cons, List.flatMap_nil, List.mem_append]; exact Or.inl hx1))
    have h1 : DataW.trod enc Try.prog W 0 (fun _ => true) true n 131 ((cs.drop 1).take 2) = some (d1, q1) := by
      have h := hff 1 _ rfl
      first | exact h | (rw [Try.cells_Val] at h; exact h)
    obtain ⟨x1, k1⟩ := elem_Val enc W _ _ _ _ h1 (fun x hx1 => hlt x (by rw [hx.2]; simp only [List.flatMap_cons, List.flatMap_nil, List.mem_append]; exact Or.inr (Or.inl hx1)))
    have e : cs = (cs.drop 0).take 1 ++ ((cs.drop 1).take 2) := by
      match cs, hl with
      | [z0, z1, z2], _ => rfl
    have k := (k0.append k1)
    rw [← e] at k
    exact ⟨_, k⟩
theorem Try.cells_Req : Try.prog.cellsOf 139 = 3 := by kernel_rfl
set_option maxRecDepth 100000 in
theorem elem_Req {H : Type} (enc : TypeId × Value → H) (W : World) : ElemK enc W 139 3 false := by
  intro fuel cs d p h hlt
  obtain ⟨xs, n, _, hx, hl, hxl, hff⟩ := DataW.trod_struct Try.underlying139 h
  rw [Try.cells_Req] at hl
  simp only [Prod.mk.injEq] at hx
  match xs, hxl, hx, hff with
  | [(d0, q0), (d1, q1), (d2, q2)], _, hx, hff =>
    have h0 : DataW.trod enc Try.prog W 0 (fun _ => true) true n 3 ((cs.drop 0).take 1) = some (d0, q0) := by
      have h := hff 0 _ rfl
      first | exact h | (rw [Try.cells3] at h; exact h)
    obtain ⟨x0, k0⟩ := elem_int enc W _ _ _ _ h0 (fun x hx1 => hlt x (by rw [hx.2]; simp only [List.flatMap_cons, List.flatMap_nil, List.mem_append]; exact Or.inl hx1))
    have h1 : DataW.trod enc Try.prog W 0 (fun _ => true) true n 3 ((cs.drop 1).take 1) = some (d1, q1) := by
      have h := hff 1 _ rfl
      first | exact h | (rw [Try.cells3] at h; exact h)
    obtain ⟨x1, k1⟩ := elem_int enc W _ _ _ _ h1 (fun x hx1 => hlt x (by rw [hx.2]; simp only [List.flatMap_cons, List.flatMap_nil, List.mem_append]; exact Or.inr (Or.inl hx1)))
    have h2 : DataW.trod enc Try.prog W 0 (fun _ => true) true n 3 ((cs.drop 2).take 1) = some (d2, q2) := by
      have h := hff 2 _ rfl
      first | exact h | (rw [Try.cells3] at h; exact h)
    obtain ⟨x2, k2⟩ := elem_int enc W _ _ _ _ h2 (fun x hx1 => hlt x (by rw [hx.2]; simp only [List.flatMap_cons, List.flatMap_nil, List.mem_append]; exact Or.inr (Or.inr (Or.inl hx1))))
    have e : cs = (cs.drop 0).take 1 ++ ((cs.drop 1).take 1 ++ ((cs.drop 2).take 1)) := by
      match cs, hl with
      | [z0, z1, z2], _ => rfl
    have k := (k0.append (k1.append k2))
    rw [← e] at k
    exact ⟨_, k⟩
theorem Try.cells_Done : Try.prog.cellsOf 141 = 6 := by kernel_rfl
set_option maxRecDepth 100000 in
theorem elem_Done {H : Type} (enc : TypeId × Value → H) (W : World) : ElemK enc W 141 6 false := by
  intro fuel cs d p h hlt
  obtain ⟨xs, n, _, hx, hl, hxl, hff⟩ := DataW.trod_struct Try.underlying141 h
  rw [Try.cells_Done] at hl
  simp only [Prod.mk.injEq] at hx
  match xs, hxl, hx, hff with
  | [(d0, q0), (d1, q1), (d2, q2), (d3, q3)], _, hx, hff =>
    have h0 : DataW.trod enc Try.prog W 0 (fun _ => true) true n 139 ((cs.drop 0).take 3) = some (d0, q0) := by
      have h := hff 0 _ rfl
      first | exact h | (rw [Try.cells_Req] at h; exact h)
    obtain ⟨x0, k0⟩ := elem_Req enc W _ _ _ _ h0 (fun x hx1 => hlt x (by rw [hx.2]; simp only [List.flatMap_cons, List.flatMap_nil, List.mem_append]; exact Or.inl hx1))
    have h1 : DataW.trod enc Try.prog W 0 (fun _ => true) true n 3 ((cs.drop 3).take 1) = some (d1, q1) := by
      have h := hff 1 _ rfl
      first | exact h | (rw [Try.cells3] at h; exact h)
    obtain ⟨x1, k1⟩ := elem_int enc W _ _ _ _ h1 (fun x hx1 => hlt x (by rw [hx.2]; simp only [List.flatMap_cons, List.flatMap_nil, List.mem_append]; exact Or.inr (Or.inl hx1)))
    have h2 : DataW.trod enc Try.prog W 0 (fun _ => true) true n 3 ((cs.drop 4).take 1) = some (d2, q2) := by
      have h := hff 2 _ rfl
      first | exact h | (rw [Try.cells3] at h; exact h)
    obtain ⟨x2, k2⟩ := elem_int enc W _ _ _ _ h2 (fun x hx1 => hlt x (by rw [hx.2]; simp only [List.flatMap_cons, List.flatMap_nil, List.mem_append]; exact Or.inr (Or.inr (Or.inl hx1))))
    have h3 : DataW.trod enc Try.prog W 0 (fun _ => true) true n 3 ((cs.drop 5).take 1) = some (d3, q3) := by
      have h := hff 3 _ rfl
      first | exact h | (rw [Try.cells3] at h; exact h)
    obtain ⟨x3, k3⟩ := elem_int enc W _ _ _ _ h3 (fun x hx1 => hlt x (by rw [hx.2]; simp only [List.flatMap_cons, List.flatMap_nil, List.mem_append]; exact Or.inr (Or.inr (Or.inr (Or.inl hx1)))))
    have e : cs = (cs.drop 0).take 3 ++ ((cs.drop 3).take 1 ++ ((cs.drop 4).take 1 ++ ((cs.drop 5).take 1))) := by
      match cs, hl with
      | [z0, z1, z2, z3, z4, z5], _ => rfl
    have k := (k0.append (k1.append (k2.append k3)))
    rw [← e] at k
    exact ⟨_, k⟩
theorem Try.cells_Op : Try.prog.cellsOf 143 = 4 := by kernel_rfl
set_option maxRecDepth 100000 in
theorem elem_Op {H : Type} (enc : TypeId × Value → H) (W : World) : ElemK enc W 143 4 false := by
  intro fuel cs d p h hlt
  obtain ⟨xs, n, _, hx, hl, hxl, hff⟩ := DataW.trod_struct Try.underlying143 h
  rw [Try.cells_Op] at hl
  simp only [Prod.mk.injEq] at hx
  match xs, hxl, hx, hff with
  | [(d0, q0), (d1, q1), (d2, q2), (d3, q3)], _, hx, hff =>
    have h0 : DataW.trod enc Try.prog W 0 (fun _ => true) true n 3 ((cs.drop 0).take 1) = some (d0, q0) := by
      have h := hff 0 _ rfl
      first | exact h | (rw [Try.cells3] at h; exact h)
    obtain ⟨x0, k0⟩ := elem_int enc W _ _ _ _ h0 (fun x hx1 => hlt x (by rw [hx.2]; simp only [List.flatMap_cons, List.flatMap_nil, List.mem_append]; exact Or.inl hx1))
    have h1 : DataW.trod enc Try.prog W 0 (fun _ => true) true n 3 ((cs.drop 1).take 1) = some (d1, q1) := by
      have h := hff 1 _ rfl
      first | exact h | (rw [Try.cells3] at h; exact h)
    obtain ⟨x1, k1⟩ := elem_int enc W _ _ _ _ h1 (fun x hx1 => hlt x (by rw [hx.2]; simp only [List.flatMap_cons, List.flatMap_nil, List.mem_append]; exact Or.inr (Or.inl hx1)))
    have h2 : DataW.trod enc Try.prog W 0 (fun _ => true) true n 3 ((cs.drop 2).take 1) = some (d2, q2) := by
      have h := hff 2 _ rfl
      first | exact h | (rw [Try.cells3] at h; exact h)
    obtain ⟨x2, k2⟩ := elem_int enc W _ _ _ _ h2 (fun x hx1 => hlt x (by rw [hx.2]; simp only [List.flatMap_cons, List.flatMap_nil, List.mem_append]; exact Or.inr (Or.inr (Or.inl hx1))))
    have h3 : DataW.trod enc Try.prog W 0 (fun _ => true) true n 3 ((cs.drop 3).take 1) = some (d3, q3) := by
      have h := hff 3 _ rfl
      first | exact h | (rw [Try.cells3] at h; exact h)
    obtain ⟨x3, k3⟩ := elem_int enc W _ _ _ _ h3 (fun x hx1 => hlt x (by rw [hx.2]; simp only [List.flatMap_cons, List.flatMap_nil, List.mem_append]; exact Or.inr (Or.inr (Or.inr (Or.inl hx1)))))
    have e : cs = (cs.drop 0).take 1 ++ ((cs.drop 1).take 1 ++ ((cs.drop 2).take 1 ++ ((cs.drop 3).take 1))) := by
      match cs, hl with
      | [z0, z1, z2, z3], _ => rfl
    have k := (k0.append (k1.append (k2.append k3)))
    rw [← e] at k
    exact ⟨_, k⟩
theorem Try.cells_Intent : Try.prog.cellsOf 145 = 5 := by kernel_rfl
set_option maxRecDepth 100000 in
theorem elem_Intent {H : Type} (enc : TypeId × Value → H) (W : World) : ElemK enc W 145 5 false := by
  intro fuel cs d p h hlt
  obtain ⟨xs, n, _, hx, hl, hxl, hff⟩ := DataW.trod_struct Try.underlying145 h
  rw [Try.cells_Intent] at hl
  simp only [Prod.mk.injEq] at hx
  match xs, hxl, hx, hff with
  | [(d0, q0), (d1, q1)], _, hx, hff =>
    have h0 : DataW.trod enc Try.prog W 0 (fun _ => true) true n 3 ((cs.drop 0).take 1) = some (d0, q0) := by
      have h := hff 0 _ rfl
      first | exact h | (rw [Try.cells3] at h; exact h)
    obtain ⟨x0, k0⟩ := elem_int enc W _ _ _ _ h0 (fun x hx1 => hlt x (by rw [hx.2]; simp only [List.flatMap_cons, List.flatMap_nil, List.mem_append]; exact Or.inl hx1))
    have h1 : DataW.trod enc Try.prog W 0 (fun _ => true) true n 143 ((cs.drop 1).take 4) = some (d1, q1) := by
      have h := hff 1 _ rfl
      first | exact h | (rw [Try.cells_Op] at h; exact h)
    obtain ⟨x1, k1⟩ := elem_Op enc W _ _ _ _ h1 (fun x hx1 => hlt x (by rw [hx.2]; simp only [List.flatMap_cons, List.flatMap_nil, List.mem_append]; exact Or.inr (Or.inl hx1)))
    have e : cs = (cs.drop 0).take 1 ++ ((cs.drop 1).take 4) := by
      match cs, hl with
      | [z0, z1, z2, z3, z4], _ => rfl
    have k := (k0.append k1)
    rw [← e] at k
    exact ⟨_, k⟩
theorem Try.cells_Seen : Try.prog.cellsOf 147 = 3 := by kernel_rfl
set_option maxRecDepth 100000 in
theorem elem_Seen {H : Type} (enc : TypeId × Value → H) (W : World) : ElemK enc W 147 3 false := by
  intro fuel cs d p h hlt
  obtain ⟨xs, n, _, hx, hl, hxl, hff⟩ := DataW.trod_struct Try.underlying147 h
  rw [Try.cells_Seen] at hl
  simp only [Prod.mk.injEq] at hx
  match xs, hxl, hx, hff with
  | [(d0, q0), (d1, q1), (d2, q2)], _, hx, hff =>
    have h0 : DataW.trod enc Try.prog W 0 (fun _ => true) true n 3 ((cs.drop 0).take 1) = some (d0, q0) := by
      have h := hff 0 _ rfl
      first | exact h | (rw [Try.cells3] at h; exact h)
    obtain ⟨x0, k0⟩ := elem_int enc W _ _ _ _ h0 (fun x hx1 => hlt x (by rw [hx.2]; simp only [List.flatMap_cons, List.flatMap_nil, List.mem_append]; exact Or.inl hx1))
    have h1 : DataW.trod enc Try.prog W 0 (fun _ => true) true n 3 ((cs.drop 1).take 1) = some (d1, q1) := by
      have h := hff 1 _ rfl
      first | exact h | (rw [Try.cells3] at h; exact h)
    obtain ⟨x1, k1⟩ := elem_int enc W _ _ _ _ h1 (fun x hx1 => hlt x (by rw [hx.2]; simp only [List.flatMap_cons, List.flatMap_nil, List.mem_append]; exact Or.inr (Or.inl hx1)))
    have h2 : DataW.trod enc Try.prog W 0 (fun _ => true) true n 3 ((cs.drop 2).take 1) = some (d2, q2) := by
      have h := hff 2 _ rfl
      first | exact h | (rw [Try.cells3] at h; exact h)
    obtain ⟨x2, k2⟩ := elem_int enc W _ _ _ _ h2 (fun x hx1 => hlt x (by rw [hx.2]; simp only [List.flatMap_cons, List.flatMap_nil, List.mem_append]; exact Or.inr (Or.inr (Or.inl hx1))))
    have e : cs = (cs.drop 0).take 1 ++ ((cs.drop 1).take 1 ++ ((cs.drop 2).take 1)) := by
      match cs, hl with
      | [z0, z1, z2], _ => rfl
    have k := (k0.append (k1.append k2))
    rw [← e] at k
    exact ⟨_, k⟩
theorem Try.cells_Commit : Try.prog.cellsOf 136 = 4 := by kernel_rfl
set_option maxRecDepth 100000 in
theorem elem_Commit {H : Type} (enc : TypeId × Value → H) (W : World) : ElemK enc W 136 3 true := by
  intro fuel cs d p h hlt
  obtain ⟨xs, n, _, hx, hl, hxl, hff⟩ := DataW.trod_struct Try.underlying136 h
  rw [Try.cells_Commit] at hl
  simp only [Prod.mk.injEq] at hx
  match xs, hxl, hx, hff with
  | [(d0, q0), (d1, q1), (d2, q2)], _, hx, hff =>
    have h0 : DataW.trod enc Try.prog W 0 (fun _ => true) true n 3 ((cs.drop 0).take 1) = some (d0, q0) := by
      have h := hff 0 _ rfl
      first | exact h | (rw [Try.cells3] at h; exact h)
    obtain ⟨x0, k0⟩ := elem_int enc W _ _ _ _ h0 (fun x hx1 => hlt x (by rw [hx.2]; simp only [List.flatMap_cons, List.flatMap_nil, List.mem_append]; exact Or.inl hx1))
    have h1 : DataW.trod enc Try.prog W 0 (fun _ => true) true n 3 ((cs.drop 1).take 1) = some (d1, q1) := by
      have h := hff 1 _ rfl
      first | exact h | (rw [Try.cells3] at h; exact h)
    obtain ⟨x1, k1⟩ := elem_int enc W _ _ _ _ h1 (fun x hx1 => hlt x (by rw [hx.2]; simp only [List.flatMap_cons, List.flatMap_nil, List.mem_append]; exact Or.inr (Or.inl hx1)))
    have h2 : DataW.trod enc Try.prog W 0 (fun _ => true) true n 131 ((cs.drop 2).take 2) = some (d2, q2) := by
      have h := hff 2 _ rfl
      first | exact h | (rw [Try.cells_Val] at h; exact h)
    obtain ⟨x2, k2⟩ := elem_Val enc W _ _ _ _ h2 (fun x hx1 => hlt x (by rw [hx.2]; simp only [List.flatMap_cons, List.flatMap_nil, List.mem_append]; exact Or.inr (Or.inr (Or.inl hx1))))
    have e : cs = (cs.drop 0).take 1 ++ ((cs.drop 1).take 1 ++ ((cs.drop 2).take 2)) := by
      match cs, hl with
      | [z0, z1, z2, z3], _ => rfl
    have k := (k0.append (k1.append k2))
    rw [← e] at k
    exact ⟨_, k⟩
theorem Try.cellsL_Row : Try.prog.cellsOf 34 = 1 := by kernel_rfl
theorem Try.cellsL_Done : Try.prog.cellsOf 35 = 1 := by kernel_rfl
theorem Try.cellsL_Intent : Try.prog.cellsOf 36 = 1 := by kernel_rfl
theorem Try.cellsL_Seen : Try.prog.cellsOf 37 = 1 := by kernel_rfl
theorem Try.cellsL_Commit : Try.prog.cellsOf 38 = 1 := by kernel_rfl
theorem Try.cells_Shard : Try.prog.cellsOf 40 = 8 := by kernel_rfl
set_option maxRecDepth 100000 in
theorem shard_of {H : Type} {enc : TypeId × Value → H} {W : World} {base : Nat} {v : Value} {d : DataW H} {p : List MemPlace} (hv : Value.okWide Try.prog W .any base 40 v)
    (h : DataW.Trod enc Try.prog W 0 (fun _ => true) true 40 v d p) (hlt : ∀ x ∈ p, x.block < W.heap.size) : ∃ (i0 i1 i2 : Int) (u0 u1 u2 u3 u4 : Value) (L0 L1 L2 L3 L4 : List KD), v = .agg #[.int .i64 i0, .int .i64 i1, .int .i64 i2, u0, u1, u2, u3, u4] ∧ RSShard W u0 u1 u2 u3 u4 L0 L1 L2 L3 L4 := by
  obtain ⟨cs, rfl, hsz⟩ := okWide_struct Try.underlying40 hv
  rw [Try.cells_Shard] at hsz
  obtain ⟨z0, z1, z2, z3, z4, z5, z6, z7, rfl⟩ : ∃ z0 z1 z2 z3 z4 z5 z6 z7, cs = #[z0, z1, z2, z3, z4, z5, z6, z7] := by
    obtain ⟨l⟩ := cs
    match l, hsz with
    | [z0, z1, z2, z3, z4, z5, z6, z7], _ => exact ⟨z0, z1, z2, z3, z4, z5, z6, z7, rfl⟩
  obtain ⟨fuel, hf⟩ := h
  obtain ⟨xs, n, _, hx, _, hxl, hff⟩ := DataW.trod_struct Try.underlying40 hf
  simp only [Prod.mk.injEq] at hx
  match xs, hxl, hx, hff with
  | [(d0, q0), (d1, q1), (d2, q2), (d3, q3), (d4, q4), (d5, q5), (d6, q6), (d7, q7)], _, hx, hff =>
    have h0 := hff 0 _ rfl
    simp [Value.cells, Try.cells3] at h0
    obtain ⟨i0, hz0, _⟩ := DataW.trod_int Try.underlying3 h0
    have hz0' : z0 = .int .i64 i0 := by simpa using hz0
    have h1 := hff 1 _ rfl
    simp [Value.cells, Try.cells3] at h1
    obtain ⟨i1, hz1, _⟩ := DataW.trod_int Try.underlying3 h1
    have hz1' : z1 = .int .i64 i1 := by simpa using hz1
    have h2 := hff 2 _ rfl
    simp [Value.cells, Try.cells3] at h2
    obtain ⟨i2, hz2, _⟩ := DataW.trod_int Try.underlying3 h2
    have hz2' : z2 = .int .i64 i2 := by simpa using hz2
    have h3 := hff 3 _ rfl
    simp [Value.cells, Try.cellsL_Row] at h3
    obtain ⟨L0, hL0⟩ := rdM_of_trod (sz := 3) (m := 2) (kn := true) Try.underlying34 Try.cells_Row (by decide) (elem_Row enc W) h3 (fun x hx1 => hlt x (by rw [hx.2]; simp only [List.flatMap_cons, List.flatMap_nil, List.mem_append]; exact Or.inr (Or.inr (Or.inr (Or.inl hx1)))))
    have h4 := hff 4 _ rfl
    simp [Value.cells, Try.cellsL_Done] at h4
    obtain ⟨L1, hL1⟩ := rdM_of_trod (sz := 6) (m := 6) (kn := false) Try.underlying35 Try.cells_Done (by decide) (elem_Done enc W) h4 (fun x hx1 => hlt x (by rw [hx.2]; simp only [List.flatMap_cons, List.flatMap_nil, List.mem_append]; exact Or.inr (Or.inr (Or.inr (Or.inr (Or.inl hx1))))))
    have h5 := hff 5 _ rfl
    simp [Value.cells, Try.cellsL_Intent] at h5
    obtain ⟨L2, hL2⟩ := rdM_of_trod (sz := 5) (m := 5) (kn := false) Try.underlying36 Try.cells_Intent (by decide) (elem_Intent enc W) h5 (fun x hx1 => hlt x (by rw [hx.2]; simp only [List.flatMap_cons, List.flatMap_nil, List.mem_append]; exact Or.inr (Or.inr (Or.inr (Or.inr (Or.inr (Or.inl hx1)))))))
    have h6 := hff 6 _ rfl
    simp [Value.cells, Try.cellsL_Seen] at h6
    obtain ⟨L3, hL3⟩ := rdM_of_trod (sz := 3) (m := 3) (kn := false) Try.underlying37 Try.cells_Seen (by decide) (elem_Seen enc W) h6 (fun x hx1 => hlt x (by rw [hx.2]; simp only [List.flatMap_cons, List.flatMap_nil, List.mem_append]; exact Or.inr (Or.inr (Or.inr (Or.inr (Or.inr (Or.inr (Or.inl hx1))))))))
    have h7 := hff 7 _ rfl
    simp [Value.cells, Try.cellsL_Commit] at h7
    obtain ⟨L4, hL4⟩ := rdM_of_trod (sz := 4) (m := 3) (kn := true) Try.underlying38 Try.cells_Commit (by decide) (elem_Commit enc W) h7 (fun x hx1 => hlt x (by rw [hx.2]; simp only [List.flatMap_cons, List.flatMap_nil, List.mem_append]; exact Or.inr (Or.inr (Or.inr (Or.inr (Or.inr (Or.inr (Or.inr (Or.inl hx1)))))))))
    exact ⟨i0, i1, i2, z3, z4, z5, z6, z7, L0, L1, L2, L3, L4, by rw [hz0', hz1', hz2'], ⟨hL0, hL1, hL2, hL3, hL4⟩⟩
end Go.Proofs.Ytkmhnjgncnoddaa
