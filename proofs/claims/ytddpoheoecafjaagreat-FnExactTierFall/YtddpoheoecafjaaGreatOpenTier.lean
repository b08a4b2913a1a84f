/- An argument that is a tier. Written by a program (gti.py). -/
import Derived.Test.YtddpoheoecafjaaGreatOpenCache
import Derived.Test.YtddpoheoecafjaaGreatSTier
import Derived.ChangeArms
namespace Go.Proofs.YtddpoheoecafjaaGreat
open Go.ChangeShapes Go.WideShapes Go.ChangeAt Go.RowKit Go.Deep Go.Joins

theorem trod_array2 {H : Type} {enc : TypeId × Value → H} {P : Program} {w : World} {base : Nat} {spare : Nat → Bool} {held : Bool} {t e : TypeId} {fuel : Nat} {c0 c1 : Value} {x : DataW H × List MemPlace} (ht : P.underlying t = some (.array 2 e)) (hce : P.cellsOf e = 1)
    (h : DataW.trod enc P w base spare held fuel t [c0, c1] = some x) : ∃ y0 y1 n, DataW.trod enc P w base spare held n e [c0] = some y0 ∧ DataW.trod enc P w base spare held n e [c1] = some y1 := by
  cases fuel with
  | zero => simp [DataW.trod] at h
  | succ n =>
    unfold DataW.trod at h
    rw [ht] at h
    have r2 : List.range 2 = [0, 1] := rfl
    simp [r2, hce] at h
    obtain ⟨_, h⟩ := h
    cases h0 : DataW.trod enc P w base spare held n e [c0] with
    | none => simp [h0] at h
    | some y0 =>
      cases h1 : DataW.trod enc P w base spare held n e [c1] with
      | none => simp [h0, h1] at h
      | some y1 => exact ⟨y0, y1, n, h0, h1⟩
theorem Tryz.cells_A2 : Tryz.prog.cellsOf 22 = 2 := by kernel_rfl
theorem Tryz.cells_B1 : Tryz.prog.cellsOf 4 = 1 := by kernel_rfl
theorem Tryz.cells_OpL : Tryz.prog.cellsOf 24 = 4 := by kernel_rfl
theorem Tryz.shp_A2 : Tryz.prog.underlying 22 = some (.array 2 4) := by kernel_rfl
theorem Tryz.shp_BL : Tryz.prog.underlying 4 = some .bool := by kernel_rfl
theorem Tryz.cells_Tier : Tryz.prog.cellsOf 30 = 14 := by kernel_rfl
set_option maxRecDepth 100000 in
set_option maxHeartbeats 4000000 in
theorem tier_of {H : Type} {enc : TypeId × Value → H} {W : World} {base : Nat} {v : Value} {d : DataW H} {p : List MemPlace} (hv : Value.okWide Tryz.prog W .any base 30 v)
    (h : DataW.Trod enc Tryz.prog W 0 (fun _ => true) true 30 v d p) (hlt : ∀ x ∈ p, x.block < W.heap.size) :
    ∃ (i0 i1 i2 : Int) (q0 q1 q2 q3 : Bool) (i3 i4 i5 i6 i7 : Int) (u0 u1 : Value) (L0 L1 : List KD), v = .agg #[.int .i64 i0, .int .i64 i1, .int .i64 i2, .bool q0, .bool q1, .bool q2, .bool q3, .int .i64 i3, .int .i64 i4, .int .i64 i5, .int .i64 i6, .int .i64 i7, u0, u1] ∧ RSCache W u0 u1 L0 L1 := by
  obtain ⟨cs, rfl, hsz⟩ := okWide_struct Tryz.underlying30 hv
  rw [Tryz.cells_Tier] at hsz
  obtain ⟨z0, z1, z2, z3, z4, z5, z6, z7, z8, z9, z10, z11, z12, z13, rfl⟩ : ∃ z0 z1 z2 z3 z4 z5 z6 z7 z8 z9 z10 z11 z12 z13, cs = #[z0, z1, z2, z3, z4, z5, z6, z7, z8, z9, z10, z11, z12, z13] := by
    obtain ⟨l⟩ := cs
    match l, hsz with
    | [z0, z1, z2, z3, z4, z5, z6, z7, z8, z9, z10, z11, z12, z13], _ => exact ⟨z0, z1, z2, z3, z4, z5, z6, z7, z8, z9, z10, z11, z12, z13, rfl⟩
  obtain ⟨fuel, hf⟩ := h
  obtain ⟨xs, n, _, hx, _, hxl, hff⟩ := DataW.trod_struct Tryz.underlying30 hf
  simp only [Prod.mk.injEq] at hx
  match xs, hxl, hx, hff with
  | [(d0, g0), (d1, g1), (d2, g2), (d3, g3), (d4, g4), (d5, g5), (d6, g6), (d7, g7), (d8, g8)], _, hx, hff =>
    have h0 := hff 0 _ rfl
    simp [Value.cells, Tryz.cells3] at h0
    obtain ⟨j0, hz0, _⟩ := DataW.trod_int Tryz.underlying3 h0
    have hy0 : z0 = .int .i64 j0 := by simpa using hz0
    have h1 := hff 1 _ rfl
    simp [Value.cells, Tryz.cells3] at h1
    obtain ⟨j1, hz1, _⟩ := DataW.trod_int Tryz.underlying3 h1
    have hy1 : z1 = .int .i64 j1 := by simpa using hz1
    have h2 := hff 2 _ rfl
    simp [Value.cells, Tryz.cells3] at h2
    obtain ⟨j2, hz2, _⟩ := DataW.trod_int Tryz.underlying3 h2
    have hy2 : z2 = .int .i64 j2 := by simpa using hz2
    have h3 := hff 3 _ rfl
    simp [Value.cells, Tryz.cells_A2] at h3
    obtain ⟨_, _, _, ha, hb⟩ := trod_array2 Tryz.shp_A2 Tryz.cells_B1 h3
    obtain ⟨ba, hza, _⟩ := DataW.trod_bool Tryz.shp_BL ha
    obtain ⟨bb, hzb, _⟩ := DataW.trod_bool Tryz.shp_BL hb
    have hya : z3 = .bool ba := by simpa using hza
    have hyb : z4 = .bool bb := by simpa using hzb
    have h4 := hff 4 _ rfl
    simp [Value.cells, Tryz.cells_B1] at h4
    obtain ⟨b4, hz4, _⟩ := DataW.trod_bool Tryz.shp_BL h4
    have hy4 : z5 = .bool b4 := by simpa using hz4
    have h5 := hff 5 _ rfl
    simp [Value.cells, Tryz.cells_B1] at h5
    obtain ⟨b5, hz5, _⟩ := DataW.trod_bool Tryz.shp_BL h5
    have hy5 : z6 = .bool b5 := by simpa using hz5
    have h6 := hff 6 _ rfl
    simp [Value.cells, Tryz.cells3] at h6
    obtain ⟨j6, hz6, _⟩ := DataW.trod_int Tryz.underlying3 h6
    have hy6 : z7 = .int .i64 j6 := by simpa using hz6
    have h7 := hff 7 _ rfl
    simp [Value.cells, Tryz.cells_OpL] at h7
    obtain ⟨ys, m, _, hx7, _, hyl, hgg⟩ := DataW.trod_struct Tryz.underlying24 h7
    match ys, hyl, hgg with
    | [(e0, f0), (e1, f1), (e2, f2), (e3, f3)], _, hgg =>
    have k0 := hgg 0 _ rfl
    simp [Tryz.cells3] at k0
    obtain ⟨o0, hw0, _⟩ := DataW.trod_int Tryz.underlying3 k0
    have hv0 : z8 = .int .i64 o0 := by simpa using hw0
    have k1 := hgg 1 _ rfl
    simp [Tryz.cells3] at k1
    obtain ⟨o1, hw1, _⟩ := DataW.trod_int Tryz.underlying3 k1
    have hv1 : z9 = .int .i64 o1 := by simpa using hw1
    have k2 := hgg 2 _ rfl
    simp [Tryz.cells3] at k2
    obtain ⟨o2, hw2, _⟩ := DataW.trod_int Tryz.underlying3 k2
    have hv2 : z10 = .int .i64 o2 := by simpa using hw2
    have k3 := hgg 3 _ rfl
    simp [Tryz.cells3] at k3
    obtain ⟨o3, hw3, _⟩ := DataW.trod_int Tryz.underlying3 k3
    have hv3 : z11 = .int .i64 o3 := by simpa using hw3
    have h8 := hff 8 _ rfl
    simp [Value.cells, Tryz.cells_Cache] at h8
    obtain ⟨zs, m8, _, hx8, _, hzl, hkk⟩ := DataW.trod_struct Tryz.underlying28 h8
    simp only [Prod.mk.injEq] at hx8
    match zs, hzl, hx8, hkk with
    | [(y0, t0), (y1, t1)], _, hx8, hkk =>
    have r0 := hkk 0 _ rfl
    simp [Tryz.cellsL_Item] at r0
    obtain ⟨L0, hL0⟩ := rdM_of_trod (sz := 4) (m := 3) (kn := true) Tryz.underlying25 Tryz.cells_Item (by decide) (elem_Item enc W) r0 (fun x hx1 => hlt x (by rw [hx.2]; simp only [List.flatMap_cons, List.flatMap_nil, List.mem_append]; exact Or.inr (Or.inr (Or.inr (Or.inr (Or.inr (Or.inr (Or.inr (Or.inr (Or.inl (by rw [hx8.2]; simp only [List.flatMap_cons, List.flatMap_nil, List.mem_append]; exact Or.inl hx1)))))))))))
    have r1 := hkk 1 _ rfl
    simp [Tryz.cellsL_int] at r1
    obtain ⟨L1, hL1⟩ := rdM_of_trod (sz := 1) (m := 1) (kn := false) Tryz.underlying26 Tryz.cells3 (by decide) (elem_int enc W) r1 (fun x hx1 => hlt x (by rw [hx.2]; simp only [List.flatMap_cons, List.flatMap_nil, List.mem_append]; exact Or.inr (Or.inr (Or.inr (Or.inr (Or.inr (Or.inr (Or.inr (Or.inr (Or.inl (by rw [hx8.2]; simp only [List.flatMap_cons, List.flatMap_nil, List.mem_append]; exact Or.inr (Or.inl hx1))))))))))))
    subst hy0 hy1 hy2 hya hyb hy4 hy5 hy6 hv0 hv1 hv2 hv3
    exact ⟨j0, j1, j2, ba, bb, b4, b5, j6, o0, o1, o2, o3, z12, z13, L0, L1, rfl, ⟨hL0, hL1⟩⟩
end Go.Proofs.YtddpoheoecafjaaGreat
