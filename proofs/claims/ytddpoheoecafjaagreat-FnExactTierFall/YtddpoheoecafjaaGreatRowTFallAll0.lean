/- Proved here: FnExactTierFall returns true for every tier (no condition); what it was handed reads as before. -/
import Derived.Test.YtddpoheoecafjaaGreatOpenM
import Derived.Test.YtddpoheoecafjaaGreatGrA
import Derived.Test.YtddpoheoecafjaaGreatSTier
import Derived.ChangeArms
import Derived.Test.YtddpoheoecafjaaGreatLawTFall
/- Part: An argument that is a Cache. Written by a program (gopen.py). -/
namespace Go.Proofs.YtddpoheoecafjaaGreat
open Go.ChangeShapes Go.WideShapes Go.ChangeAt Go.RowKit Go.Deep Go.Joins

theorem Tryz.cells_Val : Tryz.prog.cellsOf 135 = 2 := by kernel_rfl
set_option maxRecDepth 100000 in
theorem elem_Val {H : Type} (enc : TypeId × Value → H) (W : World) : ElemK enc W 135 1 true := by
  intro fuel cs d p h hlt
  obtain ⟨xs, n, _, hx, hl, hxl, hff⟩ := DataW.trod_struct Tryz.underlying135 h
  rw [Tryz.cells_Val] at hl
  simp only [Prod.mk.injEq] at hx
  match xs, hxl, hx, hff with
  | [(d0, q0), (d1, q1)], _, hx, hff =>
    have h0 : DataW.trod enc Tryz.prog W 0 (fun _ => true) true n 3 ((cs.drop 0).take 1) = some (d0, q0) := by
      have h := hff 0 _ rfl
      first | exact h | (rw [Tryz.cells3] at h; exact h)
    obtain ⟨x0, k0⟩ := elem_int enc W _ _ _ _ h0 (fun x hx1 => hlt x (by rw [hx.2]; simp only [List.flatMap_cons, List.flatMap_nil, List.mem_append]; exact Or.inl hx1))
    have h1 : DataW.trod enc Tryz.prog W 0 (fun _ => true) true n 133 ((cs.drop 1).take 1) = some (d1, q1) := by
      have h := hff 1 _ rfl
      first | exact h | (rw [Tryz.cells133'] at h; exact h)
    obtain ⟨x1, k1⟩ := elem_kin enc W _ _ _ _ h1 (fun x hx1 => hlt x (by rw [hx.2]; simp only [List.flatMap_cons, List.flatMap_nil, List.mem_append]; exact Or.inr (Or.inl hx1)))
    have e : cs = (cs.drop 0).take 1 ++ ((cs.drop 1).take 1) := by
      match cs, hl with
      | [z0, z1], _ => rfl
    have k := (k0.append k1)
    rw [← e] at k
    exact ⟨_, k⟩
theorem Tryz.cells_Item : Tryz.prog.cellsOf 137 = 4 := by kernel_rfl
set_option maxRecDepth 100000 in
theorem elem_Item {H : Type} (enc : TypeId × Value → H) (W : World) : ElemK enc W 137 3 true := by
  intro fuel cs d p h hlt
  obtain ⟨xs, n, _, hx, hl, hxl, hff⟩ := DataW.trod_struct Tryz.underlying137 h
  rw [Tryz.cells_Item] at hl
  simp only [Prod.mk.injEq] at hx
  match xs, hxl, hx, hff with
  | [(d0, q0), (d1, q1), (d2, q2)], _, hx, hff =>
    have h0 : DataW.trod enc Tryz.prog W 0 (fun _ => true) true n 3 ((cs.drop 0).take 1) = some (d0, q0) := by
      have h := hff 0 _ rfl
      first | exact h | (rw [Tryz.cells3] at h; exact h)
    obtain ⟨x0, k0⟩ := elem_int enc W _ _ _ _ h0 (fun x hx1 => hlt x (by rw [hx.2]; simp only [List.flatMap_cons, List.flatMap_nil, List.mem_append]; exact Or.inl hx1))
    have h1 : DataW.trod enc Tryz.prog W 0 (fun _ => true) true n 3 ((cs.drop 1).take 1) = some (d1, q1) := by
      have h := hff 1 _ rfl
      first | exact h | (rw [Tryz.cells3] at h; exact h)
    obtain ⟨x1, k1⟩ := elem_int enc W _ _ _ _ h1 (fun x hx1 => hlt x (by rw [hx.2]; simp only [List.flatMap_cons, List.flatMap_nil, List.mem_append]; exact Or.inr (Or.inl hx1)))
    have h2 : DataW.trod enc Tryz.prog W 0 (fun _ => true) true n 135 ((cs.drop 2).take 2) = some (d2, q2) := by
      have h := hff 2 _ rfl
      first | exact h | (rw [Tryz.cells_Val] at h; exact h)
    obtain ⟨x2, k2⟩ := elem_Val enc W _ _ _ _ h2 (fun x hx1 => hlt x (by rw [hx.2]; simp only [List.flatMap_cons, List.flatMap_nil, List.mem_append]; exact Or.inr (Or.inr (Or.inl hx1))))
    have e : cs = (cs.drop 0).take 1 ++ ((cs.drop 1).take 1 ++ ((cs.drop 2).take 2)) := by
      match cs, hl with
      | [z0, z1, z2, z3], _ => rfl
    have k := (k0.append (k1.append k2))
    rw [← e] at k
    exact ⟨_, k⟩
theorem Tryz.cellsL_Item : Tryz.prog.cellsOf 25 = 1 := by kernel_rfl
theorem Tryz.cellsL_int : Tryz.prog.cellsOf 26 = 1 := by kernel_rfl
theorem Tryz.cells_Cache : Tryz.prog.cellsOf 28 = 2 := by kernel_rfl
set_option maxRecDepth 100000 in
theorem cache_of {H : Type} {enc : TypeId × Value → H} {W : World} {base : Nat} {v : Value} {d : DataW H} {p : List MemPlace} (hv : Value.okWide Tryz.prog W .any base 28 v)
    (h : DataW.Trod enc Tryz.prog W 0 (fun _ => true) true 28 v d p) (hlt : ∀ x ∈ p, x.block < W.heap.size) : ∃ (u0 u1 : Value) (L0 L1 : List KD), v = .agg #[u0, u1] ∧ RSCache W u0 u1 L0 L1 := by
  obtain ⟨cs, rfl, hsz⟩ := okWide_struct Tryz.underlying28 hv
  rw [Tryz.cells_Cache] at hsz
  obtain ⟨z0, z1, rfl⟩ : ∃ z0 z1, cs = #[z0, z1] := by
    obtain ⟨l⟩ := cs
    match l, hsz with
    | [z0, z1], _ => exact ⟨z0, z1, rfl⟩
  obtain ⟨fuel, hf⟩ := h
  obtain ⟨xs, n, _, hx, _, hxl, hff⟩ := DataW.trod_struct Tryz.underlying28 hf
  simp only [Prod.mk.injEq] at hx
  match xs, hxl, hx, hff with
  | [(d0, q0), (d1, q1)], _, hx, hff =>
    have h0 := hff 0 _ rfl
    simp [Value.cells, Tryz.cellsL_Item] at h0
    obtain ⟨L0, hL0⟩ := rdM_of_trod (sz := 4) (m := 3) (kn := true) Tryz.underlying25 Tryz.cells_Item (by decide) (elem_Item enc W) h0 (fun x hx1 => hlt x (by rw [hx.2]; simp only [List.flatMap_cons, List.flatMap_nil, List.mem_append]; exact Or.inl hx1))
    have h1 := hff 1 _ rfl
    simp [Value.cells, Tryz.cellsL_int] at h1
    obtain ⟨L1, hL1⟩ := rdM_of_trod (sz := 1) (m := 1) (kn := false) Tryz.underlying26 Tryz.cells3 (by decide) (elem_int enc W) h1 (fun x hx1 => hlt x (by rw [hx.2]; simp only [List.flatMap_cons, List.flatMap_nil, List.mem_append]; exact Or.inr (Or.inl hx1)))
    exact ⟨z0, z1, L0, L1, rfl, ⟨hL0, hL1⟩⟩
end Go.Proofs.YtddpoheoecafjaaGreat

/- Part: An argument that is a tier. Written by a program (gti.py). -/
namespace Go.Proofs.YtddpoheoecafjaaGreat
open Go.ChangeShapes Go.WideShapes Go.ChangeAt Go.RowKit Go.Deep Go.Joins

theorem trod_array2 {H : Type} {enc : TypeId × Value → H} {P : Program} {w : World} {base : Nat} {spare : Nat → Bool} {held : Bool} {t e : TypeId} {fuel : Nat} {c0 c1 : Value} {x : DataW H × List MemPlace} (ht : P.underlying t = some (.array 2 e)) (hce : P.cellsOf e = 1)
    (h : DataW.trod enc P w base spare held fuel t [c0, c1] = some x) : ∃ y0 y1 n, DataW.trod enc P w base spare held n e [c0] = some y0 ∧ DataW.trod enc P w base spare held n e [c1] = some y1 := by
  cases fuel with
  | zero => simp [DataW.trod] at h
  | succ n =>
    unfold DataW.trod at h
    rw [ht] at h
    have r2 : List.range 2 = [0, 1] := rfl
    simp [r2, hce] at h
    obtain ⟨_, h⟩ := h
    cases h0 : DataW.trod enc P w base spare held n e [c0] with
    | none => simp [h0] at h
    | some y0 =>
      cases h1 : DataW.trod enc P w base spare held n e [c1] with
      | none => simp [h0, h1] at h
      | some y1 => exact ⟨y0, y1, n, h0, h1⟩
theorem Tryz.cells_A2 : Tryz.prog.cellsOf 22 = 2 := by kernel_rfl
theorem Tryz.cells_B1 : Tryz.prog.cellsOf 4 = 1 := by kernel_rfl
theorem Tryz.cells_OpL : Tryz.prog.cellsOf 24 = 4 := by kernel_rfl
theorem Tryz.shp_A2 : Tryz.prog.underlying 22 = some (.array 2 4) := by kernel_rfl
theorem Tryz.shp_BL : Tryz.prog.underlying 4 = some .bool := by kernel_rfl
theorem Tryz.cells_Tier : Tryz.prog.cellsOf 30 = 14 := by kernel_rfl
set_option maxRecDepth 100000 in
set_option maxHeartbeats 4000000 in
theorem tier_of {H : Type} {enc : TypeId × Value → H} {W : World} {base : Nat} {v : Value} {d : DataW H} {p : List MemPlace} (hv : Value.okWide Tryz.prog W .any base 30 v)
    (h : DataW.Trod enc Tryz.prog W 0 (fun _ => true) true 30 v d p) (hlt : ∀ x ∈ p, x.block < W.heap.size) :
    ∃ (i0 i1 i2 : Int) (q0 q1 q2 q3 : Bool) (i3 i4 i5 i6 i7 : Int) (u0 u1 : Value) (L0 L1 : List KD), v = .agg #[.int .i64 i0, .int .i64 i1, .int .i64 i2, .bool q0, .bool q1, .bool q2, .bool q3, .int .i64 i3, .int .i64 i4, .int .i64 i5, .int .i64 i6, .int .i64 i7, u0, u1] ∧ RSCache W u0 u1 L0 L1 := by
  obtain ⟨cs, rfl, hsz⟩ := okWide_struct Tryz.underlying30 hv
  rw [Tryz.cells_Tier] at hsz
  obtain ⟨z0, z1, z2, z3, z4, z5, z6, z7, z8, z9, z10, z11, z12, z13, rfl⟩ : ∃ z0 z1 z2 z3 z4 z5 z6 z7 z8 z9 z10 z11 z12 z13, cs = #[z0, z1, z2, z3, z4, z5, z6, z7, z8, z9, z10, z11, z12, z13] := by
    obtain ⟨l⟩ := cs
    match l, hsz with
    | [z0, z1, z2, z3, z4, z5, z6, z7, z8, z9, z10, z11, z12, z13], _ => exact ⟨z0, z1, z2, z3, z4, z5, z6, z7, z8, z9, z10, z11, z12, z13, rfl⟩
  obtain ⟨fuel, hf⟩ := h
  obtain ⟨xs, n, _, hx, _, hxl, hff⟩ := DataW.trod_struct Tryz.underlying30 hf
  simp only [Prod.mk.injEq] at hx
  match xs, hxl, hx, hff with
  | [(d0, g0), (d1, g1), (d2, g2), (d3, g3), (d4, g4), (d5, g5), (d6, g6), (d7, g7), (d8, g8)], _, hx, hff =>
    have h0 := hff 0 _ rfl
    simp [Value.cells, Tryz.cells3] at h0
    obtain ⟨j0, hz0, _⟩ := DataW.trod_int Tryz.underlying3 h0
    have hy0 : z0 = .int .i64 j0 := by simpa using hz0
    have h1 := hff 1 _ rfl
    simp [Value.cells, Tryz.cells3] at h1
    obtain ⟨j1, hz1, _⟩ := DataW.trod_int Tryz.underlying3 h1
    have hy1 : z1 = .int .i64 j1 := by simpa using hz1
    have h2 := hff 2 _ rfl
    simp [Value.cells, Tryz.cells3] at h2
    obtain ⟨j2, hz2, _⟩ := DataW.trod_int Tryz.underlying3 h2
    have hy2 : z2 = .int .i64 j2 := by simpa using hz2
    have h3 := hff 3 _ rfl
    simp [Value.cells, Tryz.cells_A2] at h3
    obtain ⟨_, _, _, ha, hb⟩ := trod_array2 Tryz.shp_A2 Tryz.cells_B1 h3
    obtain ⟨ba, hza, _⟩ := DataW.trod_bool Tryz.shp_BL ha
    obtain ⟨bb, hzb, _⟩ := DataW.trod_bool Tryz.shp_BL hb
    have hya : z3 = .bool ba := by simpa using hza
    have hyb : z4 = .bool bb := by simpa using hzb
    have h4 := hff 4 _ rfl
    simp [Value.cells, Tryz.cells_B1] at h4
    obtain ⟨b4, hz4, _⟩ := DataW.trod_bool Tryz.shp_BL h4
    have hy4 : z5 = .bool b4 := by simpa using hz4
    have h5 := hff 5 _ rfl
    simp [Value.cells, Tryz.cells_B1] at h5
    obtain ⟨b5, hz5, _⟩ := DataW.trod_bool Tryz.shp_BL h5
    have hy5 : z6 = .bool b5 := by simpa using hz5
    have h6 := hff 6 _ rfl
    simp [Value.cells, Tryz.cells3] at h6
    obtain ⟨j6, hz6, _⟩ := DataW.trod_int Tryz.underlying3 h6
    have hy6 : z7 = .int .i64 j6 := by simpa using hz6
    have h7 := hff 7 _ rfl
    simp [Value.cells, Tryz.cells_OpL] at h7
    obtain ⟨ys, m, _, hx7, _, hyl, hgg⟩ := DataW.trod_struct Tryz.underlying24 h7
    match ys, hyl, hgg with
    | [(e0, f0), (e1, f1), (e2, f2), (e3, f3)], _, hgg =>
    have k0 := hgg 0 _ rfl
    simp [Tryz.cells3] at k0
    obtain ⟨o0, hw0, _⟩ := DataW.trod_int Tryz.underlying3 k0
    have hv0 : z8 = .int .i64 o0 := by simpa using hw0
    have k1 := hgg 1 _ rfl
    simp [Tryz.cells3] at k1
    obtain ⟨o1, hw1, _⟩ := DataW.trod_int Tryz.underlying3 k1
    have hv1 : z9 = .int .i64 o1 := by simpa using hw1
    have k2 := hgg 2 _ rfl
    simp [Tryz.cells3] at k2
    obtain ⟨o2, hw2, _⟩ := DataW.trod_int Tryz.underlying3 k2
    have hv2 : z10 = .int .i64 o2 := by simpa using hw2
    have k3 := hgg 3 _ rfl
    simp [Tryz.cells3] at k3
    obtain ⟨o3, hw3, _⟩ := DataW.trod_int Tryz.underlying3 k3
    have hv3 : z11 = .int .i64 o3 := by simpa using hw3
    have h8 := hff 8 _ rfl
    simp [Value.cells, Tryz.cells_Cache] at h8
    obtain ⟨zs, m8, _, hx8, _, hzl, hkk⟩ := DataW.trod_struct Tryz.underlying28 h8
    simp only [Prod.mk.injEq] at hx8
    match zs, hzl, hx8, hkk with
    | [(y0, t0), (y1, t1)], _, hx8, hkk =>
    have r0 := hkk 0 _ rfl
    simp [Tryz.cellsL_Item] at r0
    obtain ⟨L0, hL0⟩ := rdM_of_trod (sz := 4) (m := 3) (kn := true) Tryz.underlying25 Tryz.cells_Item (by decide) (elem_Item enc W) r0 (fun x hx1 => hlt x (by rw [hx.2]; simp only [List.flatMap_cons, List.flatMap_nil, List.mem_append]; exact Or.inr (Or.inr (Or.inr (Or.inr (Or.inr (Or.inr (Or.inr (Or.inr (Or.inl (by rw [hx8.2]; simp only [List.flatMap_cons, List.flatMap_nil, List.mem_append]; exact Or.inl hx1)))))))))))
    have r1 := hkk 1 _ rfl
    simp [Tryz.cellsL_int] at r1
    obtain ⟨L1, hL1⟩ := rdM_of_trod (sz := 1) (m := 1) (kn := false) Tryz.underlying26 Tryz.cells3 (by decide) (elem_int enc W) r1 (fun x hx1 => hlt x (by rw [hx.2]; simp only [List.flatMap_cons, List.flatMap_nil, List.mem_append]; exact Or.inr (Or.inr (Or.inr (Or.inr (Or.inr (Or.inr (Or.inr (Or.inr (Or.inl (by rw [hx8.2]; simp only [List.flatMap_cons, List.flatMap_nil, List.mem_append]; exact Or.inr (Or.inl hx1))))))))))))
    subst hy0 hy1 hy2 hya hyb hy4 hy5 hy6 hv0 hv1 hv2 hv3
    exact ⟨j0, j1, j2, ba, bb, b4, b5, j6, o0, o1, o2, o3, z12, z13, L0, L1, rfl, ⟨hL0, hL1⟩⟩
end Go.Proofs.YtddpoheoecafjaaGreat

/- Part: Proved here: FnExactTierFall returns true for every tier (no condition); what it was handed reads as before. -/
namespace Go.Proofs.YtddpoheoecafjaaGreat
open Go.ChangeShapes Go.WideShapes Go.ChangeAt Go.RowKit

set_option maxRecDepth 100000 in
theorem tFall_lifted (os : Os) (started : os.Started) (H : Type) (enc : TypeId × Value → H) :
    ReturnsInHanded {} Tryz.checked os 7 .any (Rows.fnExactTierFallSpec.pre6 enc Tryz.prog Tryz.f7 Rows.fnExactTierFallRow.domain false) (Rows.fnExactTierFallSpec.post enc Tryz.prog Tryz.f7 false true false false) := by
  refine returnsInHanded_of_change (C := Tryz.checked) Tryz.own started (by kernel_rfl) Tryz.func7
    (ChangeSpec.witness6 (enc := enc) (C := Tryz.checked) false ⟨#[], #[.agg #[.int .i64 0, .int .i64 0, .int .i64 0, .bool false, .bool false, .bool false, .bool false, .int .i64 0, .int .i64 0, .int .i64 0, .int .i64 0, .int .i64 0, .slice none 0 0, .slice none 0 0]], []⟩ 8 (by kernel_rfl) (by kernel_rfl) (by kernel_rfl) (by kernel_rfl)) ?_
  intro W base args ds gs before hval0 hW _ _
  have hval : ∀ (j : Nat) t v, Tryz.f7.params[j]? = some t → args[j]? = some v → Value.okWide Tryz.prog W .any base t v := hval0
  have hW' := hW
  obtain ⟨p, q, hA0, hV, rfl, _, _⟩ := hW
  have hA : DataW.TrodAll enc Tryz.prog W 0 (fun _ => true) true Tryz.f7.params.toList args.toList ds p := hA0
  rw [Tryz.params7] at hA hval
  obtain ⟨v0, d0, rfl, rfl, h0⟩ := trodAll_one hA
  obtain ⟨rfl, rfl⟩ := trodVars_none hV
  clear hA0 hval0
  simp only [List.append_nil] at hW'
  have hlt0 : ∀ x ∈ p, x.block < W.heap.size := fun x hx => by have := hW'.lt x (by first | exact hx | (simp; first | exact hx | exact Or.inl hx | exact Or.inr hx | exact Or.inr (Or.inl hx))); exact this
  obtain ⟨i0_0, i0_1, i0_2, i0_3, i0_4, i0_5, i0_6, i0_7, i0_8, i0_9, i0_10, i0_11, u0_0, u0_1, l0_0, l0_1, ev0, hl0⟩ := tier_of (hval 0 30 v0 rfl rfl) h0 hlt0
  have hargs0 : ∀ (W' : World), Below W.heap.size W W' → DataW.Trod enc Tryz.prog W' 0 (fun b => decide (b < W.heap.size)) true 30 v0 d0 p :=
    fun W' hn => Below.trod Tryz.laidOut (by kernel_rfl) (of_decide_eq_true (by kernel_rfl)) h0 hn hlt0
  subst ev0
  refine (lawTFall_any i0_0 i0_1 i0_2 i0_3 i0_4 i0_5 i0_6 i0_7 i0_8 i0_9 i0_10 i0_11 u0_0 u0_1 l0_0 l0_1 W hl0).mono fun e W' ⟨he, hnx⟩ => ?_
  subst he
  exact ⟨_, rfl, _, _, _, [], p, [], hW', trodAll_mk1 (shut_bool Tryz.underlying4 _), trodAll_mk1 (hargs0 _ hnx), rfl, hnx.frame _, fun h => by cases h⟩

theorem tFall_holds : Rows.FnExactTierFallSaid :=
  OpenClaim.holds_of_wide 7 Tryz.f7 rfl rfl rfl rfl rfl rfl rfl ⟨rfl, rfl, rfl, rfl, rfl⟩ rfl rfl rfl rfl rfl (by kernel_rfl) Tryz.func7 (by kernel_rfl)
    (of_decide_eq_true (by kernel_rfl)) (by unfold Func.isWrapper; first | (rw [if_pos (by decide +kernel)]; kernel_rfl) | (rw [if_neg (by decide +kernel)]; exact ⟨rfl, rfl⟩))
    (fun os started H enc _ => tFall_lifted os started H enc)
#print axioms tFall_holds

end Go.Proofs.YtddpoheoecafjaaGreat
