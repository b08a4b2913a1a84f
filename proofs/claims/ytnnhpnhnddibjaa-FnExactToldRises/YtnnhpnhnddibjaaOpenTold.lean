/- An argument that is a list of Told. -/
import Derived.Test.YtnnhpnhnddibjaaOpenCache
import Derived.Test.YtnnhpnhnddibjaaJa
import Derived.ChangeArms
namespace Go.Proofs.Ytnnhpnhnddibjaa
open Go.ChangeShapes Go.WideShapes Go.ChangeAt Go.RowKit Go.Deep Go.Joins

theorem Try.cells_Told : Try.prog.cellsOf 43 = 7 := by kernel_rfl
theorem Try.cells_TB : Try.prog.cellsOf 4 = 1 := by kernel_rfl
theorem Try.shp_TB : Try.prog.underlying 4 = some .bool := by kernel_rfl
/-- The cells of an answer. -/
def CellsT (W : World) (cs : List Value) (x : KD) : Prop :=
  ∃ (a0 a1 a2 a3 : Int) (u : Value) (wr : Bool) (c : Int) (l : List (Int × Int)), x = told a0 a1 a2 a3 wr c l ∧ cs = [.int .i64 a0, .int .i64 a1, .int .i64 a2, .int .i64 a3, u, .bool wr, .int .i64 c] ∧ Rd W u l
theorem CellsT.at {W : World} {cs : List Value} {x : KD} {b p : Nat} (h : CellsT W cs x) (hc : ∀ j, j < cs.length → W.cell? ⟨b, p + j, none⟩ = cs[j]?) : AtT W b p x := by
  obtain ⟨a0, a1, a2, a3, u, wr, c, l, hx, rfl, hu⟩ := h
  have n : ∀ j, j < 7 → j < [Value.int .i64 a0, .int .i64 a1, .int .i64 a2, .int .i64 a3, u, .bool wr, .int .i64 c].length := fun _ h => h
  exact ⟨a0, a1, a2, a3, u, wr, c, l, hx, hc 0 (n 0 (by decide)), hc 1 (n 1 (by decide)), hc 2 (n 2 (by decide)), hc 3 (n 3 (by decide)), hc 4 (n 4 (by decide)), hc 5 (n 5 (by decide)), hc 6 (n 6 (by decide)), hu⟩
def ElemT {H : Type} (enc : TypeId × Value → H) (W : World) (t : TypeId) : Prop :=
  ∀ (fuel : Nat) (cs : List Value) (d : DataW H) (p : List MemPlace), DataW.trod enc Try.prog W 0 (fun _ => true) true fuel t cs = some (d, p) → (∀ x ∈ p, x.block < W.heap.size) → ∃ x, CellsT W cs x
set_option maxRecDepth 100000 in
theorem elem_Told {H : Type} (enc : TypeId × Value → H) (W : World) : ElemT enc W 43 := by
  intro fuel cs d p h hlt
  obtain ⟨xs, n, _, hx, hl, hxl, hff⟩ := DataW.trod_struct Try.underlying43 h
  rw [Try.cells_Told] at hl
  simp only [Prod.mk.injEq] at hx
  match xs, hxl, hx, hff with
  | [(d0, q0), (d1, q1), (d2, q2), (d3, q3)], _, hx, hff =>
    have h0 : DataW.trod enc Try.prog W 0 (fun _ => true) true n 3 ((cs.drop 0).take 1) = some (d0, q0) := by
      have h := hff 0 _ rfl
      first | exact h | (rw [Try.cells3] at h; exact h)
    have h1 : DataW.trod enc Try.prog W 0 (fun _ => true) true n 41 ((cs.drop 1).take 4) = some (d1, q1) := by
      have h := hff 1 _ rfl
      first | exact h | (rw [Try.cells_Item] at h; exact h)
    have h2 : DataW.trod enc Try.prog W 0 (fun _ => true) true n 4 ((cs.drop 5).take 1) = some (d2, q2) := by
      have h := hff 2 _ rfl
      first | exact h | (rw [Try.cells_TB] at h; exact h)
    have h3 : DataW.trod enc Try.prog W 0 (fun _ => true) true n 3 ((cs.drop 6).take 1) = some (d3, q3) := by
      have h := hff 3 _ rfl
      first | exact h | (rw [Try.cells3] at h; exact h)
    obtain ⟨⟨pi, l⟩, k1⟩ := elem_Item enc W _ _ _ _ h1 (fun x hx1 => hlt x (by rw [hx.2]; simp only [List.flatMap_cons, List.flatMap_nil, List.mem_append]; exact Or.inr (Or.inl hx1)))
    obtain ⟨z0, e0, _⟩ := DataW.trod_int Try.underlying3 h0
    obtain ⟨b2, e2, _⟩ := DataW.trod_bool Try.shp_TB h2
    obtain ⟨z3, e3, _⟩ := DataW.trod_int Try.underlying3 h3
    obtain ⟨hlen, us, hcs, hk, _⟩ := k1
    obtain ⟨u, rfl, hr⟩ := hk rfl
    match pi, hlen with
    | [p0, p1, p2], _ =>
      refine ⟨told z0 p0 p1 p2 b2 z3 l, z0, p0, p1, p2, u, b2, z3, l, rfl, ?_, hr⟩
      match cs, hl with
      | [c0, c1, c2, c3, c4, c5, c6], _ =>
        simp only [List.drop_zero, List.take_succ_cons, List.take_zero, List.drop_succ_cons, List.cons.injEq, and_true, List.map_cons, List.map_nil, List.cons_append, List.nil_append] at e0 e2 e3 hcs
        obtain ⟨rfl, rfl, rfl, rfl⟩ := hcs
        rw [e0, e2, e3]
set_option maxRecDepth 100000 in
theorem rdT_of_trod {H : Type} {enc : TypeId × Value → H} {W : World} {v : Value} {d : DataW H} {p : List MemPlace} {fuel : Nat} {t e : TypeId} (ht : Try.prog.underlying t = some (.slice e)) (hce : Try.prog.cellsOf e = 7) (he : ElemT enc W e)
    (hf : DataW.trod enc Try.prog W 0 (fun _ => true) true fuel t [v] = some (d, p)) (hlt : ∀ x ∈ p, x.block < W.heap.size) : ∃ L, RdT W v L := by
  rcases open_slice ht hf with ⟨hcs, _⟩ | ⟨a, len, cap, mm, n, D, Pl, hcs, _, hl, hm, hmm, hx, hcell⟩
  · simp at hcs
    subst hcs
    exact ⟨[], RdT.nil W none 0⟩
  · simp at hcs
    subst hcs
    simp only [if_true] at hmm
    subst hmm
    simp only [Prod.mk.injEq] at hx
    rw [hce] at hcell hx
    have each : ∀ i, i < mm → ∃ q : List Value × KD, W.cells? 0 (a.add (i * 7)) 7 = some q.1 ∧ CellsT W q.1 q.2 := by
      intro i hi
      obtain ⟨cs', h1, h2⟩ := hcell i hi
      obtain ⟨x, hxk⟩ := he n cs' (D i) (Pl i) h2 (fun x hx1 => hlt x (by
        rw [hx.2]
        exact List.mem_append_right _ (List.mem_flatMap.2 ⟨i, List.mem_range.2 hi, hx1⟩)))
      exact ⟨(cs', x), h1, hxk⟩
    let N : Nat → KD := fun i => if h : i < mm then (each i h).choose.2 else kd0
    refine ⟨(List.range len).map N, some a, mm, by simp, by simp only [List.length_map, List.length_range]; omega, fun h0 => ?_⟩
    simp only [List.length_map, List.length_range] at h0 ⊢
    have hfirst : ∃ u, W.cell? (a.add (0 * 7)) = some u := by
      obtain ⟨cs', h1, _⟩ := hcell 0 (by omega)
      obtain ⟨_, hlen, hcc⟩ := World.cells?_some h1
      have := hcc 0 (by decide)
      refine ⟨cs'[0]'(by omega), ?_⟩
      rw [add_add, Nat.add_zero] at this
      rw [this]
      simp [List.getElem?_eq_getElem (show 0 < cs'.length by omega)]
    obtain ⟨b, off, spot⟩ := a
    have hs : spot = none := by
      obtain ⟨u, hu⟩ := hfirst
      simpa [Addr.add] using World.cell?_spot hu
    subst hs
    refine ⟨b, off, rfl, ?_, fun i hi => ?_⟩
    · have := hlt (.cell b off) (by rw [hx.2]; exact List.mem_append_left _ (MemPlace.mem_row.2 ⟨0, Nat.mul_pos (by omega) (by decide), by simp⟩))
      exact this
    · have hg : ((List.range len).map N).getD i kd0 = N i := by
        simp [List.getD_eq_getElem?_getD, hi]
      rw [hg]
      have hi' : i < mm := by omega
      obtain ⟨h1, h2⟩ := (each i hi').choose_spec
      have hN : N i = (each i hi').choose.2 := by simp only [N, dif_pos hi']
      rw [hN]
      obtain ⟨_, hlen, hcc⟩ := World.cells?_some h1
      refine h2.at fun j hj => ?_
      have e : (((⟨b, off, none⟩ : Addr).add (i * 7)).add j) = ⟨b, off + i * 7 + j, none⟩ := by rw [add_plain, add_plain]
      exact (congrArg W.cell? e).symm.trans (hcc j (by omega))

set_option maxRecDepth 100000 in
theorem toldS_of {H : Type} {enc : TypeId × Value → H} {W : World} {base : Nat} {v : Value} {d : DataW H} {p : List MemPlace} (hv : Value.okWide Try.prog W .any base 22 v)
    (h : DataW.Trod enc Try.prog W 0 (fun _ => true) true 22 v d p) (hlt : ∀ x ∈ p, x.block < W.heap.size) : ∃ L, RdT W v L := by
  obtain ⟨a0, len, cap, rfl⟩ := okWide_slice Try.underlying22 hv
  obtain ⟨fuel, hf⟩ := h
  exact rdT_of_trod Try.underlying22 Try.cells_Told (elem_Told enc W) hf hlt
end Go.Proofs.Ytnnhpnhnddibjaa
