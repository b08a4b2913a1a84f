/- An argument that is a graph (a slice of values). -/
import Derived.Test.YtildbhhoedhkjaaOpenV
import Derived.Test.YtildbhhoedhkjaaGd
namespace Go.Proofs.Ytildbhhoedhkjaa
open Go.ChangeShapes Go.WideShapes Go.ChangeAt Go.RowKit Go.Deep Go.Joins

theorem Try.cells45 : Try.prog.cellsOf 45 = 1 := by kernel_rfl
theorem Try.cells112 : Try.prog.cellsOf 112 = 1 := by kernel_rfl
theorem Try.cells43 : Try.prog.cellsOf 43 = 1 := by kernel_rfl

set_option maxRecDepth 100000 in
theorem rdG_of_trod {H : Type} {enc : TypeId × Value → H} {W : World} {v : Value} {d : DataW H} {p : List MemPlace} {fuel : Nat}
    (hf : DataW.trod enc Try.prog W 0 (fun _ => true) true fuel 43 [v] = some (d, p)) (hlt : ∀ x ∈ p, x.block < W.heap.size) : ∃ L, RdG W v L := by
  rcases open_slice_pairs Try.underlying43 Try.underlying114 Try.cells114 rfl rfl Try.cells3 Try.cells112 hf with ⟨hcs, _⟩ | ⟨a, len', cap', m, n, V0, V1, D0, D1, P0, P1, hcs, _, hlc, hcm, hm, hx, hcell⟩
  · simp at hcs
    subst hcs
    exact ⟨[], RdG.nil W none 0⟩
  · simp at hcs
    subst hcs
    simp only [if_true] at hm
    subst hm
    simp only [Prod.mk.injEq] at hx
    have num : ∀ (t : Value) (x : DataW H × List MemPlace), DataW.trod enc Try.prog W 0 (fun _ => true) true n 3 [t] = some x → ∃ z, t = .int .i64 z := by
      intro t x hx
      obtain ⟨z, hz, _⟩ := DataW.trod_int Try.underlying3 hx
      exact ⟨z, by simpa using hz⟩
    have each : ∀ i, i < m → ∃ q : ValD, V0 i = .int .i64 q.1 ∧ Rd W (V1 i) q.2 := by
      intro i hi
      obtain ⟨_, _, t0, t1⟩ := hcell i (by omega)
      obtain ⟨z, hz⟩ := num _ _ t0
      obtain ⟨l, hl⟩ := rd_of_trod t1 (fun x hx1 => hlt x (by
        rw [hx.2]
        refine List.mem_append_right _ (List.mem_flatMap.2 ⟨i, List.mem_range.2 (by omega), List.mem_append_right _ hx1⟩)))
      exact ⟨(z, l), hz, hl⟩
    let N : Nat → ValD := fun i => if h : i < m then (each i h).choose else valD0
    have hN : ∀ i (h : i < m), V0 i = .int .i64 (N i).1 ∧ Rd W (V1 i) (N i).2 := fun i h => by
      have := (each i h).choose_spec
      simp only [N, dif_pos h]
      exact this
    refine ⟨(List.range len').map N, some a, _, by simp; rfl, by simp only [List.length_map, List.length_range]; omega, fun h0 => ?_⟩
    simp only [List.length_map, List.length_range] at h0 ⊢
    obtain ⟨b, off, spot⟩ := a
    have hs : spot = none := by
      have := (hcell 0 (by omega)).1
      simpa [Addr.add] using World.cell?_spot this
    subst hs
    refine ⟨b, off, rfl, ?_, fun i hi => ?_⟩
    · have := hlt (.cell b off) (by rw [hx.2]; exact List.mem_append_left _ (MemPlace.mem_row.2 ⟨0, by omega, by simp⟩))
      exact this
    · obtain ⟨c0, c1, _, _⟩ := hcell i (by omega)
      rw [add_plain] at c0 c1
      have hg : ((List.range len').map N).getD i valD0 = N i := by
        simp [List.getD_eq_getElem?_getD, hi]
      rw [hg]
      obtain ⟨e0, e1⟩ := hN i (by omega)
      exact ⟨by rw [c0, e0], _, by rw [show off + i * 2 + 1 = off + (i * 2 + 1) from by omega, c1], e1⟩

set_option maxRecDepth 100000 in
theorem graph_of {H : Type} {enc : TypeId × Value → H} {W : World} {base : Nat} {v : Value} {d : DataW H} {p : List MemPlace} (hv : Value.okWide Try.prog W .any base 45 v)
    (h : DataW.Trod enc Try.prog W 0 (fun _ => true) true 45 v d p) (hlt : ∀ x ∈ p, x.block < W.heap.size) : ∃ u L, v = .agg #[u] ∧ RdG W u L := by
  obtain ⟨cs, rfl, hsz⟩ := okWide_struct Try.underlying45 hv
  rw [Try.cells45] at hsz
  obtain ⟨c0, rfl⟩ : ∃ c, cs = #[c] := by
    obtain ⟨l⟩ := cs
    match l, hsz with
    | [c], _ => exact ⟨c, rfl⟩
  obtain ⟨fuel, hf⟩ := h
  obtain ⟨xs, n, _, hx, _, hxl, hff⟩ := DataW.trod_struct Try.underlying45 hf
  match xs, hxl with
  | [y0], _ =>
    have h0 := hff 0 _ rfl
    simp only [Value.cells] at h0
    obtain ⟨d0, p0⟩ := y0
    simp only [Prod.mk.injEq] at hx
    obtain ⟨L, hL⟩ := rdG_of_trod (v := c0) (d := d0) (p := p0) (by simpa [Try.cells43] using h0) (fun x hx1 => hlt x (by rw [hx.2]; simpa using hx1))
    exact ⟨c0, L, rfl, hL⟩
end Go.Proofs.Ytildbhhoedhkjaa
