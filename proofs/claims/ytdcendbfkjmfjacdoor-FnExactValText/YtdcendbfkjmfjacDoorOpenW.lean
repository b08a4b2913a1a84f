/- An argument that is a slice of edges reads as a list of pairs of numbers that an int holds. -/
import Derived.Test.YtdcendbfkjmfjacDoorOpen
import Derived.Test.YtdcendbfkjmfjacDoorTt
import Derived.OpenShut
namespace Go.Proofs.YtdcendbfkjmfjacDoor
open Go.ChangeShapes Go.WideShapes Go.ChangeAt Go.RowKit Go.Deep

set_option maxRecDepth 100000 in
theorem rdw_of {H : Type} {enc : TypeId × Value → H} {W : World} {base : Nat} {v : Value} {d : DataW H} {p : List MemPlace} (hv : Value.okWide Tryd.prog W .any base 22 v)
    (h : DataW.Trod enc Tryd.prog W 0 (fun _ => true) true 22 v d p) (hlt : ∀ x ∈ p, x.block < W.heap.size) : ∃ l, Rd W v l ∧ WfL l := by
  obtain ⟨a0, len, cap, rfl⟩ := okWide_slice Tryd.underlying22 hv
  obtain ⟨fuel, hf⟩ := h
  rcases open_slice_pairs Tryd.underlying22 Tryd.underlying62 Tryd.cells62 rfl rfl Tryd.cells3 Tryd.cells3 hf with ⟨hcs, _⟩ | ⟨a, len', cap', m, n, V0, V1, D0, D1, P0, P1, hcs, _, hlc, hcm, hm, hx, hcell⟩
  · simp [Value.cells] at hcs
    obtain ⟨rfl, rfl, rfl⟩ := hcs
    exact ⟨[], Rd.nil W none 0, fun i hi => absurd hi (Nat.not_lt_zero _)⟩
  · simp [Value.cells] at hcs
    obtain ⟨rfl, rfl, rfl⟩ := hcs
    simp only [if_true] at hm
    subst hm
    have num : ∀ (t : Value) (x : DataW H × List MemPlace), DataW.trod enc Tryd.prog W 0 (fun _ => true) true n 3 [t] = some x → ∃ z, t = .int .i64 z ∧ -9223372036854775808 ≤ z ∧ z ≤ 9223372036854775807 := by
      intro t x hx
      obtain ⟨z, hz, _, hwf⟩ := DataW.trod_int Tryd.underlying3 hx
      have hb := bounds_i64 hwf
      exact ⟨z, by simpa using hz, hb.1, hb.2⟩
    let N : Value → Int := fun t => match t with | .int _ z => z | _ => 0
    have fit : ∀ i, i < len → ((List.range len).map fun i => (N (V0 i), N (V1 i))).getD i (0, 0) = (N (V0 i), N (V1 i)) := fun i hi => by simp [List.getD_eq_getElem?_getD, hi]
    refine ⟨(List.range len).map fun i => (N (V0 i), N (V1 i)), ⟨some a, _, by simp; rfl, by simp only [List.length_map, List.length_range]; omega, fun h0 => ?_⟩, fun i hi => ?_⟩
    case refine_2 =>
      simp only [List.length_map, List.length_range] at hi
      obtain ⟨_, _, t0, t1⟩ := hcell i (by omega)
      obtain ⟨z0, e0, r0, r1⟩ := num _ _ t0
      obtain ⟨z1, e1, r2, r3⟩ := num _ _ t1
      rw [fit i hi, e0, e1]
      exact ⟨⟨r0, r1⟩, ⟨r2, r3⟩⟩
    simp only [List.length_map, List.length_range] at h0 ⊢
    obtain ⟨b, off, spot⟩ := a
    have hs : spot = none := by
      have := (hcell 0 (by omega)).1
      simpa [Addr.add] using World.cell?_spot this
    subst hs
    refine ⟨b, off, rfl, ?_, fun i hi => ?_⟩
    · simp only [Prod.mk.injEq] at hx
      have := hlt (.cell b off) (by rw [hx.2]; exact List.mem_append_left _ (MemPlace.mem_row.2 ⟨0, by omega, by simp⟩))
      exact this
    · obtain ⟨c0, c1, t0, t1⟩ := hcell i (by omega)
      obtain ⟨z0, e0, _⟩ := num _ _ t0
      obtain ⟨z1, e1, _⟩ := num _ _ t1
      rw [add_plain] at c0 c1
      have hg : ((List.range len).map fun i => (N (V0 i), N (V1 i))).getD i (0, 0) = (z0, z1) := by
        simp [List.getD_eq_getElem?_getD, hi, e0, e1, N]
      rw [hg]
      exact ⟨by rw [c0, e0], by rw [show off + i * 2 + 1 = off + (i * 2 + 1) from by omega, c1, e1]⟩
end Go.Proofs.YtdcendbfkjmfjacDoor
