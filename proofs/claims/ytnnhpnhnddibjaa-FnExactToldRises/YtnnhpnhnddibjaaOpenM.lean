/- An argument's cells: numbers, then kin; lists of such. -/
import Derived.Test.YtnnhpnhnddibjaaOpenV
import Derived.Test.YtnnhpnhnddibjaaGrA
namespace Go.Proofs.Ytnnhpnhnddibjaa
open Go.ChangeShapes Go.WideShapes Go.ChangeAt Go.RowKit Go.Deep Go.Joins

theorem Try.cells37' : Try.prog.cellsOf 37 = 1 := by kernel_rfl
/-- The cells of an element: its m numbers, then its kin. -/
def CellsK (W : World) (m : Nat) (kn : Bool) (cs : List Value) (x : KD) : Prop :=
  x.1.length = m ∧ ∃ us : List Value, cs = x.1.map (fun n => Value.int .i64 n) ++ us ∧ (kn = true → ∃ u, us = [u] ∧ Rd W u x.2) ∧ (kn = false → us = [] ∧ x.2 = [])
theorem CellsK.append {W : World} {m1 m2 : Nat} {kn : Bool} {cs1 cs2 : List Value} {x1 x2 : KD} (h1 : CellsK W m1 false cs1 x1) (h2 : CellsK W m2 kn cs2 x2) : CellsK W (m1 + m2) kn (cs1 ++ cs2) (x1.1 ++ x2.1, x2.2) := by
  obtain ⟨l1, us1, rfl, _, g1⟩ := h1
  obtain ⟨l2, us2, rfl, f2, g2⟩ := h2
  obtain ⟨rfl, _⟩ := g1 rfl
  exact ⟨by rw [List.length_append, l1, l2], us2, by simp, f2, g2⟩
theorem CellsK.at {W : World} {m : Nat} {kn : Bool} {cs : List Value} {x : KD} {b p : Nat} (h : CellsK W m kn cs x) (hc : ∀ j, j < cs.length → W.cell? ⟨b, p + j, none⟩ = cs[j]?) : AtK m kn W b p x := by
  obtain ⟨l, us, rfl, f, g⟩ := h
  refine ⟨l, fun j hj => ?_, fun hk => ?_, fun hk => (g hk).2⟩
  · rw [hc j (by simp; omega), List.getElem?_append_left (by simp; omega), List.getElem?_map, List.getElem?_eq_getElem (by omega)]
    simp [List.getD_eq_getElem?_getD, List.getElem?_eq_getElem (show j < x.1.length by omega)]
  · obtain ⟨u, rfl, hu⟩ := f hk
    exact ⟨u, by rw [hc m (by simp [l]), List.getElem?_append_right (by simp [l])]; simp [l], hu⟩
/-- Whatever is read by a type has such cells. -/
def ElemK {H : Type} (enc : TypeId × Value → H) (W : World) (t : TypeId) (m : Nat) (kn : Bool) : Prop :=
  ∀ (fuel : Nat) (cs : List Value) (d : DataW H) (p : List MemPlace), DataW.trod enc Try.prog W 0 (fun _ => true) true fuel t cs = some (d, p) → (∀ x ∈ p, x.block < W.heap.size) → ∃ x, CellsK W m kn cs x
theorem elem_int {H : Type} (enc : TypeId × Value → H) (W : World) : ElemK enc W 3 1 false := by
  intro fuel cs d p h _
  obtain ⟨z, hz, _⟩ := DataW.trod_int Try.underlying3 h
  exact ⟨([z], []), rfl, [], by simpa using hz, fun q => (by cases q), fun _ => ⟨rfl, rfl⟩⟩
theorem elem_kin {H : Type} (enc : TypeId × Value → H) (W : World) : ElemK enc W 37 0 true := by
  intro fuel cs d p h hlt
  have : ∃ v, cs = [v] := by
    rcases open_slice Try.underlying37 h with ⟨hc, _⟩ | ⟨a, len, cap, _, _, _, _, hc, _⟩
    · exact ⟨_, hc⟩
    · exact ⟨_, hc⟩
  obtain ⟨v, rfl⟩ := this
  obtain ⟨l, hl⟩ := rd_of_trod h hlt
  exact ⟨([], l), rfl, [v], rfl, fun _ => ⟨v, rfl, hl⟩, fun q => (by cases q)⟩

set_option maxRecDepth 100000 in
theorem rdM_of_trod {H : Type} {enc : TypeId × Value → H} {W : World} {v : Value} {d : DataW H} {p : List MemPlace} {fuel : Nat} {t e : TypeId} {sz m : Nat} {kn : Bool} (ht : Try.prog.underlying t = some (.slice e)) (hce : Try.prog.cellsOf e = sz) (hsz : 0 < sz) (he : ElemK enc W e m kn)
    (hf : DataW.trod enc Try.prog W 0 (fun _ => true) true fuel t [v] = some (d, p)) (hlt : ∀ x ∈ p, x.block < W.heap.size) : ∃ L, RdM sz m kn W v L := by
  rcases open_slice ht hf with ⟨hcs, _⟩ | ⟨a, len, cap, mm, n, D, Pl, hcs, _, hl, hm, hmm, hx, hcell⟩
  · simp at hcs
    subst hcs
    exact ⟨[], RdM.nil W none 0⟩
  · simp at hcs
    subst hcs
    simp only [if_true] at hmm
    subst hmm
    simp only [Prod.mk.injEq] at hx
    rw [hce] at hcell hx
    have each : ∀ i, i < mm → ∃ q : List Value × KD, W.cells? 0 (a.add (i * sz)) sz = some q.1 ∧ CellsK W m kn q.1 q.2 := by
      intro i hi
      obtain ⟨cs', h1, h2⟩ := hcell i hi
      obtain ⟨x, hxk⟩ := he n cs' (D i) (Pl i) h2 (fun x hx1 => hlt x (by
        rw [hx.2]
        exact List.mem_append_right _ (List.mem_flatMap.2 ⟨i, List.mem_range.2 hi, hx1⟩)))
      exact ⟨(cs', x), h1, hxk⟩
    let N : Nat → KD := fun i => if h : i < mm then (each i h).choose.2 else kd0
    refine ⟨(List.range len).map N, some a, mm, by simp, by simp only [List.length_map, List.length_range]; omega, fun h0 => ?_⟩
    simp only [List.length_map, List.length_range] at h0 ⊢
    have hfirst : ∃ u, W.cell? (a.add (0 * sz)) = some u := by
      obtain ⟨cs', h1, _⟩ := hcell 0 (by omega)
      obtain ⟨_, hlen, hcc⟩ := World.cells?_some h1
      have := hcc 0 hsz
      refine ⟨cs'[0]'(by omega), ?_⟩
      rw [add_add, Nat.add_zero] at this
      rw [this]
      simp [List.getElem?_eq_getElem (show 0 < cs'.length by omega)]
    obtain ⟨b, off, spot⟩ := a
    have hs : spot = none := by
      obtain ⟨u, hu⟩ := hfirst
      simpa [Addr.add] using World.cell?_spot hu
    subst hs
    refine ⟨b, off, rfl, ?_, fun i hi => ?_⟩
    · have := hlt (.cell b off) (by rw [hx.2]; exact List.mem_append_left _ (MemPlace.mem_row.2 ⟨0, Nat.mul_pos (by omega) hsz, by simp⟩))
      exact this
    · have hg : ((List.range len).map N).getD i kd0 = N i := by
        simp [List.getD_eq_getElem?_getD, hi]
      rw [hg]
      have hi' : i < mm := by omega
      obtain ⟨h1, h2⟩ := (each i hi').choose_spec
      have hN : N i = (each i hi').choose.2 := by simp only [N, dif_pos hi']
      rw [hN]
      obtain ⟨_, hlen, hcc⟩ := World.cells?_some h1
      refine h2.at fun j hj => ?_
      have e : (((⟨b, off, none⟩ : Addr).add (i * sz)).add j) = ⟨b, off + i * sz + j, none⟩ := by rw [add_plain, add_plain]
      exact (congrArg W.cell? e).symm.trans (hcc j (by omega))
end Go.Proofs.Ytnnhpnhnddibjaa
