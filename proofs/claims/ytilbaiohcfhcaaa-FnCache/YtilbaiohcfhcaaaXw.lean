/- A cache with an item put in, as the document has it: spec.l5Put, spec.CachePut: contracts. Written by a program (gspp.py). -/
import Derived.Test.YtilbaiohcfhcaaaXv
import Derived.Deep.Cut
namespace Go.Proofs.Ytilbaiohcfhcaaa
open Go.RowKit
attribute [local go_sem ↓] Go.wp_at_zero Go.wp_at_succ

/-- The cells of the items of a list. -/
theorem RdK.cells {G : Nat → Prop} {w : World} {ao : Option Addr} {n cap : Nat} {L : List KD} (h : RdK G w (.slice ao n cap) L) : n = L.length ∧ (L = [] ∨ ∃ (b off : Nat) (us : Nat → Value) (cs : List Value), ao = some ⟨b, off, none⟩ ∧ cs.length = L.length * 4 ∧ (∀ j y, cs[j]? = some y → w.cell? ⟨b, off + j, none⟩ = some y) ∧ (∀ y ∈ cs, y.oneCell' = true) ∧
    (∀ i, i < L.length → (L.getD i kd0).1.length = 3) ∧ (∀ i, i < L.length → ∀ j, j < 3 → cs[i * 4 + j]? = some (.int .i64 ((L.getD i kd0).1.getD j 0))) ∧ (∀ i, i < L.length → cs[i * 4 + 3]? = some (us i)) ∧
    (∀ i, i < L.length → Rd w (us i) (L.getD i kd0).2 ∧ (0 < (L.getD i kd0).2.length → ∀ q, (us i).ownBlock = some q → ¬ G q))) := by
  obtain ⟨ao', cap', hv, hl, hc, hq3⟩ := h
  clear hq3
  injection hv with h1 h2 h3
  subst h1 h2 h3
  refine ⟨rfl, ?_⟩
  by_cases h0 : 0 < L.length
  · right
    obtain ⟨b, off, rfl, hb, hbg, hcc⟩ := hc h0
    have key : ∀ j, j < L.length * 4 → ∃ y, w.cell? ⟨b, off + j, none⟩ = some y ∧ y.oneCell' = true := fun j hj => by
      obtain ⟨p0, p1, p2, l, u, hx, c0, c1, c2, c3, hu, _⟩ := hcc (j / 4) (by omega)
      have hm : j % 4 = 0 ∨ j % 4 = 1 ∨ j % 4 = 2 ∨ j % 4 = 3 := by omega
      rcases hm with hm | hm | hm | hm
      · exact ⟨_, by rw [← c0]; congr 2; omega, rfl⟩
      · exact ⟨_, by rw [← c1]; congr 2; omega, rfl⟩
      · exact ⟨_, by rw [← c2]; congr 2; omega, rfl⟩
      · obtain ⟨_, _, rfl, _⟩ := hu
        exact ⟨_, by rw [← c3]; congr 2; omega, rfl⟩
    let cs := (List.range (L.length * 4)).map (fun j => (w.cell? ⟨b, off + j, none⟩).getD (.bool false))
    have hcs : ∀ j, j < L.length * 4 → ∀ y, w.cell? ⟨b, off + j, none⟩ = some y → cs[j]? = some y := fun j hj y hy => by simp [cs, hj, hy]
    refine ⟨b, off, fun i => (w.cell? ⟨b, off + i * 4 + 3, none⟩).getD (.bool false), cs, rfl, by simp [cs], fun j y hy => ?_, fun y hy => ?_, fun i hi => ?_, fun i hi j hj => ?_, fun i hi => ?_, fun i hi => ?_⟩
    · have hj : j < L.length * 4 := by have := (List.getElem?_eq_some_iff.1 hy).1; simpa [cs] using this
      obtain ⟨z, hz, _⟩ := key j hj
      rw [hcs j hj z hz] at hy
      rw [hz, hy]
    · simp only [cs, List.mem_map, List.mem_range] at hy
      obtain ⟨j, hj, rfl⟩ := hy
      obtain ⟨z, hz, h1⟩ := key j hj
      rw [hz]
      exact h1
    · obtain ⟨p0, p1, p2, l, u, hx, _⟩ := hcc i hi
      rw [hx]; rfl
    · obtain ⟨p0, p1, p2, l, u, hx, c0, c1, c2, _⟩ := hcc i hi
      rw [hx]
      match j, hj with
      | 0, _ => exact hcs _ (by omega) _ c0
      | 1, _ => exact hcs _ (by omega) _ (by rw [← Nat.add_assoc]; exact c1)
      | 2, _ => exact hcs _ (by omega) _ (by rw [← Nat.add_assoc]; exact c2)
    · obtain ⟨p0, p1, p2, l, u, hx, c0, c1, c2, c3, _⟩ := hcc i hi
      have e : (w.cell? ⟨b, off + i * 4 + 3, none⟩).getD (.bool false) = u := by rw [c3]; rfl
      simp only [e]
      exact hcs _ (by omega) _ (by rw [← Nat.add_assoc]; exact c3)
    · obtain ⟨p0, p1, p2, l, u, hx, c0, c1, c2, c3, hu, hn⟩ := hcc i hi
      have e : (w.cell? ⟨b, off + i * 4 + 3, none⟩).getD (.bool false) = u := by rw [c3]; rfl
      simp only [e, hx]
      exact ⟨hu, fun h1 q hq => (hn h1 q hq).1⟩
  · left
    exact List.eq_nil_of_length_eq_zero (by omega)

/-- append of items that are read onto a row that is owned. -/
theorem run_append_rd (w : World) (base : Nat) (ty : TypeId) (v : Value) (n : Nat) (xs : List Value) (hown : w.ownsRow base 31 4 v n xs) (xo : Option Addr) (n1 xc : Nat) (cs : List Value)
    (hc : (n1 = 0 ∧ cs = []) ∨ (∃ b off, xo = some ⟨b, off, none⟩ ∧ cs.length = n1 * 4 ∧ (∀ j y, cs[j]? = some y → w.cell? ⟨b, off + j, none⟩ = some y) ∧ (∀ y ∈ cs, y.oneCell' = true)))
    (h63 : n + n1 ≤ maxLen) (hbytes : (n + n1) * 48 ≤ 140737488355328) (hbase : base ≤ w.heap.size) :
    ∃ v' w', (Builtin.append_ #[23, 23] ty #[v, .slice xo n1 xc]).run Try.prog w = .ok v' w' ∧ w'.ownsRow base 31 4 v' (n + n1) (xs ++ cs) ∧ w.grownBy w' v.ownBlock := by
  obtain ⟨i0, hi, hz0, hz1, hz2⟩ := info_parts Try.infoItem_K
  have go : ∀ ad : Addr, xo = some ad → cs.length = n1 * 4 → (∀ j u, cs[j]? = some u → w.cell? (ad.add j) = some u) → (∀ y ∈ cs, y.oneCell' = true) →
      ∃ v' w', (Builtin.append_ #[23, 23] ty #[v, .slice xo n1 xc]).run Try.prog w = .ok v' w' ∧ w'.ownsRow base 31 4 v' (n + n1) (xs ++ cs) ∧ w.grownBy w' v.ownBlock := fun ad e h1 h2 h3 => by
    subst e
    obtain ⟨v', w', hr, k2, k3, _⟩ := run_append_own (P := Try.prog) w base 23 ty 31 i0 (.agg #[.int .i64 0, .int .i64 0, .int .i64 0, .slice none 0 0]) 4 48 Try.underlying23 hi hz0 hz1 hz2 rfl (by decide) v n xs hown ad n1 xc cs h1 h2 h3 h63 hbytes hbase
    exact ⟨v', w', hr, k2, k3⟩
  rcases hc with ⟨rfl, rfl⟩ | ⟨b, off, rfl, h1, h2, h3⟩
  · cases xo with
    | none =>
      refine ⟨v, w, run_append_cap (P := Try.prog) (w := w) base 23 ty 31 i0 4 xc Try.underlying23 hi v n xs hown, by rw [Nat.add_zero, List.append_nil]; exact hown, ⟨rfl, rfl, rfl, Nat.le_refl _, fun _ _ _ => rfl⟩⟩
    | some ad => exact go ad rfl rfl (fun j u h => by simp at h) (fun _ h => by simp at h)
  · exact go ⟨b, off, none⟩ rfl h1 (fun j u h => by
      have e : (⟨b, off, none⟩ : Addr).add j = ⟨b, off + j, none⟩ := by cases j <;> simp [Addr.add]
      rw [e]
      exact h2 j u h) h3
theorem step_append_rd {ops : Array Oper} {o : Oper} {a : Act} {w : World} {K : Act → World → Prop} {Q : Exit → Act → World → Prop} {E : Prop} (hgd : o.guard = none) (s x : Operand)
    (ho : o.op = .call { callee := .builtin .append, args := #[s, x], argTypes := #[23, 23] })
    (base : Nat) (v : Value) (n : Nat) (xs : List Value) (hs : a.eval s = v) (hown : w.ownsRow base 31 4 v n xs) (xo : Option Addr) (n1 xc : Nat) (cs : List Value) (hx : a.eval x = .slice xo n1 xc)
    (hc : (n1 = 0 ∧ cs = []) ∨ (∃ b off, xo = some ⟨b, off, none⟩ ∧ cs.length = n1 * 4 ∧ (∀ j y, cs[j]? = some y → w.cell? ⟨b, off + j, none⟩ = some y) ∧ (∀ y ∈ cs, y.oneCell' = true)))
    (h63 : n + n1 ≤ maxLen) (hbytes : (n + n1) * 48 ≤ 140737488355328) (hbase : base ≤ w.heap.size)
    (h : ∀ v' w', w'.ownsRow base 31 4 v' (n + n1) (xs ++ cs) → w.grownBy w' v.ownBlock → K (a.put o.dst v') w') :
    if Region.wanted o (yielded ops a.tmps) = true then Oper.wp Try.prog o a w K Q else E := by
  have hw : Region.wanted o (yielded ops a.tmps) = true := by simp [Region.wanted, hgd]
  rw [if_pos hw]
  obtain ⟨v', w', hr, h2, h3⟩ := run_append_rd w base o.type v n xs hown xo n1 xc cs hc h63 hbytes hbase
  unfold Oper.wp
  simp [execOp, ho, resolve, invoke, builtin, hs, hx, hr, Result.andThen]
  exact h v' w' h2 h3
/-- An item ahead of others. -/
def usC (u : Value) (us : Nat → Value) : Nat → Value := fun i => match i with
  | 0 => u
  | i + 1 => us i
theorem rowA_cons {w : World} {B : Nat} {v u : Value} {L : List KD} {cs : List Value} {us : Nat → Value} {k p n : Int} {l : List (Int × Int)} (ho : w.ownsRow B 31 4 v (1 + L.length) ([.int .i64 k, .int .i64 p, .int .i64 n, u] ++ cs))
    (hl : ∀ i, i < L.length → (L.getD i kd0).1.length = 3) (hn : ∀ i, i < L.length → ∀ j, j < 3 → cs[i * 4 + j]? = some (.int .i64 ((L.getD i kd0).1.getD j 0))) (hk : ∀ i, i < L.length → cs[i * 4 + 3]? = some (us i)) :
    RowA w B v (([k, p, n], l) :: L) ([.int .i64 k, .int .i64 p, .int .i64 n, u] ++ cs) (usC u us) := by
  refine ⟨by rw [List.length_cons, Nat.add_comm]; exact ho, fun i hi => ?_, fun i hi j hj => ?_, fun i hi => ?_⟩
  · cases i with
    | zero => rfl
    | succ i => rw [List.getD_cons_succ]; exact hl i (by simpa using hi)
  · cases i with
    | zero => match j, hj with
      | 0, _ => rfl
      | 1, _ => rfl
      | 2, _ => rfl
    | succ i =>
      rw [List.getD_cons_succ, List.getElem?_append_right (by simp; omega), ← hn i (by simpa using hi) j hj]
      congr 1
      simp
      omega
  · cases i with
    | zero => rfl
    | succ i =>
      rw [List.getElem?_append_right (by simp; omega)]
      show _ = some (us i)
      rw [← hk i (by simpa using hi)]
      congr 1
      simp
      omega
theorem ownsRow_take {w : World} {B n m cap sz : Nat} {e : TypeId} {ao : Option Addr} {xs : List Value} (h : w.ownsRow B e sz (.slice ao n cap) n xs) (hm : m ≤ n) : w.ownsRow B e sz (.slice ao m cap) m (xs.take (m * sz)) := by
  have h0 := h.1
  rcases h.2 with ⟨hv, hn⟩ | ⟨g, cap', cur, hv, hb, hg, hnc, hcm, hsz, ht⟩
  · injection hv with h1 h2 h3
    subst h1 h3
    obtain rfl : m = 0 := by omega
    exact ⟨by simp, .inl ⟨rfl, rfl⟩⟩
  · injection hv with h1 h2 h3
    subst h1 h3
    have hmn : m * sz ≤ n * sz := Nat.mul_le_mul_right _ hm
    exact ⟨by rw [List.length_take, h0]; omega, .inr ⟨g, cap, cur, rfl, hb, hg, by omega, hcm, hsz, by rw [← ht, List.take_take, Nat.min_eq_left hmn]⟩⟩
theorem RdK.take {G : Nat → Prop} {w : World} {ao : Option Addr} {n cap m : Nat} {L : List KD} (h : RdK G w (.slice ao n cap) L) (hm : m ≤ L.length) : RdK G w (.slice ao m cap) (L.take m) := by
  obtain ⟨ao', cap', hv, hl, hc, ⟨xs, hrow⟩, hown⟩ := h
  injection hv with h1 h2 h3
  subst h1 h2 h3
  have hlen : (L.take m).length = m := by rw [List.length_take]; omega
  refine ⟨ao, cap, by rw [hlen], by omega, fun h0 => ?_, ⟨_, by rw [hlen]; exact ownsRow_take hrow hm⟩, fun q hq => hown q (by cases ao with
    | none => cases hq
    | some a => exact hq)⟩
  obtain ⟨b, off, rfl, hb, hbg, hcc⟩ := hc (by omega)
  refine ⟨b, off, rfl, hb, hbg, fun i hi => ?_⟩
  have e : (L.take m).getD i kd0 = L.getD i kd0 := by
    rw [hlen] at hi
    simp [hi]
  rw [e]
  obtain ⟨p0, p1, p2, l, u, hx, c0, c1, c2, c3, hu, hn⟩ := hcc i (by omega)
  exact ⟨p0, p1, p2, l, u, hx, c0, c1, c2, c3, hu, hn⟩
end Go.Proofs.Ytilbaiohcfhcaaa
