/- impl.ToldRises: contract. -/
import Derived.Test.YtnnhpnhnddibjaaJg
import Derived.RangeFuncBox
import Derived.Shelf.Abstract
namespace Go.Proofs.Ytnnhpnhnddibjaa
open Go.RowKit Go.Shelf
attribute [local go_sem] Oper.semAt_some
attribute [local go_sem ↓] Go.wp_at_zero Go.wp_at_succ

theorem withLast_any (v : Value) (L : List KD) (w : World) (h : RdT w v L) :
    Calls Try.prog 21 #[v] w fun e W' => e = .returned (.func (.func 28) #[] #[.pointer (some ⟨w.heap.size, 0, none⟩)]) ∧ W' = w.alloc (.cells #[v] 25) := by
  obtain ⟨ao, cap, rfl, _, _⟩ := h
  go_enter Try.func21, Try.ntmps21
  go_wp2
  go_ret
  exact ⟨by simp, rfl⟩
/-- None sank so far. -/
def RisI (w : World) (L : List KD) (pre : List Nat) (W : World) : Prop := risesTo L pre.length ∧ Boxed W w.heap.size 4 (.bool false) ∧ Below w.heap.size w W
/-- One sank. -/
def RisX (w : World) (L : List KD) (c : Code) (W : World) : Prop := c = .ret ∧ rises L = false ∧ Boxed W w.heap.size 4 (.bool false) ∧ Below w.heap.size w W
theorem boxed_from (B0 B : Nat) (t : TypeId) (v : Value) : OwnFrom B0 (fun (_ : Unit) W => Boxed W B t v) := (boxed_own (β := Unit) B t (fun _ => v)).from B0
theorem risI_own (w : World) (L : List KD) (B0 : Nat) (hB : w.heap.size ≤ B0) : OwnFrom B0 (RisI w L) := by
  rintro pre A A' row ⟨h0, h1, hb⟩ hg hr
  exact ⟨h0, boxed_from B0 _ _ _ () A A' row h1 hg hr, hb.grown hg hb.size (fun k e => by have := (hr k e).1; omega)⟩
theorem risX_own (w : World) (L : List KD) (c : Code) (B0 : Nat) (hB : w.heap.size ≤ B0) : OwnFrom B0 (fun (_ : Unit) W => RisX w L c W) := by
  rintro _ A A' row ⟨hc, h0, h1, hb⟩ hg hr
  exact ⟨hc, h0, boxed_from B0 _ _ _ () A A' row h1 hg hr, hb.grown hg hb.size (fun k e => by have := (hr k e).1; omega)⟩
theorem risI_lets (w : World) (L : List KD) (B : Nat) (hB : w.heap.size < B) : LetsB B (RisI w L) := by
  rintro pre A A' ⟨h0, h1, hb⟩ hg
  exact ⟨h0, (hg.block _ hB).trans h1, hb.trans (hg.mono (by omega))⟩

theorem range_at {pre : List Nat} {x n : Nat} (h : (pre ++ [x]) <+: List.range n) : x = pre.length ∧ pre.length < n := by
  have hl := h.length_le
  rw [List.length_append, List.length_range] at hl
  simp only [List.length_cons, List.length_nil] at hl
  obtain ⟨t, ht⟩ := h
  have h1 := congrArg (fun l : List Nat => l[pre.length]?) ht
  simp only [List.append_assoc] at h1
  rw [List.getElem?_append_right (Nat.le_refl _), Nat.sub_self, List.getElem?_range (by omega)] at h1
  simp at h1
  exact ⟨h1, by omega⟩
theorem enc_of {W : World} {v : Value} {L : List KD} (h : RdT W v L) : ∃ (ao : Option Addr) (cap : Nat) (enc : Nat → Array Value), v = .slice ao L.length cap ∧ (∀ i, i < L.length → EncAt W ao L i (enc i)) ∧ ∀ i, (enc i).size = 2 := by
  obtain ⟨ao, cap, rfl, _, hc⟩ := h
  have each : ∀ i, ∃ A : Array Value, (i < L.length → EncAt W ao L i A) ∧ A.size = 2 := fun i => by
    by_cases hi : i < L.length
    · obtain ⟨b, o, ha, hlt, hcc⟩ := hc (by omega)
      obtain ⟨a0, a1, a2, a3, u, wr, c, l, hx, c0, c1, c2, c3, c4, c5, c6, hu⟩ := hcc i hi
      obtain ⟨uo, uc, rfl, _⟩ := hu
      exact ⟨_, fun _ => ⟨b, o, a0, a1, a2, a3, uo, l.length, uc, wr, c, l, ha, hx, c0, c1, c2, c3, c4, c5, c6, rfl⟩, rfl⟩
    · exact ⟨#[.bool false, .bool false], fun h => absurd h hi, rfl⟩
  exact ⟨ao, cap, fun i => (each i).choose, rfl, fun i hi => (each i).choose_spec.1 hi, fun i => (each i).choose_spec.2⟩

set_option maxRecDepth 100000 in
set_option maxHeartbeats 4000000 in
theorem implToldRises_any (v : Value) (L : List KD) (w : World) (h : RdT w v L) (hL : L.length ≤ 1048576) :
    Calls Try.prog 9 #[v] w fun e w' => e = .returned (.bool (rises L)) ∧ Below w.heap.size w w' := by
  have HR := hid h
  obtain ⟨ao, cap, enc, rfl, hE, hsz⟩ := enc_of h
  have HE := hid hE
  clear h hE
  refine (callsIn_wide (n := 3)).1 ?_
  refine callsIn_of_wp_marks Try.func9 rfl trivial ?_ rfl
  simp only [Try.ntmps9, List.size_toArray, List.length_cons, List.length_nil, Nat.reduceAdd, Nat.reduceSub, Array.replicate_succ, Array.replicate_zero, List.push_toArray, List.append_toArray, List.nil_append, List.cons_append]
  gi_wp2_with fail
  have hb0 : Below w.heap.size w (w.alloc (.cells #[.bool false] 4)) := (Below.refl _ w).alloc (Nat.le_refl _) _
  have hx0 := Boxed.new w 4 (.bool false)
  have hz0 : (w.alloc (.cells #[.bool false] 4)).heap.size = w.heap.size + 1 := by simp
  generalize w.alloc (.cells #[.bool false] 4) = W0 at hb0 hx0 hz0 ⊢
  refine ⟨trivial, (callsIn_wide.2 (withLast_any _ L W0 (HR.out.later hb0))).mono ?_⟩
  rintro e W1 ⟨rfl, hW1⟩
  rw [hz0]
  have hx1 : Boxed W1 w.heap.size 4 (.bool false) := by rw [hW1]; exact hx0.alloc _
  have hb1 : Below w.heap.size w W1 := by rw [hW1]; exact hb0.alloc hb0.size _
  have hz1 : W1.heap.size = w.heap.size + 2 := by rw [hW1]; simp [hz0]
  have hy1 : W1.cell? ⟨w.heap.size + 1, 0, none⟩ = some (.slice ao L.length cap) := by rw [hW1, ← hz0]; go_cell
  have HZ : Hid (∀ W, Below W1.heap.size W1 W → W.cell? ⟨w.heap.size + 1, 0, none⟩ = some (.slice ao L.length cap) ∧ ∀ i, i < L.length → EncAt W ao L i (enc i)) := hid (fun W hb => ⟨cell_later hb hy1, fun i hi => (HE.out i hi).keep (fun p v hc => cell_later (hb1.trans (hb.mono hb1.size)) hc)⟩)
  have HX1 := hid hx1
  have HB1 := hid hb1
  have HZ1 := hid hz1
  clear hW1 hb0 hx0 hz0 hx1 hb1 hy1 hz1
  gi_wp2_with fail
  have hsz1 : W1.heap.size = w.heap.size + 2 := HZ1.out
  refine range_owns (Kp := KeepL) (ls := List.range L.length) (Z := fun W => W.cell? ⟨w.heap.size + 1, 0, none⟩ = some (.slice ao L.length cap) ∧ ∀ i, i < L.length → EncAt W ao L i (enc i)) rfl (by omega) (gf := 28) (lb := #[.pointer (some ⟨w.heap.size + 1, 0, none⟩)]) rfl trivial
    (enters_of Try.func28 (by kernel_rfl) rfl) (encs := enc) (withLast1_owns 2 (by omega) _ cap ao L hL enc) KeepL.trans (fun l W W' _ hT => KeepL.of_turned hT) (fun W hb => HZ.out W hb) (fun x => by rw [hsz x]; rfl)
    (RisI w L) (RisX w L) (risI_own w L _ (by omega)) (risI_lets w L _ (by omega)) (fun c => risX_own w L c _ (by omega)) ⟨fun _ h => absurd h (Nat.not_lt_zero _), HX1.out, HB1.out⟩ ?round ?done ?stop
  case done =>
    rintro D W hD ⟨hrs, h1, hb⟩ hK
    rw [List.length_range] at hrs
    have HRS := hid (rises_yes hrs)
    have HB := hid hb
    have y1 := h1.cell
    have f1 := h1.frozen
    clear hrs hb
    gi_wp2
    have hK2 : (W.setCell ⟨w.heap.size, 0, none⟩ (.bool true)).heap[D]? = some (.deferred (some [])) := by
      rw [Below.heap_setCell _ _ _ _ (by show D ≠ w.heap.size; omega)]; exact hK
    have e0 : ((W.setCell ⟨w.heap.size, 0, none⟩ (.bool true)).putObj D (.deferred none)).cell? ⟨w.heap.size, 0, none⟩ = some (.bool true) := by
      rw [cell_putObj _ (by show w.heap.size ≠ D; omega)]; go_cell
    refine ⟨by simp, .inl ⟨_, _, rfl, run_takeDeferred hK2, ?_⟩⟩
    exact ⟨.bool true, by simp [results, Try.results9, go_sem, e0], by rw [HRS.out], (HB.out.setCell (p := ⟨w.heap.size, 0, none⟩) (Nat.le_refl _) _).trans (below_putObj _ _ (by omega))⟩
  case stop =>
    rintro D c W hD ⟨rfl, hrs, h1, hb⟩ hK
    have HB := hid hb
    have HRS := hid hrs
    have y1 := h1.cell
    clear hb hrs
    gi_wp2
    have e0 : (W.putObj D (.deferred none)).cell? ⟨w.heap.size, 0, none⟩ = some (.bool false) := by
      rw [cell_putObj _ (by show w.heap.size ≠ D; omega)]; exact y1
    refine ⟨by simp, .inl ⟨_, _, rfl, run_takeDeferred hK, ?_⟩⟩
    exact ⟨.bool false, by simp [results, Try.results9, go_sem, e0], by rw [HRS.out], HB.out.trans (below_putObj _ _ (by omega))⟩
  case round =>
    rintro l pre x W hl ⟨hrs, h1, hb⟩ hpre
    have hx : x = pre.length ∧ pre.length < L.length := range_at hpre
    obtain ⟨rfl, hlt⟩ := hx
    obtain ⟨b, o, p0, p1, p2, p3, uo, un, uc, bp, pc, lx, _, hxx, _, _, _, _, _, _, _, henc⟩ := (HZ.out W1 (Below.refl _ _)).2 pre.length hlt
    rw [henc]
    have HNo : Hid (p2 < toldLast (L.take pre.length) p0 p1 → rises L = false) := hid (fun h => rises_no hlt (by rw [hxx]; exact h))
    have HYes : Hid (toldLast (L.take pre.length) p0 p1 ≤ p2 → risesTo L (pre.length + 1)) := hid (fun h i hi => by
      by_cases e : i = pre.length
      · subst e
        rw [hxx]
        exact h
      · exact hrs i (by omega))
    generalize toldLast (L.take pre.length) p0 p1 = m0 at *
    have HRS := hid hrs
    have HB := hid hb
    clear henc hxx hpre hrs
    gi_wp2
    refine ⟨(KeepsOthers.alloc _ _).from _, KeepL.of_below ((Below.refl _ W).alloc (Nat.le_refl _) _), ⟨HRS.out, h1.alloc _, HB.out.alloc HB.out.size _⟩, ?_⟩
    rintro W2 hT ⟨_, g1, gb⟩
    have t2 := hT.cell (show (W.alloc (.cells #[.int .i64 p0, .int .i64 p1, .int .i64 p2, .int .i64 p3, .slice uo un uc, .bool bp, .int .i64 pc] 50)).cell? ⟨W.heap.size, 2, none⟩ = some (.int .i64 p2) by go_cell)
    have y1 := g1.cell
    have f1 := g1.frozen
    have GB := hid gb
    clear hT gb HB
    by_cases hlt2 : p2 < m0
    · have HX := hid (HNo.out hlt2)
      gi_wp2
      exact ⟨(KeepsOthers.setCell _ _ _).from _, rfl, HX.out, g1.set _, GB.out.setCell (p := ⟨w.heap.size, 0, none⟩) (Nat.le_refl _) _⟩
    · have HX := hid (HYes.out (by omega))
      gi_wp2
      exact ⟨KeepsFrom.refl _ _, ⟨rfl, rfl, rfl, Nat.le_refl _, fun _ _ _ => rfl⟩, by rw [List.length_append]; exact HX.out, g1, GB.out⟩
end Go.Proofs.Ytnnhpnhnddibjaa
