/- The graphs' own: szGraph, toGraph, eqGraph; both GraphSame: contracts. -/
import Derived.Test.YtildbhhoedhkjaaGe
import Derived.Test.YtildbhhoedhkjaaVs
namespace Go.Proofs.Ytildbhhoedhkjaa
open Go.RowKit
attribute [local go_sem ↓] Go.wp_at_zero Go.wp_at_succ

theorem szGraph_any (v : Value) (L : List ValD) (left : Int) (w : World) (h : RdG w v L) (h0 : 0 ≤ left) (h1 : left ≤ 1048576) :
    Calls Try.prog 15 #[.agg #[v], .int .i64 left] w fun e w' => SzG L left e ∧ Below w.heap.size w w' := by
  have HR := hid h
  obtain ⟨ao, cap, hv, _⟩ := h
  subst hv
  go_enter Try.func15, Try.ntmps15
  go_wp2_with fail
  refine (szValS_any _ L left _ (HR.out.later (by go_grown)) h0 h1).mono ?_
  rintro e w1 ⟨hs, b1⟩
  rcases hs with ⟨rfl, hs⟩ | ⟨rfl, hs⟩
  · have HS := hid hs
    have hn : ¬ (left - (L.length : Int) - (bulkG L : Int) < 0) := by omega
    obtain ⟨r, hr⟩ : ∃ r : Int, left - (L.length : Int) - (bulkG L : Int) = r := ⟨_, rfl⟩
    have HQ := hid hr
    rw [hr] at hn ⊢
    clear hr hs
    go_wp2
    go_ret
    exact ⟨Or.inl ⟨by rw [HQ.out]; simp, HS.out⟩, (Below.trans (by go_grown) (b1.mono (by first | omega | (simp; done) | (simp; omega))))⟩
  · have HS := hid hs
    clear hs
    go_wp2
    go_ret
    exact ⟨Or.inr ⟨by simp, HS.out⟩, (Below.trans (by go_grown) (b1.mono (by first | omega | (simp; done) | (simp; omega))))⟩

theorem eqGraph_any (va vb : Value) (la lb : List ValD) (w : World) (ha : RdG w va la) (hb : RdG w vb lb) :
    Calls Try.prog 19 #[.agg #[va], .agg #[vb]] w fun e w' => e = .returned (.bool (eqG la lb)) ∧ Below w.heap.size w w' := by
  have HA := hid ha
  have HB := hid hb
  obtain ⟨ao, cap, hv, _⟩ := ha
  subst hv
  obtain ⟨bo, cbp, hv, _⟩ := hb
  subst hv
  cases hq : eqG la lb with
  | true =>
    go_enter Try.func19, Try.ntmps19
    go_wp2_with fail
    refine (eqValS_any _ _ la lb _ (HA.out.later (by go_grown)) (HB.out.later (by go_grown))).mono ?_
    rintro e w1 ⟨rfl, b1⟩
    rw [hq]
    go_wp2
    go_ret
    exact ⟨by simp, (Below.trans (by go_grown) (b1.mono (by first | omega | (simp; done) | (simp; omega))))⟩
  | false =>
    go_enter Try.func19, Try.ntmps19
    go_wp2_with fail
    refine (eqValS_any _ _ la lb _ (HA.out.later (by go_grown)) (HB.out.later (by go_grown))).mono ?_
    rintro e w1 ⟨rfl, b1⟩
    rw [hq]
    go_wp2
    go_ret
    exact ⟨by simp, (Below.trans (by go_grown) (b1.mono (by first | omega | (simp; done) | (simp; omega))))⟩

set_option maxHeartbeats 1000000 in
theorem toGraph_any (v : Value) (L : List ValD) (w : World) (h : RdG w v L) (hl : L.length ≤ 1048576) (hbk : ∀ i, i < L.length → (L.getD i valD0).2.length ≤ 1048576) :
    Calls Try.prog 17 #[.agg #[v]] w fun e w' => ∃ v', e = .returned (.agg #[v']) ∧ FromG w.heap.size w' v' L ∧ Below w.heap.size w w' := by
  have HR := hid h
  obtain ⟨ao, cap, hv, _⟩ := h
  subst hv
  have HBK := hid hbk
  clear hbk
  go_enter Try.func17, Try.ntmps17
  go_wp2_with fail
  have a0_1 : (((w.alloc (.cells #[.slice ao L.length cap] 45)).alloc (.cells #[.slice none 0 0] 50)).alloc (.cells #[.slice none 0 0] 50)).cell? ⟨w.heap.size, 0, none⟩ = some (.slice ao L.length cap) := by go_cell
  have al_1 : w.heap.size < (((w.alloc (.cells #[.slice ao L.length cap] 45)).alloc (.cells #[.slice none 0 0] 50)).alloc (.cells #[.slice none 0 0] 50)).heap.size := by first | (simp; done) | (simp; omega)
  have r0_1 : (((w.alloc (.cells #[.slice ao L.length cap] 45)).alloc (.cells #[.slice none 0 0] 50)).alloc (.cells #[.slice none 0 0] 50)).cell? ⟨w.heap.size + 1, 0, none⟩ = some (.slice none 0 0) := by go_cell
  have rf0_1 : (((w.alloc (.cells #[.slice ao L.length cap] 45)).alloc (.cells #[.slice none 0 0] 50)).alloc (.cells #[.slice none 0 0] 50)).frozen? ⟨w.heap.size + 1, 0, none⟩ = false := by (first | go_cell | (simp [World.frozen?, World.alloc]; done) | rfl)
  have rl_1 : w.heap.size + 1 < (((w.alloc (.cells #[.slice ao L.length cap] 45)).alloc (.cells #[.slice none 0 0] 50)).alloc (.cells #[.slice none 0 0] 50)).heap.size := by first | (simp; done) | (simp; omega)
  have o0_1 : (((w.alloc (.cells #[.slice ao L.length cap] 45)).alloc (.cells #[.slice none 0 0] 50)).alloc (.cells #[.slice none 0 0] 50)).cell? ⟨w.heap.size + 1 + 1, 0, none⟩ = some (.slice none 0 0) := by go_cell
  have of0_1 : (((w.alloc (.cells #[.slice ao L.length cap] 45)).alloc (.cells #[.slice none 0 0] 50)).alloc (.cells #[.slice none 0 0] 50)).frozen? ⟨w.heap.size + 1 + 1, 0, none⟩ = false := by (first | go_cell | (simp [World.frozen?, World.alloc]; done) | rfl)
  have ol_1 : w.heap.size + 1 + 1 < (((w.alloc (.cells #[.slice ao L.length cap] 45)).alloc (.cells #[.slice none 0 0] 50)).alloc (.cells #[.slice none 0 0] 50)).heap.size := by first | (simp; done) | (simp; omega)
  have c1 : Below w.heap.size w (((w.alloc (.cells #[.slice ao L.length cap] 45)).alloc (.cells #[.slice none 0 0] 50)).alloc (.cells #[.slice none 0 0] 50)) := by go_grown
  have s1 : (((w.alloc (.cells #[.slice ao L.length cap] 45)).alloc (.cells #[.slice none 0 0] 50)).alloc (.cells #[.slice none 0 0] 50)).heap.size = w.heap.size + 3 := by simp
  generalize (((w.alloc (.cells #[.slice ao L.length cap] 45)).alloc (.cells #[.slice none 0 0] 50)).alloc (.cells #[.slice none 0 0] 50)) = w1 at a0_1 al_1 r0_1 rf0_1 rl_1 o0_1 of0_1 ol_1 c1 s1 ⊢
  have qa0_1 := cell_regrown a0_1
  have qr0_1 := cell_regrown r0_1
  have qo0_1 := cell_regrown o0_1
  refine (toValS_any _ L _ (HR.out.later c1) hl HBK.out).mono ?_
  rintro e w2 ⟨v', rfl, hf, b2⟩
  have HF := hid hf
  obtain ⟨uo, uc, huv, _⟩ := hf.rd
  subst huv
  have d2 : Below w1.heap.size w1 w2 := (Below.trans (by go_grown) (b2.mono (by first | omega | (simp; done) | (simp; omega))))
  have c2 : Below w.heap.size w w2 := c1.trans (d2.mono c1.size)
  have r0_2 : w2.cell? ⟨w.heap.size + 1, 0, none⟩ = some (.slice none 0 0) := (by rw [b2.cell (by first | omega | (simp; done) | (simp; omega))]; go_cell)
  have rf0_2 : w2.frozen? ⟨w.heap.size + 1, 0, none⟩ = false := (by rw [b2.frozen (by first | omega | (simp; done) | (simp; omega))]; (first | go_cell | (simp [World.frozen?, World.alloc]; done) | rfl))
  have rl_2 : w.heap.size + 1 < w2.heap.size := (by have := b2.size; first | omega | (revert this; simp; done) | (revert this; simp; omega))
  have o0_2 : w2.cell? ⟨w.heap.size + 1 + 1, 0, none⟩ = some (.slice none 0 0) := (by rw [b2.cell (by first | omega | (simp; done) | (simp; omega))]; go_cell)
  have of0_2 : w2.frozen? ⟨w.heap.size + 1 + 1, 0, none⟩ = false := (by rw [b2.frozen (by first | omega | (simp; done) | (simp; omega))]; (first | go_cell | (simp [World.frozen?, World.alloc]; done) | rfl))
  have ol_2 : w.heap.size + 1 + 1 < w2.heap.size := (by have := b2.size; first | omega | (revert this; simp; done) | (revert this; simp; omega))
  clear r0_1 rf0_1 rl_1 o0_1 of0_1 ol_1
  clear b2 d2 hf
  go_wp2
  have e0 : ((w2.setCell ⟨w.heap.size + 1 + 1, 0, none⟩ (.slice uo L.length uc)).setCell ⟨w.heap.size + 1, 0, none⟩ (.slice uo L.length uc)).cell? ⟨w.heap.size + 1, 0, none⟩ = some (.slice uo L.length uc) := by go_cell
  have HF2 := hid (FromG.mono ((HF.out.set (p := ⟨w.heap.size + 1 + 1, 0, none⟩) (by show w.heap.size + 1 + 1 < _; omega) (.slice uo L.length uc)).set (p := ⟨w.heap.size + 1, 0, none⟩) (by show w.heap.size + 1 < _; omega) (.slice uo L.length uc)) (B' := w.heap.size) (by omega))
  refine bodyPost_ret (v := .agg #[.slice uo L.length uc]) (by simp [results, Try.results17, go_sem, e0]) rfl ⟨_, rfl, HF2.out, (c2.setCell (p := ⟨w.heap.size + 1 + 1, 0, none⟩) (by show w.heap.size ≤ w.heap.size + 1 + 1; omega) _).setCell (p := ⟨w.heap.size + 1, 0, none⟩) (by show w.heap.size ≤ w.heap.size + 1; omega) _⟩

theorem same_two (x y : ValD) (u v : Value) (w : World) (hu : Rd w u x.2) (hv : Rd w v y.2) :
    Calls Try.prog 41 #[.agg #[.int .i64 x.1, u], .agg #[.int .i64 y.1, v]] w fun e w' => e = .returned (.bool (eqD x y)) ∧ Below w.heap.size w w' := specVSame_any _ _ _ _ _ _ _ hu hv
theorem isame_two (x y : ValD) (u v : Value) (w : World) (hu : Rd w u x.2) (hv : Rd w v y.2) :
    Calls Try.prog 78 #[.agg #[.int .i64 x.1, u], .agg #[.int .i64 y.1, v]] w fun e w' => e = .returned (.bool (eqD x y)) ∧ Below w.heap.size w w' := implVSame_any _ _ _ _ _ _ _ hu hv

end Go.Proofs.Ytildbhhoedhkjaa
