/- impl.rowsApart: contract. -/
import Derived.Test.YtpdfhffmhlgcmaaAu
import Derived.Test.YtpdfhffmhlgcmaaRa
namespace Go.Proofs.Ytpdfhffmhlgcmaa
open Go.RowKit
attribute [local go_sem ↓] Go.wp_at_zero Go.wp_at_succ
attribute [local go_sem ↓] ldS_open stS_open ixS_open zeroR

theorem rangeL_all (l : List (Int × Int)) : rangeL l 0 l.length = l := by
  simp [rangeL, fromL]
/-- The kin of the first n rows lie in blocks of their own each. -/
def DisD (ds : Array Value) (n : Nat) : Prop := ∀ i j, i < n → j < n → i ≠ j → ∀ ui uj, ds[i * 2 + 1]? = some ui → ds[j * 2 + 1]? = some uj → ∀ b, ui.ownBlock = some b → uj.ownBlock ≠ some b
/-- ... below block C. -/
def BelD (ds : Array Value) (n C : Nat) : Prop := ∀ i, i < n → ∀ ui, ds[i * 2 + 1]? = some ui → ∀ b, ui.ownBlock = some b → b < C
theorem DisD.step {ds : Array Value} {n C : Nat} {u : Value} (h : DisD ds n) (hC : BelD ds n C) (hu : ∀ b, u.ownBlock = some b → C ≤ b) {k : Nat} (hk : k * 2 + 1 < ds.size) (m : Nat) (hm : ∀ i, i < m → i ≠ k → i < n) : DisD (ds.setIfInBounds (k * 2 + 1) u) m := by
  intro i j hi hj hij ui uj h1 h2 b hb hb'
  rw [Array.getElem?_setIfInBounds] at h1 h2
  by_cases ei : i = k
  · have ej : ¬ j = k := fun q => hij (ei.trans q.symm)
    subst ei
    rw [if_pos rfl, if_pos hk] at h1
    rw [if_neg (by omega)] at h2
    cases h1
    have := hC j (hm j hj ej) uj h2 b hb'
    have := hu b hb
    omega
  · rw [if_neg (by omega)] at h1
    by_cases ej : j = k
    · subst ej
      rw [if_pos rfl, if_pos hk] at h2
      cases h2
      have := hC i (hm i hi ei) ui h1 b hb
      have := hu b hb'
      omega
    · rw [if_neg (by omega)] at h2
      exact h i j (hm i hi ei) (hm j hj ej) hij ui uj h1 h2 b hb hb'
/-- Rows by value, the kin of the first n of them in memory from block B on. -/
structure AgO (w : World) (B : Nat) (ds : Array Value) (L : List ValD) (n : Nat) : Prop where
  size : ds.size = 48
  len : L.length = 24
  num : ∀ k, k < 24 → ds[k * 2]? = some (.int .i64 (L.getD k valD0).1)
  kin : ∀ k, k < n → ∃ u, ds[k * 2 + 1]? = some u ∧ Own w B u (L.getD k valD0).2
  two : ∀ k, k < 24 → ∃ u, ds[k * 2 + 1]? = some u ∧ u.oneCell' = true
  dis : DisD ds n
theorem AgO.later {w w' : World} {B : Nat} {ds : Array Value} {L : List ValD} {n : Nat} (h : AgO w B ds L n) (hb : Below w.heap.size w w') : AgO w' B ds L n :=
  ⟨h.size, h.len, h.num, fun k hk => by obtain ⟨u, h1, h2⟩ := h.kin k hk; exact ⟨u, h1, h2.later hb⟩, h.two, h.dis⟩
theorem AgO.mono {w : World} {B B' : Nat} {ds : Array Value} {L : List ValD} {n : Nat} (h : AgO w B ds L n) (hB : B' ≤ B) : AgO w B' ds L n :=
  ⟨h.size, h.len, h.num, fun k hk => by obtain ⟨u, h1, h2⟩ := h.kin k hk; exact ⟨u, h1, h2.mono hB⟩, h.two, h.dis⟩
theorem AgO.one {w : World} {B : Nat} {ds : Array Value} {L : List ValD} {n : Nat} (h : AgO w B ds L n) : ds.all (·.oneCell') = true := by
  rw [Array.all_eq_true]
  intro i hi
  have hi := h.size ▸ hi
  rcases Nat.mod_two_eq_zero_or_one i with e | e
  · have := h.num (i / 2) (by omega)
    rw [show i / 2 * 2 = i from by omega] at this
    obtain ⟨_, he⟩ := Array.getElem?_eq_some_iff.1 this
    rw [he]; rfl
  · obtain ⟨u, hu, hr⟩ := h.two (i / 2) (by omega)
    rw [show i / 2 * 2 + 1 = i from by omega] at hu
    obtain ⟨_, he⟩ := Array.getElem?_eq_some_iff.1 hu
    rw [he]; exact hr
theorem own_one {w : World} {B : Nat} {u : Value} {l : List (Int × Int)} (h : Own w B u l) : u.oneCell' = true := by
  obtain ⟨_, _, rfl, _⟩ := h.rd
  rfl
theorem AgO.bel {w : World} {B : Nat} {ds : Array Value} {L : List ValD} {n : Nat} (h : AgO w B ds L n) : BelD ds n w.heap.size := fun i hi ui h1 b hb => by
  obtain ⟨u, h2, h3⟩ := h.kin i hi
  rw [h1] at h2
  cases h2
  exact (h3.block b hb).2
theorem AgO.step {w : World} {g : Nat} {ds : Array Value} {L : List ValD} {k : Nat} (h : AgO w (g + 1) ds L k) (hk : k < 24) {u : Value} (hu : Own w (g + 1) u (L.getD k valD0).2) {C : Nat} (hC : BelD ds k C) (hCu : ∀ b, u.ownBlock = some b → C ≤ b) :
    AgO (w.setCell ⟨g, k * 2 + 1, none⟩ u) (g + 1) (ds.setIfInBounds (k * 2 + 1) u) L (k + 1) := by
  refine ⟨by simp [h.size], h.len, fun j hj => ?_, fun j hj => ?_, fun j hj => ?_, h.dis.step hC hCu (by rw [h.size]; omega) _ (fun i hi hne => by omega)⟩
  · rw [Array.getElem?_setIfInBounds, if_neg (by omega)]; exact h.num j hj
  · rw [Array.getElem?_setIfInBounds]
    by_cases e : j = k
    · subst e
      rw [if_pos rfl, if_pos (by rw [h.size]; omega)]
      exact ⟨u, rfl, hu.setApart (p := ⟨g, j * 2 + 1, none⟩) (Nat.lt_succ_self g) u⟩
    · rw [if_neg (by omega)]
      obtain ⟨u', h1, h2⟩ := h.kin j (by omega)
      exact ⟨u', h1, h2.setApart (p := ⟨g, k * 2 + 1, none⟩) (Nat.lt_succ_self g) u⟩
  · rw [Array.getElem?_setIfInBounds]
    by_cases e : j = k
    · subst e
      rw [if_pos rfl, if_pos (by rw [h.size]; omega)]
      exact ⟨u, rfl, own_one hu⟩
    · rw [if_neg (by omega)]
      exact h.two j hj
theorem AgG.start {w : World} {cs : Array Value} {L : List ValD} (h : AgG w cs L) (B : Nat) : AgO w B cs L 0 :=
  ⟨h.size, h.len, h.num, fun _ hk => absurd hk (Nat.not_lt_zero _), fun k hk => by
    obtain ⟨u, h1, ao, cap, hv, _⟩ := h.kin k hk
    exact ⟨u, h1, by rw [hv]; rfl⟩, fun _ _ hi => absurd hi (Nat.not_lt_zero _)⟩

set_option maxRecDepth 100000 in
set_option maxHeartbeats 4000000 in
theorem rowsApart_any (va : Value) (L : List ValD) (w : World) (h : RdG w va L) (hl : L.length = 24) (hm : ∀ k, k < 24 → (L.getD k valD0).2.length ≤ 1099511627776) :
    Calls Try.prog 20 #[.agg #[va]] w fun e w' => ∃ ds, e = .returned (.agg ds) ∧ AgO w' w.heap.size ds L 24 ∧ Below w.heap.size w w' := by
  obtain ⟨ao, cap, rfl, _, hc⟩ := h
  obtain ⟨b, off, rfl, hlt, hcc⟩ := hc (by omega)
  obtain ⟨xs, hxl, hx, hA⟩ := rowsOf_arr hl hcc
  rw [hl]
  clear hc hcc
  have hm := hid hm
  go_enter Try.func20, Try.ntmps20
  go_wp2_with fail
  have g0 : Below w.heap.size w ((w.alloc (.cells #[.slice (some ⟨b, off, none⟩) 24 cap] 28)).alloc (.cells zeroV 43)) := by go_grown
  refine (rowsOf_yes b off cap xs L _ (Nat.lt_of_lt_of_le hlt g0.size) hxl (fun j hj => (g0.cell (p := ⟨b, off + j, none⟩) hlt).trans (hx j hj)) (hA.later g0)).mono ?_
  rintro e w1 ⟨rfl, b1⟩
  have c1 : Below w.heap.size w w1 := (Below.trans (by go_grown) (b1.mono (by first | omega | (simp; done) | (simp; omega))))
  have hr1 := hid (show w1.heap[w.heap.size + 1]? = some (.cells zeroV 43 (0, 0)) from (b1.block _ (by simp)).trans (heap_alloc2_new w _ _))
  have hz1 : w.heap.size + 1 < w1.heap.size := by have := b1.size; simp at this; omega
  have hsz : xs.toArray.size = 48 := by simp [hxl]
  generalize xs.toArray = X at *
  have hA1 := hid (hA.later c1)
  clear b1 g0 hx hxl hA hlt
  have hs := stS_row (w := w1.alloc (.cells zeroV 43)) (g := w1.heap.size) (cs := X) (heap_alloc_new w1 _) (by simp [zeroV]) hsz hA1.out.one
  have hg2 := hid (setRow_heap (w1.alloc (.cells zeroV 43)) w1.heap.size zeroV X _ _ (heap_alloc_new w1 _))
  have d2 := hid (below_setRow (B := w1.heap.size) ((Below.refl _ w1).alloc (Nat.le_refl _) (.cells zeroV 43)) (g := w1.heap.size) (Nat.le_refl _) X)
  have hz2 : w1.heap.size < ((w1.alloc (.cells zeroV 43)).setRow w1.heap.size X).heap.size := by simp
  have hl2 := ldS_row hg2.out hsz
  go_wp2_with fail
  have hr2 : Hid (((w1.alloc (.cells zeroV 43)).setRow w1.heap.size X).heap[w.heap.size + 1]? = some (.cells zeroV 43 (0, 0))) := (d2.out.block _ hz1).trans hr1
  have hS2 := hid ((hA1.out.start (w1.heap.size + 1)))
  have hS3 : Hid (AgO ((w1.alloc (.cells zeroV 43)).setRow w1.heap.size X) (w1.heap.size + 1) X L 0) := ⟨hS2.out.size, hS2.out.len, hS2.out.num, fun _ hk => absurd hk (Nat.not_lt_zero _), hS2.out.two, fun _ _ hi => absurd hi (Nat.not_lt_zero _)⟩
  clear hs hl2 hS2 hr1
  generalize ((w1.alloc (.cells zeroV 43)).setRow w1.heap.size X) = w2 at *
  go_loopw [13] (fun i wr => ∃ (k : Nat) (ds : Array Value), k ≤ 24 ∧ i = .int .i64 k ∧ Hid (wr.heap[w1.heap.size]? = some (.cells ds 43 (0, 0))) ∧ Hid (AgO wr (w1.heap.size + 1) ds L k) ∧ Hid (wr.heap[w.heap.size + 1]? = some (.cells zeroV 43 (0, 0))) ∧ Below w1.heap.size w1 wr) (fun i _ => 24 - (intOf i).toNat)
  case atStart => exact ⟨0, X, Nat.zero_le _, rfl, hg2, hS3, hr2, d2⟩
  case round =>
    clear hg2 hS3 hr2 d2 hz2
    obtain ⟨k, ds, hk, rfl, hrow, hO, hr0, hbel⟩ := hrel
    have hgl : w1.heap.size < wr.heap.size := (Array.getElem?_eq_some_iff.1 hrow.out).1
    by_cases hlt : k < 24
    · obtain ⟨u, hu, hr⟩ := hA1.out.kin k hlt
      have hn := hA1.out.num k hlt
      have hix := fun W => ixS_row W hlt hsz hn hu
      have HR := hid (hr.later hbel)
      obtain ⟨uo, uc, rfl, _⟩ := id hr
      have hltI : (k : Int) < 24 := by omega
      have hmk := hm.out k hlt
      obtain ⟨x, hx⟩ : ∃ x, L.getD k valD0 = x := ⟨_, rfl⟩
      rw [hx] at HR hix hmk
      have HX := hid hx
      rw [hx] at hr
      obtain ⟨y, hy⟩ : ∃ y, ds[k * 2 + 1]? = some y := by obtain ⟨y, hy, _⟩ := hO.out.two k hlt; exact ⟨y, hy⟩
      have y0 : wr.cell? ⟨w1.heap.size, k * 2 + 1, none⟩ = some y := (cell_of_row wr w1.heap.size (k * 2 + 1) ds _ _ hrow.out).trans hy
      have f0 := frozen_of_row wr w1.heap.size (k * 2 + 1) ds _ hrow.out
      clear hu hn hr hx
      go_wp2_with fail
      refine (implRange_any _ x.2 0 x.2.length _ (HR.out.later (by go_grown)) hmk).mono ?_
      rintro e w3 ⟨v', rfl, ho, b3⟩
      have d3 : Below wr.heap.size wr w3 := (Below.trans (by go_grown) (b3.mono (by first | omega | (simp; done) | (simp; omega))))
      have hrow3 := hid ((d3.block _ hgl).trans hrow)
      have hO3 := hid (hO.out.later d3)
      have hr3 := hid ((d3.block (w.heap.size + 1) (by omega)).trans hr0)
      have hb3 := hid (hbel.trans (d3.mono hbel.size))
      have HO := hid (Own.mono ho (B' := w1.heap.size + 1) (by simp; omega))
      have HCU := hid (show ∀ b, v'.ownBlock = some b → wr.heap.size ≤ b from fun b hb => by have := (ho.block b hb).1; simp at this; omega)
      have HBEL := hid hO.out.bel
      rw [rangeL_all, ← HX.out] at HO
      have y3 := (d3.cell (p := ⟨w1.heap.size, k * 2 + 1, none⟩) hgl).trans y0
      have f3 := (d3.frozen (p := ⟨w1.heap.size, k * 2 + 1, none⟩) hgl).trans f0
      have hgl3 : w1.heap.size < w3.heap.size := Nat.lt_of_lt_of_le hgl d3.size
      clear ho b3 d3 hrow hO hr0 hbel y0 f0 hix HR
      have hO4 := hid (hO3.out.step hlt HO.out HBEL.out HCU.out)
      have hrow4 := hid (heap_setCell_same w3 w1.heap.size (k * 2 + 1) ds _ v' hrow3.out)
      have hr4 := hid ((heap_setCell_other w3 ⟨w1.heap.size, k * 2 + 1, none⟩ (w.heap.size + 1) v' (by show w.heap.size + 1 ≠ w1.heap.size; omega)).trans hr3.out)
      have hb4 := hid (hb3.out.setCell (p := ⟨w1.heap.size, k * 2 + 1, none⟩) (by show w1.heap.size ≤ w1.heap.size; omega) v')
      have hv1 := own_one HO.out
      obtain ⟨vo, vc, hvv, _⟩ := HO.out.rd
      rw [HX.out] at hvv
      rw [hvv] at hO4 hrow4 hr4 hb4 ⊢
      clear hvv
      go_wp2
      go_roundw
      case rel => exact ⟨k + 1, _, by omega, by go_num, hrow4, hO4, hr4, hb4.out⟩
      case measure => simp [intOf]; omega
    · have hk24 : k = 24 := by omega
      subst hk24
      have hl3 := ldS_row hrow.out hO.out.size
      have hs3 := stS_row (cs := ds) hr0.out (by simp [zeroV]) hO.out.size hO.out.one
      have hg3 := hid (setRow_heap wr (w.heap.size + 1) zeroV ds _ _ hr0.out)
      have hA3 := hid (show AgO (wr.setRow (w.heap.size + 1) ds) w.heap.size ds L 24 from ⟨hO.out.size, hO.out.len, hO.out.num, fun k hk => by
        obtain ⟨u, h1, h2⟩ := hO.out.kin k hk
        exact ⟨u, h1, (h2.setRow (by omega) ds).mono (by omega)⟩, hO.out.two, hO.out.dis⟩)
      have c3 := hid (below_setRow (c1.trans (hbel.mono c1.size)) (g := w.heap.size + 1) (by omega) ds)
      go_wp2_with fail
      refine bodyPost_ret (v := .agg ds) (results_cell_row Try.results20 _ _ (w.heap.size + 1) _ ds _ _ (by simp) hg3.out Try.underlying43 rfl (by rw [Try.infoR, hO.out.size])) rfl ⟨ds, rfl, hA3.out, c3.out⟩
end Go.Proofs.Ytpdfhffmhlgcmaa
