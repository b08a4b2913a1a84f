/- Proved here: FnExactGraphDo returns true for every graph and every write (no condition); what it was handed reads as before. -/
import Derived.Test.YtkmhnjgncnoddaaGreatRowGDoAll0
import Derived.Test.YtkmhnjgncnoddaaGreatBa
import Derived.Test.YtkmhnjgncnoddaaGreatGe
import Derived.Test.YtkmhnjgncnoddaaGreatVs
import Derived.Test.YtkmhnjgncnoddaaGreatOz
import Derived.Deep.Cut
import Derived.Test.YtkmhnjgncnoddaaGreatPl
import Derived.ProofKit
import Derived.Lib.SmallJoins
import Derived.Test.YtkmhnjgncnoddaaGreatGd
import Derived.Test.YtkmhnjgncnoddaaGreatRows
import Derived.WalkKit
/- Part: spec.GraphDo: contract. -/
namespace Go.Proofs.YtkmhnjgncnoddaaGreat
open Go.RowKit
attribute [local go_sem ↓] Go.wp_at_zero Go.wp_at_succ

theorem row_put {w : World} {B : Nat} {v : Value} {n : Nat} {xs : List Value} {e : TypeId} {g : Nat} (h : w.ownsRow B e 2 v n xs) (hg : v.ownBlock = some g) (j : Nat) (x : Value) :
    (w.setCell ⟨g, j, none⟩ x).ownsRow B e 2 v n (xs.set j x) := by
  refine ⟨by rw [List.length_set]; exact h.1, ?_⟩
  rcases h.2 with ⟨rfl, _⟩ | ⟨g', cap, cur, rfl, hbg, hgg, hnc, hcm, hsz, htk⟩
  · cases hg
  · cases hg
    refine .inr ⟨g', cap, cur.setIfInBounds j x, rfl, hbg, heap_setCell_same w g' j cur _ x hgg, hnc, hcm, by simpa using hsz, ?_⟩
    rw [Array.toList_setIfInBounds, List.take_set, htk]
theorem DisX.put {xs : List Value} {n C : Nat} {x u : Value} (h : DisX xs n) (hx : xs.length = n * 2) (hC : BelX xs n C) (hu : ∀ b, u.ownBlock = some b → C ≤ b) {k : Nat} (hk : k < n) : DisX ((xs.set (k * 2) x).set (k * 2 + 1) u) n := by
  have old : ∀ i, i ≠ k → ((xs.set (k * 2) x).set (k * 2 + 1) u)[i * 2 + 1]? = xs[i * 2 + 1]? := fun i hi => by rw [List.getElem?_set_ne (by omega), List.getElem?_set_ne (by omega)]
  have new : ((xs.set (k * 2) x).set (k * 2 + 1) u)[k * 2 + 1]? = some u := List.getElem?_set_self (by rw [List.length_set]; omega)
  intro i j hi hj hij ui uj h1 h2 b hb hb'
  by_cases ei : i = k
  · have ej : j ≠ k := by omega
    rw [ei, new] at h1
    rw [old j ej] at h2
    cases h1
    have := hC j hj uj h2 b hb'
    have := hu b hb
    omega
  · rw [old i ei] at h1
    by_cases ej : j = k
    · rw [ej, new] at h2
      cases h2
      have := hC i hi ui h1 b hb
      have := hu b hb'
      omega
    · rw [old j ej] at h2
      exact h i j hi hj hij ui uj h1 h2 b hb hb'
/-- A row behind a store of one element. -/
theorem RowN.put {w : World} {B g : Nat} {v : Value} {L : List ValD} {xs : List Value} (h : RowN w B v L 24 xs) (hl : L.length = 24) (hg : v.ownBlock = some g) {k : Nat} (hk : k < 24) (n : Int) {u : Value} {l : List (Int × Int)} (hu : Own w B u l) {C : Nat} (hC : BelX xs 24 C) (hCu : ∀ b, u.ownBlock = some b → C ≤ b) :
    RowN ((w.setCell ⟨g, k * 2, none⟩ (.int .i64 n)).setCell ⟨g, k * 2 + 1, none⟩ u) B v (L.set k (n, l)) 24 ((xs.set (k * 2) (.int .i64 n)).set (k * 2 + 1) u) := by
  have hx : xs.length = 24 * 2 := h.1.1
  have hu1 : ∀ (y : Value) (m : List (Int × Int)), Own w B y m → Own ((w.setCell ⟨g, k * 2, none⟩ (.int .i64 n)).setCell ⟨g, k * 2 + 1, none⟩ u) B y m := fun y m hy => by
    have hne := own_off_row h.1 hy g hg
    exact (hy.setOther (p := ⟨g, k * 2, none⟩) hne _).setOther (p := ⟨g, k * 2 + 1, none⟩) hne _
  refine ⟨row_put (row_put h.1 hg (k * 2) _) hg (k * 2 + 1) u, fun i hi => ?_, h.3.put hx hC hCu hk⟩
  rw [getD_set (by rw [hl]; exact hk)]
  by_cases e : i = k
  · subst e
    rw [if_pos rfl, List.getElem?_set_ne (by omega), List.getElem?_set_self (by omega), List.getElem?_set_self (by rw [List.length_set]; omega)]
    exact ⟨rfl, u, rfl, hu1 _ _ hu⟩
  · rw [if_neg e, List.getElem?_set_ne (by omega), List.getElem?_set_ne (by omega), List.getElem?_set_ne (by omega), List.getElem?_set_ne (by omega)]
    obtain ⟨h0, y, h1, h2⟩ := h.2 i hi
    exact ⟨h0, y, h1, hu1 _ _ h2⟩
theorem RowN.c0 {w : World} {B g cap : Nat} {L : List ValD} {xs : List Value} (h : RowN w B (.slice (some ⟨g, 0, none⟩) 24 cap) L 24 xs) {k : Nat} (hk : k < 24) : w.cell? ⟨g, k * 2, none⟩ = some (.int .i64 (L.getD k valD0).1) :=
  (h.1.cellAt (k * 2) (by omega)).trans (h.2 k hk).1
theorem RowN.c1 {w : World} {B g cap : Nat} {L : List ValD} {xs : List Value} (h : RowN w B (.slice (some ⟨g, 0, none⟩) 24 cap) L 24 xs) {k : Nat} (hk : k < 24) : ∃ u, w.cell? ⟨g, k * 2 + 1, none⟩ = some u ∧ Own w B u (L.getD k valD0).2 := by
  obtain ⟨_, u, h1, h2⟩ := h.2 k hk
  exact ⟨u, (h.1.cellAt (k * 2 + 1) (by omega)).trans h1, h2⟩
theorem RowN.rdG {w : World} {B g cap : Nat} {L : List ValD} {xs : List Value} (h : RowN w B (.slice (some ⟨g, 0, none⟩) 24 cap) L 24 xs) (hl : L.length = 24) : RdG w (.slice (some ⟨g, 0, none⟩) 24 cap) L := by
  refine ⟨some ⟨g, 0, none⟩, cap, by rw [hl], by rw [hl]; decide, fun _ => ⟨g, 0, rfl, (h.1.lt g rfl).2, fun i hi => ?_⟩⟩
  have hi : i < 24 := by rw [← hl]; exact hi
  rw [Nat.zero_add]
  obtain ⟨u, h1, h2⟩ := h.c1 hi
  exact ⟨h.c0 hi, u, h1, h2.rd⟩
theorem specGOk_is {L : List ValD} {c : Bool} (h : okG L = c) (va : Value) (w : World) (hr : RdG w va L) :
    Calls Tryz.prog 12 #[.agg #[va]] w fun e w' => e = .returned (.bool c) ∧ Below w.heap.size w w' := h ▸ specGOk_any va L w hr
theorem RowN.frz {w : World} {B g cap : Nat} {L : List ValD} {xs : List Value} (h : RowN w B (.slice (some ⟨g, 0, none⟩) 24 cap) L 24 xs) (o : Nat) : w.frozen? ⟨g, o, none⟩ = false := h.1.frozenAt o

theorem RowN.mono {w : World} {B B' : Nat} {v : Value} {L : List ValD} {n : Nat} {xs : List Value} (h : RowN w B v L n xs) (hB : B' ≤ B) : RowN w B' v L n xs :=
  ⟨row_mono h.1 hB, fun i hi => by obtain ⟨h0, u, h1, h2⟩ := h.2 i hi; exact ⟨h0, u, h1, h2.mono hB⟩, h.3⟩
/-- Between two writes into the copy: its rows, and what the function still reads. -/
structure MidG (w w3 : World) (B g cp : Nat) (k a b n : Int) (M : List ValD) (wx : World) : Prop where
  row : ∃ xs, RowN wx B (.slice (some ⟨g, 0, none⟩) 24 cp) M 24 xs
  p0 : wx.cell? ⟨w3.heap.size, 0, none⟩ = some (.slice (some ⟨g, 0, none⟩) 24 cp)
  o0 : wx.cell? ⟨w.heap.size + 1, 0, none⟩ = some (.int .i64 k)
  o1 : wx.cell? ⟨w.heap.size + 1, 1, none⟩ = some (.int .i64 a)
  o2 : wx.cell? ⟨w.heap.size + 1, 2, none⟩ = some (.int .i64 b)
  o3 : wx.cell? ⟨w.heap.size + 1, 3, none⟩ = some (.int .i64 n)
  r0 : wx.cell? ⟨w.heap.size + 1 + 1, 0, none⟩ = some (.slice none 0 0)
  rf0 : wx.frozen? ⟨w.heap.size + 1 + 1, 0, none⟩ = false
  bel : Below w.heap.size w wx
  sz : w3.heap.size < wx.heap.size
theorem two_cells (w : World) (g i j : Nat) (x y : Value) (bk o : Nat) (h : bk ≠ g) :
    ((w.setCell ⟨g, i, none⟩ x).setCell ⟨g, j, none⟩ y).cell? ⟨bk, o, none⟩ = w.cell? ⟨bk, o, none⟩ ∧ ((w.setCell ⟨g, i, none⟩ x).setCell ⟨g, j, none⟩ y).frozen? ⟨bk, o, none⟩ = w.frozen? ⟨bk, o, none⟩ := by
  have hb : ((w.setCell ⟨g, i, none⟩ x).setCell ⟨g, j, none⟩ y).heap[bk]? = w.heap[bk]? := (heap_setCell_other _ ⟨g, j, none⟩ bk y h).trans (heap_setCell_other w ⟨g, i, none⟩ bk x h)
  exact ⟨World.cell?_of_block (w := w) (a := ⟨bk, o, none⟩) hb, World.frozen?_of_block (w := w) (a := ⟨bk, o, none⟩) hb⟩
theorem MidG.put {w w3 w7 : World} {B g cp J : Nat} {k a b n d : Int} {M : List ValD} {xs : List Value} {u : Value} {l : List (Int × Int)} (hK : RowN w7 B (.slice (some ⟨g, 0, none⟩) 24 cp) M 24 xs) (hl : M.length = 24) (hJ : J < 24) (hO : Own w7 B u l)
    (hp : w7.cell? ⟨w3.heap.size, 0, none⟩ = some (.slice (some ⟨g, 0, none⟩) 24 cp)) (ho0 : w7.cell? ⟨w.heap.size + 1, 0, none⟩ = some (.int .i64 k)) (ho1 : w7.cell? ⟨w.heap.size + 1, 1, none⟩ = some (.int .i64 a))
    (ho2 : w7.cell? ⟨w.heap.size + 1, 2, none⟩ = some (.int .i64 b)) (ho3 : w7.cell? ⟨w.heap.size + 1, 3, none⟩ = some (.int .i64 n)) (hr : w7.cell? ⟨w.heap.size + 1 + 1, 0, none⟩ = some (.slice none 0 0)) (hrf : w7.frozen? ⟨w.heap.size + 1 + 1, 0, none⟩ = false)
    (hc : Below w.heap.size w w7) (hg3 : g < w3.heap.size) (hB : w.heap.size + 1 + 1 < B) (hBg : B ≤ g) (hz : w3.heap.size < w7.heap.size) {C : Nat} (hC : BelX xs 24 C) (hCu : ∀ b, u.ownBlock = some b → C ≤ b) :
    MidG w w3 B g cp k a b n (M.set J (d, l)) ((w7.setCell ⟨g, J * 2, none⟩ (.int .i64 d)).setCell ⟨g, J * 2 + 1, none⟩ u) :=
  have q := fun (bk o : Nat) (hbk : bk ≠ g) => two_cells w7 g (J * 2) (J * 2 + 1) (.int .i64 d) u bk o hbk
  ⟨⟨_, hK.put hl rfl hJ d hO hC hCu⟩, (q _ 0 (by omega)).1.trans hp, (q _ 0 (by omega)).1.trans ho0, (q _ 1 (by omega)).1.trans ho1, (q _ 2 (by omega)).1.trans ho2, (q _ 3 (by omega)).1.trans ho3, (q _ 0 (by omega)).1.trans hr, (q _ 0 (by omega)).2.trans hrf,
    (hc.setCell (p := ⟨g, J * 2, none⟩) (by show w.heap.size ≤ g; omega) _).setCell (p := ⟨g, J * 2 + 1, none⟩) (by show w.heap.size ≤ g; omega) _, by simpa using hz⟩
set_option maxRecDepth 100000 in
set_option maxHeartbeats 1000000 in
theorem specGDo_not (va : Value) (L : List ValD) (k a b n : Int) (w : World) (h : RdG w va L) (hok : okG L = false) :
    Calls Tryz.prog 9 #[.agg #[va], .agg #[.int .i64 k, .int .i64 a, .int .i64 b, .int .i64 n]] w fun e w' => e = .returned (.tuple #[.agg #[.slice none 0 0], .bool false]) ∧ Below w.heap.size w w' := by
  have HR := hid h
  obtain ⟨ao, cap, hv, -⟩ := h
  subst hv
  go_enter Tryz.func9, Tryz.ntmps9
  go_wp2_with fail
  have x0_1 : (((w.alloc (.cells #[.slice ao L.length cap] 25)).alloc (.cells #[.int .i64 k, .int .i64 a, .int .i64 b, .int .i64 n] 27)).alloc (.cells #[.slice none 0 0] 25)).cell? ⟨w.heap.size, 0, none⟩ = some (.slice ao L.length cap) := by go_cell
  have xl_1 : w.heap.size < (((w.alloc (.cells #[.slice ao L.length cap] 25)).alloc (.cells #[.int .i64 k, .int .i64 a, .int .i64 b, .int .i64 n] 27)).alloc (.cells #[.slice none 0 0] 25)).heap.size := by first | (simp; done) | (simp; omega)
  have o0_1 : (((w.alloc (.cells #[.slice ao L.length cap] 25)).alloc (.cells #[.int .i64 k, .int .i64 a, .int .i64 b, .int .i64 n] 27)).alloc (.cells #[.slice none 0 0] 25)).cell? ⟨w.heap.size + 1, 0, none⟩ = some (.int .i64 k) := by go_cell
  have o1_1 : (((w.alloc (.cells #[.slice ao L.length cap] 25)).alloc (.cells #[.int .i64 k, .int .i64 a, .int .i64 b, .int .i64 n] 27)).alloc (.cells #[.slice none 0 0] 25)).cell? ⟨w.heap.size + 1, 1, none⟩ = some (.int .i64 a) := by go_cell
  have o2_1 : (((w.alloc (.cells #[.slice ao L.length cap] 25)).alloc (.cells #[.int .i64 k, .int .i64 a, .int .i64 b, .int .i64 n] 27)).alloc (.cells #[.slice none 0 0] 25)).cell? ⟨w.heap.size + 1, 2, none⟩ = some (.int .i64 b) := by go_cell
  have o3_1 : (((w.alloc (.cells #[.slice ao L.length cap] 25)).alloc (.cells #[.int .i64 k, .int .i64 a, .int .i64 b, .int .i64 n] 27)).alloc (.cells #[.slice none 0 0] 25)).cell? ⟨w.heap.size + 1, 3, none⟩ = some (.int .i64 n) := by go_cell
  have ol_1 : w.heap.size + 1 < (((w.alloc (.cells #[.slice ao L.length cap] 25)).alloc (.cells #[.int .i64 k, .int .i64 a, .int .i64 b, .int .i64 n] 27)).alloc (.cells #[.slice none 0 0] 25)).heap.size := by first | (simp; done) | (simp; omega)
  have r0_1 : (((w.alloc (.cells #[.slice ao L.length cap] 25)).alloc (.cells #[.int .i64 k, .int .i64 a, .int .i64 b, .int .i64 n] 27)).alloc (.cells #[.slice none 0 0] 25)).cell? ⟨w.heap.size + 1 + 1, 0, none⟩ = some (.slice none 0 0) := by go_cell
  have rf0_1 : (((w.alloc (.cells #[.slice ao L.length cap] 25)).alloc (.cells #[.int .i64 k, .int .i64 a, .int .i64 b, .int .i64 n] 27)).alloc (.cells #[.slice none 0 0] 25)).frozen? ⟨w.heap.size + 1 + 1, 0, none⟩ = false := by (first | go_cell | (simp [World.frozen?, World.alloc]; done) | rfl)
  have rl_1 : w.heap.size + 1 + 1 < (((w.alloc (.cells #[.slice ao L.length cap] 25)).alloc (.cells #[.int .i64 k, .int .i64 a, .int .i64 b, .int .i64 n] 27)).alloc (.cells #[.slice none 0 0] 25)).heap.size := by first | (simp; done) | (simp; omega)
  have c1 : Below w.heap.size w (((w.alloc (.cells #[.slice ao L.length cap] 25)).alloc (.cells #[.int .i64 k, .int .i64 a, .int .i64 b, .int .i64 n] 27)).alloc (.cells #[.slice none 0 0] 25)) := by go_grown
  have s1 : (((w.alloc (.cells #[.slice ao L.length cap] 25)).alloc (.cells #[.int .i64 k, .int .i64 a, .int .i64 b, .int .i64 n] 27)).alloc (.cells #[.slice none 0 0] 25)).heap.size = w.heap.size + 3 := by simp
  generalize (((w.alloc (.cells #[.slice ao L.length cap] 25)).alloc (.cells #[.int .i64 k, .int .i64 a, .int .i64 b, .int .i64 n] 27)).alloc (.cells #[.slice none 0 0] 25)) = w1 at x0_1 xl_1 o0_1 o1_1 o2_1 o3_1 ol_1 r0_1 rf0_1 rl_1 c1 s1 ⊢
  have qx0_1 := cell_regrown x0_1
  have qo0_1 := cell_regrown o0_1
  have qo1_1 := cell_regrown o1_1
  have qo2_1 := cell_regrown o2_1
  have qo3_1 := cell_regrown o3_1
  have qr0_1 := cell_regrown r0_1
  refine (specGOk_is hok _ _ (HR.out.later c1)).mono ?_
  rintro e w2 ⟨rfl, b2⟩
  have d2 : Below w1.heap.size w1 w2 := (Below.trans (by go_grown) (b2.mono (by first | omega | (simp; done) | (simp; omega))))
  have c2 : Below w.heap.size w w2 := c1.trans (d2.mono c1.size)
  have r0_2 : w2.cell? ⟨w.heap.size + 1 + 1, 0, none⟩ = some (.slice none 0 0) := (by rw [b2.cell (by first | omega | (simp; done) | (simp; omega))]; go_cell)
  have rf0_2 : w2.frozen? ⟨w.heap.size + 1 + 1, 0, none⟩ = false := (by rw [b2.frozen (by first | omega | (simp; done) | (simp; omega))]; (first | go_cell | (simp [World.frozen?, World.alloc]; done) | rfl))
  have rl_2 : w.heap.size + 1 + 1 < w2.heap.size := (by have := b2.size; first | omega | (revert this; simp; done) | (revert this; simp; omega))
  clear r0_1 rf0_1 rl_1
  clear b2 d2
  go_wp2
  have e0 : (w2.setCell ⟨w.heap.size + 1 + 1, 0, none⟩ (.slice none 0 0)).cell? ⟨w.heap.size + 1 + 1, 0, none⟩ = some (.slice none 0 0) := by go_cell
  refine bodyPost_ret (v := .tuple #[.agg #[.slice none 0 0], .bool false]) (by simp [results, Tryz.results9, go_sem, e0]) rfl ⟨rfl, c2.setCell (p := ⟨w.heap.size + 1 + 1, 0, none⟩) (by show w.heap.size ≤ w.heap.size + 1 + 1; omega) _⟩

set_option maxRecDepth 100000 in
set_option maxHeartbeats 2000000 in
theorem specGDo_no (va : Value) (L : List ValD) (k a b n : Int) (w : World) (h : RdG w va L) (hok : okG L = true) (hop : opOk k a b n = false) :
    Calls Tryz.prog 9 #[.agg #[va], .agg #[.int .i64 k, .int .i64 a, .int .i64 b, .int .i64 n]] w fun e w' => (∃ v xs, e = .returned (.tuple #[.agg #[v], .bool false]) ∧ RowN w' w.heap.size v L 24 xs) ∧ Below w.heap.size w w' := by
  have HS := hid (okG_true hok)
  have HG := fun (v : Value) (W : World) (hr : RdG W v L) => specGOk_is (c := true) hok v W hr
  have CO := fun W => specOpOk_any k a b n W
  rw [hop] at CO
  clear hok hop
  have HR := hid h
  obtain ⟨ao, cap, hv, -⟩ := h
  subst hv
  go_enter Tryz.func9, Tryz.ntmps9
  go_wp2_with fail
  have x0_1 : (((w.alloc (.cells #[.slice ao L.length cap] 25)).alloc (.cells #[.int .i64 k, .int .i64 a, .int .i64 b, .int .i64 n] 27)).alloc (.cells #[.slice none 0 0] 25)).cell? ⟨w.heap.size, 0, none⟩ = some (.slice ao L.length cap) := by go_cell
  have xl_1 : w.heap.size < (((w.alloc (.cells #[.slice ao L.length cap] 25)).alloc (.cells #[.int .i64 k, .int .i64 a, .int .i64 b, .int .i64 n] 27)).alloc (.cells #[.slice none 0 0] 25)).heap.size := by first | (simp; done) | (simp; omega)
  have o0_1 : (((w.alloc (.cells #[.slice ao L.length cap] 25)).alloc (.cells #[.int .i64 k, .int .i64 a, .int .i64 b, .int .i64 n] 27)).alloc (.cells #[.slice none 0 0] 25)).cell? ⟨w.heap.size + 1, 0, none⟩ = some (.int .i64 k) := by go_cell
  have o1_1 : (((w.alloc (.cells #[.slice ao L.length cap] 25)).alloc (.cells #[.int .i64 k, .int .i64 a, .int .i64 b, .int .i64 n] 27)).alloc (.cells #[.slice none 0 0] 25)).cell? ⟨w.heap.size + 1, 1, none⟩ = some (.int .i64 a) := by go_cell
  have o2_1 : (((w.alloc (.cells #[.slice ao L.length cap] 25)).alloc (.cells #[.int .i64 k, .int .i64 a, .int .i64 b, .int .i64 n] 27)).alloc (.cells #[.slice none 0 0] 25)).cell? ⟨w.heap.size + 1, 2, none⟩ = some (.int .i64 b) := by go_cell
  have o3_1 : (((w.alloc (.cells #[.slice ao L.length cap] 25)).alloc (.cells #[.int .i64 k, .int .i64 a, .int .i64 b, .int .i64 n] 27)).alloc (.cells #[.slice none 0 0] 25)).cell? ⟨w.heap.size + 1, 3, none⟩ = some (.int .i64 n) := by go_cell
  have ol_1 : w.heap.size + 1 < (((w.alloc (.cells #[.slice ao L.length cap] 25)).alloc (.cells #[.int .i64 k, .int .i64 a, .int .i64 b, .int .i64 n] 27)).alloc (.cells #[.slice none 0 0] 25)).heap.size := by first | (simp; done) | (simp; omega)
  have r0_1 : (((w.alloc (.cells #[.slice ao L.length cap] 25)).alloc (.cells #[.int .i64 k, .int .i64 a, .int .i64 b, .int .i64 n] 27)).alloc (.cells #[.slice none 0 0] 25)).cell? ⟨w.heap.size + 1 + 1, 0, none⟩ = some (.slice none 0 0) := by go_cell
  have rf0_1 : (((w.alloc (.cells #[.slice ao L.length cap] 25)).alloc (.cells #[.int .i64 k, .int .i64 a, .int .i64 b, .int .i64 n] 27)).alloc (.cells #[.slice none 0 0] 25)).frozen? ⟨w.heap.size + 1 + 1, 0, none⟩ = false := by (first | go_cell | (simp [World.frozen?, World.alloc]; done) | rfl)
  have rl_1 : w.heap.size + 1 + 1 < (((w.alloc (.cells #[.slice ao L.length cap] 25)).alloc (.cells #[.int .i64 k, .int .i64 a, .int .i64 b, .int .i64 n] 27)).alloc (.cells #[.slice none 0 0] 25)).heap.size := by first | (simp; done) | (simp; omega)
  have c1 : Below w.heap.size w (((w.alloc (.cells #[.slice ao L.length cap] 25)).alloc (.cells #[.int .i64 k, .int .i64 a, .int .i64 b, .int .i64 n] 27)).alloc (.cells #[.slice none 0 0] 25)) := by go_grown
  have s1 : (((w.alloc (.cells #[.slice ao L.length cap] 25)).alloc (.cells #[.int .i64 k, .int .i64 a, .int .i64 b, .int .i64 n] 27)).alloc (.cells #[.slice none 0 0] 25)).heap.size = w.heap.size + 3 := by simp
  generalize (((w.alloc (.cells #[.slice ao L.length cap] 25)).alloc (.cells #[.int .i64 k, .int .i64 a, .int .i64 b, .int .i64 n] 27)).alloc (.cells #[.slice none 0 0] 25)) = w1 at x0_1 xl_1 o0_1 o1_1 o2_1 o3_1 ol_1 r0_1 rf0_1 rl_1 c1 s1 ⊢
  have qx0_1 := cell_regrown x0_1
  have qo0_1 := cell_regrown o0_1
  have qo1_1 := cell_regrown o1_1
  have qo2_1 := cell_regrown o2_1
  have qo3_1 := cell_regrown o3_1
  have qr0_1 := cell_regrown r0_1
  refine (HG _ _ (HR.out.later c1)).mono ?_
  rintro e w2 ⟨rfl, b2⟩
  have d2 : Below w1.heap.size w1 w2 := (Below.trans (by go_grown) (b2.mono (by first | omega | (simp; done) | (simp; omega))))
  have c2 : Below w.heap.size w w2 := c1.trans (d2.mono c1.size)
  have x0_2 : w2.cell? ⟨w.heap.size, 0, none⟩ = some (.slice ao L.length cap) := (by rw [b2.cell (by first | omega | (simp; done) | (simp; omega))]; go_cell)
  have xl_2 : w.heap.size < w2.heap.size := (by have := b2.size; first | omega | (revert this; simp; done) | (revert this; simp; omega))
  have o0_2 : w2.cell? ⟨w.heap.size + 1, 0, none⟩ = some (.int .i64 k) := (by rw [b2.cell (by first | omega | (simp; done) | (simp; omega))]; go_cell)
  have o1_2 : w2.cell? ⟨w.heap.size + 1, 1, none⟩ = some (.int .i64 a) := (by rw [b2.cell (by first | omega | (simp; done) | (simp; omega))]; go_cell)
  have o2_2 : w2.cell? ⟨w.heap.size + 1, 2, none⟩ = some (.int .i64 b) := (by rw [b2.cell (by first | omega | (simp; done) | (simp; omega))]; go_cell)
  have o3_2 : w2.cell? ⟨w.heap.size + 1, 3, none⟩ = some (.int .i64 n) := (by rw [b2.cell (by first | omega | (simp; done) | (simp; omega))]; go_cell)
  have ol_2 : w.heap.size + 1 < w2.heap.size := (by have := b2.size; first | omega | (revert this; simp; done) | (revert this; simp; omega))
  have r0_2 : w2.cell? ⟨w.heap.size + 1 + 1, 0, none⟩ = some (.slice none 0 0) := (by rw [b2.cell (by first | omega | (simp; done) | (simp; omega))]; go_cell)
  have rf0_2 : w2.frozen? ⟨w.heap.size + 1 + 1, 0, none⟩ = false := (by rw [b2.frozen (by first | omega | (simp; done) | (simp; omega))]; (first | go_cell | (simp [World.frozen?, World.alloc]; done) | rfl))
  have rl_2 : w.heap.size + 1 + 1 < w2.heap.size := (by have := b2.size; first | omega | (revert this; simp; done) | (revert this; simp; omega))
  clear x0_1 xl_1 o0_1 o1_1 o2_1 o3_1 ol_1 r0_1 rf0_1 rl_1
  clear b2 d2
  go_wp2_with fail
  refine (l3Copy_any _ L _ (HR.out.later c2) HS.out.1 (fun k hk => by have := okL_le (HS.out.2.1.ok hk); omega)).mono ?_
  rintro e w3 ⟨⟨v, xs, rfl, hrow⟩, b3⟩
  have hB0 : w.heap.size + 1 + 1 < w2.heap.size := rl_2
  have d3 : Below w2.heap.size w2 w3 := (Below.trans (by go_grown) (b3.mono (by first | omega | (simp; done) | (simp; omega))))
  have c3 : Below w.heap.size w w3 := c2.trans (d3.mono c2.size)
  have o0_3 : w3.cell? ⟨w.heap.size + 1, 0, none⟩ = some (.int .i64 k) := (by rw [b3.cell (by first | omega | (simp; done) | (simp; omega))]; go_cell)
  have o1_3 : w3.cell? ⟨w.heap.size + 1, 1, none⟩ = some (.int .i64 a) := (by rw [b3.cell (by first | omega | (simp; done) | (simp; omega))]; go_cell)
  have o2_3 : w3.cell? ⟨w.heap.size + 1, 2, none⟩ = some (.int .i64 b) := (by rw [b3.cell (by first | omega | (simp; done) | (simp; omega))]; go_cell)
  have o3_3 : w3.cell? ⟨w.heap.size + 1, 3, none⟩ = some (.int .i64 n) := (by rw [b3.cell (by first | omega | (simp; done) | (simp; omega))]; go_cell)
  have ol_3 : w.heap.size + 1 < w3.heap.size := (by have := b3.size; first | omega | (revert this; simp; done) | (revert this; simp; omega))
  have r0_3 : w3.cell? ⟨w.heap.size + 1 + 1, 0, none⟩ = some (.slice none 0 0) := (by rw [b3.cell (by first | omega | (simp; done) | (simp; omega))]; go_cell)
  have rf0_3 : w3.frozen? ⟨w.heap.size + 1 + 1, 0, none⟩ = false := (by rw [b3.frozen (by first | omega | (simp; done) | (simp; omega))]; (first | go_cell | (simp [World.frozen?, World.alloc]; done) | rfl))
  have rl_3 : w.heap.size + 1 + 1 < w3.heap.size := (by have := b3.size; first | omega | (revert this; simp; done) | (revert this; simp; omega))
  clear o0_2 o1_2 o2_2 o3_2 ol_2 r0_2 rf0_2 rl_2
  have HK3 := hid hrow
  have hB1 := c2.size
  obtain ⟨g, cp, hv⟩ := ownsRow_succ hrow.1
  subst hv
  clear b3 hrow
  go_wp2_with fail
  have p0_4 : (w3.alloc (.cells #[.slice (some ⟨g, 0, none⟩) 24 cp] 25)).cell? ⟨w3.heap.size, 0, none⟩ = some (.slice (some ⟨g, 0, none⟩) 24 cp) := by go_cell
  have pl_4 : w3.heap.size < (w3.alloc (.cells #[.slice (some ⟨g, 0, none⟩) 24 cp] 25)).heap.size := by simp
  have d4 : Below w3.heap.size w3 (w3.alloc (.cells #[.slice (some ⟨g, 0, none⟩) 24 cp] 25)) := by go_grown
  generalize (w3.alloc (.cells #[.slice (some ⟨g, 0, none⟩) 24 cp] 25)) = w4 at p0_4 pl_4 d4 ⊢
  have c4 : Below w.heap.size w w4 := c3.trans (d4.mono c3.size)
  have r0_4 : w4.cell? ⟨w.heap.size + 1 + 1, 0, none⟩ = some (.slice none 0 0) := (by rw [d4.cell (by first | omega | (simp; done) | (simp; omega))]; go_cell)
  have rf0_4 : w4.frozen? ⟨w.heap.size + 1 + 1, 0, none⟩ = false := (by rw [d4.frozen (by first | omega | (simp; done) | (simp; omega))]; (first | go_cell | (simp [World.frozen?, World.alloc]; done) | rfl))
  have rl_4 : w.heap.size + 1 + 1 < w4.heap.size := (by have := d4.size; omega)
  clear r0_3 rf0_3 rl_3
  have HK4 := hid (HK3.out.later d4)
  clear d4 HK3
  refine (CO _).mono ?_
  rintro e w5 ⟨rfl, b5⟩
  have d5 : Below w4.heap.size w4 w5 := (Below.trans (by go_grown) (b5.mono (by first | omega | (simp; done) | (simp; omega))))
  have c5 : Below w.heap.size w w5 := c4.trans (d5.mono c4.size)
  have p0_5 : w5.cell? ⟨w3.heap.size, 0, none⟩ = some (.slice (some ⟨g, 0, none⟩) 24 cp) := (by rw [b5.cell (by first | omega | (simp; done) | (simp; omega))]; go_cell)
  have pl_5 : w3.heap.size < w5.heap.size := (by have := b5.size; first | omega | (revert this; simp; done) | (revert this; simp; omega))
  have r0_5 : w5.cell? ⟨w.heap.size + 1 + 1, 0, none⟩ = some (.slice none 0 0) := (by rw [b5.cell (by first | omega | (simp; done) | (simp; omega))]; go_cell)
  have rf0_5 : w5.frozen? ⟨w.heap.size + 1 + 1, 0, none⟩ = false := (by rw [b5.frozen (by first | omega | (simp; done) | (simp; omega))]; (first | go_cell | (simp [World.frozen?, World.alloc]; done) | rfl))
  have rl_5 : w.heap.size + 1 + 1 < w5.heap.size := (by have := b5.size; first | omega | (revert this; simp; done) | (revert this; simp; omega))
  clear p0_4 pl_4 r0_4 rf0_4 rl_4
  have HK5 := hid (HK4.out.later d5)
  clear b5 d5 HK4
  have hF := hid (HK5.out.set (p := ⟨w.heap.size + 1 + 1, 0, none⟩) (by show w.heap.size + 1 + 1 < w2.heap.size; omega) (.slice (some ⟨g, 0, none⟩) 24 cp))
  have c6 := hid (c5.setCell (p := ⟨w.heap.size + 1 + 1, 0, none⟩) (by show w.heap.size ≤ w.heap.size + 1 + 1; omega) (.slice (some ⟨g, 0, none⟩) 24 cp))
  have e0 : (w5.setCell ⟨w.heap.size + 1 + 1, 0, none⟩ (.slice (some ⟨g, 0, none⟩) 24 cp)).cell? ⟨w.heap.size + 1 + 1, 0, none⟩ = some (.slice (some ⟨g, 0, none⟩) 24 cp) := by go_cell
  go_wp2
  refine bodyPost_ret (v := .tuple #[.agg #[.slice (some ⟨g, 0, none⟩) 24 cp], .bool false]) (by simp [results, Tryz.results9, go_sem, e0]) rfl ⟨⟨_, _, rfl, hF.out.mono hB1⟩, c6.out⟩

set_option maxRecDepth 100000 in
set_option maxHeartbeats 4000000 in
theorem specGDo_yes (va : Value) (L : List ValD) (k a b n : Int) (w : World) (h : RdG w va L) (hok : okG L = true) (hop : opOk k a b n = true) :
    Calls Tryz.prog 9 #[.agg #[va], .agg #[.int .i64 k, .int .i64 a, .int .i64 b, .int .i64 n]] w fun e w' => (∃ v xs, e = .returned (.tuple #[.agg #[v], .bool true]) ∧ RowN w' w.heap.size v (doG L k a b n) 24 xs) ∧ Below w.heap.size w w' := by
  have HS := hid (okG_true hok)
  have HG := fun (v : Value) (W : World) (hr : RdG W v L) => specGOk_is (c := true) hok v W hr
  have CO := fun W => specOpOk_any k a b n W
  rw [hop] at CO
  obtain ⟨J, hJ, hJK, hW⟩ := doG_ways L hop
  have CK := fun W => specOpKey_any k a b n W
  rw [hJK] at CK
  have hW := hid hW
  clear hok hop hJK
  have HR := hid h
  obtain ⟨ao, cap, hv, -⟩ := h
  subst hv
  go_enter Tryz.func9, Tryz.ntmps9
  go_wp2_with fail
  have x0_1 : (((w.alloc (.cells #[.slice ao L.length cap] 25)).alloc (.cells #[.int .i64 k, .int .i64 a, .int .i64 b, .int .i64 n] 27)).alloc (.cells #[.slice none 0 0] 25)).cell? ⟨w.heap.size, 0, none⟩ = some (.slice ao L.length cap) := by go_cell
  have xl_1 : w.heap.size < (((w.alloc (.cells #[.slice ao L.length cap] 25)).alloc (.cells #[.int .i64 k, .int .i64 a, .int .i64 b, .int .i64 n] 27)).alloc (.cells #[.slice none 0 0] 25)).heap.size := by first | (simp; done) | (simp; omega)
  have o0_1 : (((w.alloc (.cells #[.slice ao L.length cap] 25)).alloc (.cells #[.int .i64 k, .int .i64 a, .int .i64 b, .int .i64 n] 27)).alloc (.cells #[.slice none 0 0] 25)).cell? ⟨w.heap.size + 1, 0, none⟩ = some (.int .i64 k) := by go_cell
  have o1_1 : (((w.alloc (.cells #[.slice ao L.length cap] 25)).alloc (.cells #[.int .i64 k, .int .i64 a, .int .i64 b, .int .i64 n] 27)).alloc (.cells #[.slice none 0 0] 25)).cell? ⟨w.heap.size + 1, 1, none⟩ = some (.int .i64 a) := by go_cell
  have o2_1 : (((w.alloc (.cells #[.slice ao L.length cap] 25)).alloc (.cells #[.int .i64 k, .int .i64 a, .int .i64 b, .int .i64 n] 27)).alloc (.cells #[.slice none 0 0] 25)).cell? ⟨w.heap.size + 1, 2, none⟩ = some (.int .i64 b) := by go_cell
  have o3_1 : (((w.alloc (.cells #[.slice ao L.length cap] 25)).alloc (.cells #[.int .i64 k, .int .i64 a, .int .i64 b, .int .i64 n] 27)).alloc (.cells #[.slice none 0 0] 25)).cell? ⟨w.heap.size + 1, 3, none⟩ = some (.int .i64 n) := by go_cell
  have ol_1 : w.heap.size + 1 < (((w.alloc (.cells #[.slice ao L.length cap] 25)).alloc (.cells #[.int .i64 k, .int .i64 a, .int .i64 b, .int .i64 n] 27)).alloc (.cells #[.slice none 0 0] 25)).heap.size := by first | (simp; done) | (simp; omega)
  have r0_1 : (((w.alloc (.cells #[.slice ao L.length cap] 25)).alloc (.cells #[.int .i64 k, .int .i64 a, .int .i64 b, .int .i64 n] 27)).alloc (.cells #[.slice none 0 0] 25)).cell? ⟨w.heap.size + 1 + 1, 0, none⟩ = some (.slice none 0 0) := by go_cell
  have rf0_1 : (((w.alloc (.cells #[.slice ao L.length cap] 25)).alloc (.cells #[.int .i64 k, .int .i64 a, .int .i64 b, .int .i64 n] 27)).alloc (.cells #[.slice none 0 0] 25)).frozen? ⟨w.heap.size + 1 + 1, 0, none⟩ = false := by (first | go_cell | (simp [World.frozen?, World.alloc]; done) | rfl)
  have rl_1 : w.heap.size + 1 + 1 < (((w.alloc (.cells #[.slice ao L.length cap] 25)).alloc (.cells #[.int .i64 k, .int .i64 a, .int .i64 b, .int .i64 n] 27)).alloc (.cells #[.slice none 0 0] 25)).heap.size := by first | (simp; done) | (simp; omega)
  have c1 : Below w.heap.size w (((w.alloc (.cells #[.slice ao L.length cap] 25)).alloc (.cells #[.int .i64 k, .int .i64 a, .int .i64 b, .int .i64 n] 27)).alloc (.cells #[.slice none 0 0] 25)) := by go_grown
  have s1 : (((w.alloc (.cells #[.slice ao L.length cap] 25)).alloc (.cells #[.int .i64 k, .int .i64 a, .int .i64 b, .int .i64 n] 27)).alloc (.cells #[.slice none 0 0] 25)).heap.size = w.heap.size + 3 := by simp
  generalize (((w.alloc (.cells #[.slice ao L.length cap] 25)).alloc (.cells #[.int .i64 k, .int .i64 a, .int .i64 b, .int .i64 n] 27)).alloc (.cells #[.slice none 0 0] 25)) = w1 at x0_1 xl_1 o0_1 o1_1 o2_1 o3_1 ol_1 r0_1 rf0_1 rl_1 c1 s1 ⊢
  have qx0_1 := cell_regrown x0_1
  have qo0_1 := cell_regrown o0_1
  have qo1_1 := cell_regrown o1_1
  have qo2_1 := cell_regrown o2_1
  have qo3_1 := cell_regrown o3_1
  have qr0_1 := cell_regrown r0_1
  refine (HG _ _ (HR.out.later c1)).mono ?_
  rintro e w2 ⟨rfl, b2⟩
  have d2 : Below w1.heap.size w1 w2 := (Below.trans (by go_grown) (b2.mono (by first | omega | (simp; done) | (simp; omega))))
  have c2 : Below w.heap.size w w2 := c1.trans (d2.mono c1.size)
  have x0_2 : w2.cell? ⟨w.heap.size, 0, none⟩ = some (.slice ao L.length cap) := (by rw [b2.cell (by first | omega | (simp; done) | (simp; omega))]; go_cell)
  have xl_2 : w.heap.size < w2.heap.size := (by have := b2.size; first | omega | (revert this; simp; done) | (revert this; simp; omega))
  have o0_2 : w2.cell? ⟨w.heap.size + 1, 0, none⟩ = some (.int .i64 k) := (by rw [b2.cell (by first | omega | (simp; done) | (simp; omega))]; go_cell)
  have o1_2 : w2.cell? ⟨w.heap.size + 1, 1, none⟩ = some (.int .i64 a) := (by rw [b2.cell (by first | omega | (simp; done) | (simp; omega))]; go_cell)
  have o2_2 : w2.cell? ⟨w.heap.size + 1, 2, none⟩ = some (.int .i64 b) := (by rw [b2.cell (by first | omega | (simp; done) | (simp; omega))]; go_cell)
  have o3_2 : w2.cell? ⟨w.heap.size + 1, 3, none⟩ = some (.int .i64 n) := (by rw [b2.cell (by first | omega | (simp; done) | (simp; omega))]; go_cell)
  have ol_2 : w.heap.size + 1 < w2.heap.size := (by have := b2.size; first | omega | (revert this; simp; done) | (revert this; simp; omega))
  have r0_2 : w2.cell? ⟨w.heap.size + 1 + 1, 0, none⟩ = some (.slice none 0 0) := (by rw [b2.cell (by first | omega | (simp; done) | (simp; omega))]; go_cell)
  have rf0_2 : w2.frozen? ⟨w.heap.size + 1 + 1, 0, none⟩ = false := (by rw [b2.frozen (by first | omega | (simp; done) | (simp; omega))]; (first | go_cell | (simp [World.frozen?, World.alloc]; done) | rfl))
  have rl_2 : w.heap.size + 1 + 1 < w2.heap.size := (by have := b2.size; first | omega | (revert this; simp; done) | (revert this; simp; omega))
  clear x0_1 xl_1 o0_1 o1_1 o2_1 o3_1 ol_1 r0_1 rf0_1 rl_1
  clear b2 d2
  go_wp2_with fail
  refine (l3Copy_any _ L _ (HR.out.later c2) HS.out.1 (fun k hk => by have := okL_le (HS.out.2.1.ok hk); omega)).mono ?_
  rintro e w3 ⟨⟨v, xs, rfl, hrow⟩, b3⟩
  have hB0 : w.heap.size + 1 + 1 < w2.heap.size := rl_2
  have d3 : Below w2.heap.size w2 w3 := (Below.trans (by go_grown) (b3.mono (by first | omega | (simp; done) | (simp; omega))))
  have c3 : Below w.heap.size w w3 := c2.trans (d3.mono c2.size)
  have o0_3 : w3.cell? ⟨w.heap.size + 1, 0, none⟩ = some (.int .i64 k) := (by rw [b3.cell (by first | omega | (simp; done) | (simp; omega))]; go_cell)
  have o1_3 : w3.cell? ⟨w.heap.size + 1, 1, none⟩ = some (.int .i64 a) := (by rw [b3.cell (by first | omega | (simp; done) | (simp; omega))]; go_cell)
  have o2_3 : w3.cell? ⟨w.heap.size + 1, 2, none⟩ = some (.int .i64 b) := (by rw [b3.cell (by first | omega | (simp; done) | (simp; omega))]; go_cell)
  have o3_3 : w3.cell? ⟨w.heap.size + 1, 3, none⟩ = some (.int .i64 n) := (by rw [b3.cell (by first | omega | (simp; done) | (simp; omega))]; go_cell)
  have ol_3 : w.heap.size + 1 < w3.heap.size := (by have := b3.size; first | omega | (revert this; simp; done) | (revert this; simp; omega))
  have r0_3 : w3.cell? ⟨w.heap.size + 1 + 1, 0, none⟩ = some (.slice none 0 0) := (by rw [b3.cell (by first | omega | (simp; done) | (simp; omega))]; go_cell)
  have rf0_3 : w3.frozen? ⟨w.heap.size + 1 + 1, 0, none⟩ = false := (by rw [b3.frozen (by first | omega | (simp; done) | (simp; omega))]; (first | go_cell | (simp [World.frozen?, World.alloc]; done) | rfl))
  have rl_3 : w.heap.size + 1 + 1 < w3.heap.size := (by have := b3.size; first | omega | (revert this; simp; done) | (revert this; simp; omega))
  clear o0_2 o1_2 o2_2 o3_2 ol_2 r0_2 rf0_2 rl_2
  have HK3 := hid hrow
  have hB1 := c2.size
  have hB2 := b3.size
  obtain ⟨g, cp, hv⟩ := ownsRow_succ hrow.1
  subst hv
  have hgw3 := (hrow.1.lt g rfl).2
  have hgw2 := (hrow.1.lt g rfl).1
  clear b3 hrow
  go_wp2_with fail
  have p0_4 : (w3.alloc (.cells #[.slice (some ⟨g, 0, none⟩) 24 cp] 25)).cell? ⟨w3.heap.size, 0, none⟩ = some (.slice (some ⟨g, 0, none⟩) 24 cp) := by go_cell
  have pl_4 : w3.heap.size < (w3.alloc (.cells #[.slice (some ⟨g, 0, none⟩) 24 cp] 25)).heap.size := by simp
  have d4 : Below w3.heap.size w3 (w3.alloc (.cells #[.slice (some ⟨g, 0, none⟩) 24 cp] 25)) := by go_grown
  generalize (w3.alloc (.cells #[.slice (some ⟨g, 0, none⟩) 24 cp] 25)) = w4 at p0_4 pl_4 d4 ⊢
  have c4 : Below w.heap.size w w4 := c3.trans (d4.mono c3.size)
  have o0_4 : w4.cell? ⟨w.heap.size + 1, 0, none⟩ = some (.int .i64 k) := (by rw [d4.cell (by first | omega | (simp; done) | (simp; omega))]; go_cell)
  have o1_4 : w4.cell? ⟨w.heap.size + 1, 1, none⟩ = some (.int .i64 a) := (by rw [d4.cell (by first | omega | (simp; done) | (simp; omega))]; go_cell)
  have o2_4 : w4.cell? ⟨w.heap.size + 1, 2, none⟩ = some (.int .i64 b) := (by rw [d4.cell (by first | omega | (simp; done) | (simp; omega))]; go_cell)
  have o3_4 : w4.cell? ⟨w.heap.size + 1, 3, none⟩ = some (.int .i64 n) := (by rw [d4.cell (by first | omega | (simp; done) | (simp; omega))]; go_cell)
  have ol_4 : w.heap.size + 1 < w4.heap.size := (by have := d4.size; omega)
  have r0_4 : w4.cell? ⟨w.heap.size + 1 + 1, 0, none⟩ = some (.slice none 0 0) := (by rw [d4.cell (by first | omega | (simp; done) | (simp; omega))]; go_cell)
  have rf0_4 : w4.frozen? ⟨w.heap.size + 1 + 1, 0, none⟩ = false := (by rw [d4.frozen (by first | omega | (simp; done) | (simp; omega))]; (first | go_cell | (simp [World.frozen?, World.alloc]; done) | rfl))
  have rl_4 : w.heap.size + 1 + 1 < w4.heap.size := (by have := d4.size; omega)
  clear o0_3 o1_3 o2_3 o3_3 ol_3 r0_3 rf0_3 rl_3
  have HK4 := hid (HK3.out.later d4)
  clear d4 HK3
  refine (CO _).mono ?_
  rintro e w5 ⟨rfl, b5⟩
  have d5 : Below w4.heap.size w4 w5 := (Below.trans (by go_grown) (b5.mono (by first | omega | (simp; done) | (simp; omega))))
  have c5 : Below w.heap.size w w5 := c4.trans (d5.mono c4.size)
  have p0_5 : w5.cell? ⟨w3.heap.size, 0, none⟩ = some (.slice (some ⟨g, 0, none⟩) 24 cp) := (by rw [b5.cell (by first | omega | (simp; done) | (simp; omega))]; go_cell)
  have pl_5 : w3.heap.size < w5.heap.size := (by have := b5.size; first | omega | (revert this; simp; done) | (revert this; simp; omega))
  have o0_5 : w5.cell? ⟨w.heap.size + 1, 0, none⟩ = some (.int .i64 k) := (by rw [b5.cell (by first | omega | (simp; done) | (simp; omega))]; go_cell)
  have o1_5 : w5.cell? ⟨w.heap.size + 1, 1, none⟩ = some (.int .i64 a) := (by rw [b5.cell (by first | omega | (simp; done) | (simp; omega))]; go_cell)
  have o2_5 : w5.cell? ⟨w.heap.size + 1, 2, none⟩ = some (.int .i64 b) := (by rw [b5.cell (by first | omega | (simp; done) | (simp; omega))]; go_cell)
  have o3_5 : w5.cell? ⟨w.heap.size + 1, 3, none⟩ = some (.int .i64 n) := (by rw [b5.cell (by first | omega | (simp; done) | (simp; omega))]; go_cell)
  have ol_5 : w.heap.size + 1 < w5.heap.size := (by have := b5.size; first | omega | (revert this; simp; done) | (revert this; simp; omega))
  have r0_5 : w5.cell? ⟨w.heap.size + 1 + 1, 0, none⟩ = some (.slice none 0 0) := (by rw [b5.cell (by first | omega | (simp; done) | (simp; omega))]; go_cell)
  have rf0_5 : w5.frozen? ⟨w.heap.size + 1 + 1, 0, none⟩ = false := (by rw [b5.frozen (by first | omega | (simp; done) | (simp; omega))]; (first | go_cell | (simp [World.frozen?, World.alloc]; done) | rfl))
  have rl_5 : w.heap.size + 1 + 1 < w5.heap.size := (by have := b5.size; first | omega | (revert this; simp; done) | (revert this; simp; omega))
  clear p0_4 pl_4 o0_4 o1_4 o2_4 o3_4 ol_4 r0_4 rf0_4 rl_4
  have HK5 := hid (HK4.out.later d5)
  clear b5 d5 HK4
  go_wp2_with fail
  refine (CK _).mono ?_
  rintro e w6 ⟨rfl, b6⟩
  have d6 : Below w5.heap.size w5 w6 := (Below.trans (by go_grown) (b6.mono (by first | omega | (simp; done) | (simp; omega))))
  have c6 : Below w.heap.size w w6 := c5.trans (d6.mono c5.size)
  have p0_6 : w6.cell? ⟨w3.heap.size, 0, none⟩ = some (.slice (some ⟨g, 0, none⟩) 24 cp) := (by rw [b6.cell (by first | omega | (simp; done) | (simp; omega))]; go_cell)
  have pl_6 : w3.heap.size < w6.heap.size := (by have := b6.size; first | omega | (revert this; simp; done) | (revert this; simp; omega))
  have o0_6 : w6.cell? ⟨w.heap.size + 1, 0, none⟩ = some (.int .i64 k) := (by rw [b6.cell (by first | omega | (simp; done) | (simp; omega))]; go_cell)
  have o1_6 : w6.cell? ⟨w.heap.size + 1, 1, none⟩ = some (.int .i64 a) := (by rw [b6.cell (by first | omega | (simp; done) | (simp; omega))]; go_cell)
  have o2_6 : w6.cell? ⟨w.heap.size + 1, 2, none⟩ = some (.int .i64 b) := (by rw [b6.cell (by first | omega | (simp; done) | (simp; omega))]; go_cell)
  have o3_6 : w6.cell? ⟨w.heap.size + 1, 3, none⟩ = some (.int .i64 n) := (by rw [b6.cell (by first | omega | (simp; done) | (simp; omega))]; go_cell)
  have ol_6 : w.heap.size + 1 < w6.heap.size := (by have := b6.size; first | omega | (revert this; simp; done) | (revert this; simp; omega))
  have r0_6 : w6.cell? ⟨w.heap.size + 1 + 1, 0, none⟩ = some (.slice none 0 0) := (by rw [b6.cell (by first | omega | (simp; done) | (simp; omega))]; go_cell)
  have rf0_6 : w6.frozen? ⟨w.heap.size + 1 + 1, 0, none⟩ = false := (by rw [b6.frozen (by first | omega | (simp; done) | (simp; omega))]; (first | go_cell | (simp [World.frozen?, World.alloc]; done) | rfl))
  have rl_6 : w.heap.size + 1 + 1 < w6.heap.size := (by have := b6.size; first | omega | (revert this; simp; done) | (revert this; simp; omega))
  clear p0_5 pl_5 o0_5 o1_5 o2_5 o3_5 ol_5 r0_5 rf0_5 rl_5
  have HK6 := hid (HK5.out.later d6)
  clear b6 d6 HK5
  obtain ⟨u, p1, hou⟩ := HK6.out.c1 hJ
  have p0 := HK6.out.c0 hJ
  obtain ⟨uo, uc, huv, _⟩ := hou.rd
  subst huv
  obtain ⟨m, hM⟩ : ∃ m, L.getD J valD0 = m := ⟨_, rfl⟩
  rw [hM] at p0 p1 hou
  have hml : m.2.length ≤ 1099511627776 := by have := okL_le (HS.out.2.1.ok hJ); rw [hM] at this; omega
  have HU6 := hid hou
  have hM := hid hM
  have hJI : (J : Int) < 24 := by omega
  have hg3' : g < w3.heap.size := hgw3
  clear hou
  have hB6 : w2.heap.size ≤ w6.drew.heap.size := by show w2.heap.size ≤ w6.heap.size; omega
  go_upto_region 7 with fail
  go_cut [] from 21 (fun wx => MidG w w3 w2.heap.size g cp k a b n (L.set J (doN k a b n, doL k a b n m.2)) wx)
  case first =>
    go_region_with (first
      | (go_at_call 40; go_loud (refine (specDo_any k a b n m.1 _ m.2 _ (HU6.out.rd.later (by go_grown)) hml).mono ?_; rintro e w7 ⟨⟨v7, rfl, o7⟩, b7⟩; have d7 : Below w6.heap.size w6 w7 := (Below.trans (by go_grown) (b7.mono (by first | omega | (simp; done) | (simp; omega)))); have c7 : Below w.heap.size w w7 := c6.trans (d7.mono c6.size); have p0_7 : w7.cell? ⟨w3.heap.size, 0, none⟩ = some (.slice (some ⟨g, 0, none⟩) 24 cp) := (by rw [b7.cell (by first | omega | (simp; done) | (simp; omega))]; go_cell); have pl_7 : w3.heap.size < w7.heap.size := (by have := b7.size; first | omega | (revert this; simp; done) | (revert this; simp; omega)); have o0_7 : w7.cell? ⟨w.heap.size + 1, 0, none⟩ = some (.int .i64 k) := (by rw [b7.cell (by first | omega | (simp; done) | (simp; omega))]; go_cell); have o1_7 : w7.cell? ⟨w.heap.size + 1, 1, none⟩ = some (.int .i64 a) := (by rw [b7.cell (by first | omega | (simp; done) | (simp; omega))]; go_cell); have o2_7 : w7.cell? ⟨w.heap.size + 1, 2, none⟩ = some (.int .i64 b) := (by rw [b7.cell (by first | omega | (simp; done) | (simp; omega))]; go_cell); have o3_7 : w7.cell? ⟨w.heap.size + 1, 3, none⟩ = some (.int .i64 n) := (by rw [b7.cell (by first | omega | (simp; done) | (simp; omega))]; go_cell); have ol_7 : w.heap.size + 1 < w7.heap.size := (by have := b7.size; first | omega | (revert this; simp; done) | (revert this; simp; omega)); have r0_7 : w7.cell? ⟨w.heap.size + 1 + 1, 0, none⟩ = some (.slice none 0 0) := (by rw [b7.cell (by first | omega | (simp; done) | (simp; omega))]; go_cell); have rf0_7 : w7.frozen? ⟨w.heap.size + 1 + 1, 0, none⟩ = false := (by rw [b7.frozen (by first | omega | (simp; done) | (simp; omega))]; (first | go_cell | (simp [World.frozen?, World.alloc]; done) | rfl)); have rl_7 : w.heap.size + 1 + 1 < w7.heap.size := (by have := b7.size; first | omega | (revert this; simp; done) | (revert this; simp; omega)); clear p0_6 pl_6 o0_6 o1_6 o2_6 o3_6 ol_6 r0_6 rf0_6 rl_6; have HK7 := hid (HK6.out.later d7); obtain ⟨uo7, uc7, hv7, _⟩ := o7.rd; subst hv7; have HCU := hid (show ∀ b, (Value.slice uo7 _ uc7).ownBlock = some b → w6.heap.size ≤ b from fun b hb => (o7.block b hb).1); have HO7 := hid (Own.mono o7 hB6); have y0 := HK7.out.c0 hJ; obtain ⟨y, y1, _⟩ := HK7.out.c1 hJ; have z0 := HK7.out.frz (J * 2); have z1 := HK7.out.frz (J * 2 + 1); clear o7)))
    all_goals
      have hmid := hid (MidG.put (w := w) (w3 := w3) (d := doN k a b n) HK7.out HS.out.1 hJ HO7.out p0_7 o0_7 o1_7 o2_7 o3_7 r0_7 rf0_7 c7 hg3' hB0 hgw2 (by omega) HK6.out.bel HCU.out)
      clear p0_7 o0_7 o1_7 o2_7 o3_7 r0_7 rf0_7 HK7 HO7 y0 y1 z0 z1 c7 p0 p1 HK6 HU6
      go_wp2_with fail
      go_meet
      exact hmid.out
  case rest =>
    obtain ⟨⟨xs8, HK8⟩, p0_8, o0_8, o1_8, o2_8, o3_8, r0_8, rf0_8, c8, pl_8⟩ := hcut
    have HK8 := hid HK8
    obtain ⟨w8, hw8⟩ : ∃ y, y = wc := ⟨_, rfl⟩
    subst hw8
    have ol_8 : w.heap.size + 1 < w8.heap.size := by omega
    have rl_8 : w.heap.size + 1 + 1 < w8.heap.size := by omega
    have CN := fun W => specOther_any k a b n W
    rw [← hM.out] at HK8
    rcases hW.out with ⟨hN, hD⟩ | ⟨I, hI, hne, hN, hD⟩
    case' inl =>
      rw [hN] at CN
      clear hN
      have hD := hid hD
      go_wp2_with fail
      refine (CN _).mono ?_
      rintro e w9 ⟨rfl, b9⟩
      have d9 : Below w8.heap.size w8 w9 := (Below.trans (by go_grown) (b9.mono (by first | omega | (simp; done) | (simp; omega))))
      have c9 : Below w.heap.size w w9 := c8.trans (d9.mono c8.size)
      have p0_9 : w9.cell? ⟨w3.heap.size, 0, none⟩ = some (.slice (some ⟨g, 0, none⟩) 24 cp) := (by rw [b9.cell (by first | omega | (simp; done) | (simp; omega))]; go_cell)
      have pl_9 : w3.heap.size < w9.heap.size := (by have := b9.size; first | omega | (revert this; simp; done) | (revert this; simp; omega))
      have r0_9 : w9.cell? ⟨w.heap.size + 1 + 1, 0, none⟩ = some (.slice none 0 0) := (by rw [b9.cell (by first | omega | (simp; done) | (simp; omega))]; go_cell)
      have rf0_9 : w9.frozen? ⟨w.heap.size + 1 + 1, 0, none⟩ = false := (by rw [b9.frozen (by first | omega | (simp; done) | (simp; omega))]; (first | go_cell | (simp [World.frozen?, World.alloc]; done) | rfl))
      have rl_9 : w.heap.size + 1 + 1 < w9.heap.size := (by have := b9.size; first | omega | (revert this; simp; done) | (revert this; simp; omega))
      clear p0_8 pl_8 r0_8 rf0_8 rl_8
      have HK9 := hid (HK8.out.later d9)
      clear b9 d9 HK8
      have hF := hid (HK9.out.set (p := ⟨w.heap.size + 1 + 1, 0, none⟩) (by show w.heap.size + 1 + 1 < w2.heap.size; omega) (.slice (some ⟨g, 0, none⟩) 24 cp))
      have cF := hid (c9.setCell (p := ⟨w.heap.size + 1 + 1, 0, none⟩) (by show w.heap.size ≤ w.heap.size + 1 + 1; omega) (.slice (some ⟨g, 0, none⟩) 24 cp))
      have e0 : (w9.setCell ⟨w.heap.size + 1 + 1, 0, none⟩ (.slice (some ⟨g, 0, none⟩) 24 cp)).cell? ⟨w.heap.size + 1 + 1, 0, none⟩ = some (.slice (some ⟨g, 0, none⟩) 24 cp) := by go_cell
      have hF2 := hid (hF.out.mono hB1)
      rw [← hD.out] at hF2
      go_wp2
      refine bodyPost_ret (v := .tuple #[.agg #[.slice (some ⟨g, 0, none⟩) 24 cp], .bool true]) (by simp [results, Tryz.results9, go_sem, e0]) rfl ⟨⟨_, _, rfl, hF2.out⟩, cF.out⟩
    case' inr =>
      rw [hN] at CN
      clear hN
      have hD := hid hD
      have hne := hid hne
      go_wp2_with fail
      refine (CN _).mono ?_
      rintro e w9 ⟨rfl, b9⟩
      have d9 : Below w8.heap.size w8 w9 := (Below.trans (by go_grown) (b9.mono (by first | omega | (simp; done) | (simp; omega))))
      have c9 : Below w.heap.size w w9 := c8.trans (d9.mono c8.size)
      have p0_9 : w9.cell? ⟨w3.heap.size, 0, none⟩ = some (.slice (some ⟨g, 0, none⟩) 24 cp) := (by rw [b9.cell (by first | omega | (simp; done) | (simp; omega))]; go_cell)
      have pl_9 : w3.heap.size < w9.heap.size := (by have := b9.size; first | omega | (revert this; simp; done) | (revert this; simp; omega))
      have o0_9 : w9.cell? ⟨w.heap.size + 1, 0, none⟩ = some (.int .i64 k) := (by rw [b9.cell (by first | omega | (simp; done) | (simp; omega))]; go_cell)
      have o1_9 : w9.cell? ⟨w.heap.size + 1, 1, none⟩ = some (.int .i64 a) := (by rw [b9.cell (by first | omega | (simp; done) | (simp; omega))]; go_cell)
      have o2_9 : w9.cell? ⟨w.heap.size + 1, 2, none⟩ = some (.int .i64 b) := (by rw [b9.cell (by first | omega | (simp; done) | (simp; omega))]; go_cell)
      have o3_9 : w9.cell? ⟨w.heap.size + 1, 3, none⟩ = some (.int .i64 n) := (by rw [b9.cell (by first | omega | (simp; done) | (simp; omega))]; go_cell)
      have ol_9 : w.heap.size + 1 < w9.heap.size := (by have := b9.size; first | omega | (revert this; simp; done) | (revert this; simp; omega))
      have r0_9 : w9.cell? ⟨w.heap.size + 1 + 1, 0, none⟩ = some (.slice none 0 0) := (by rw [b9.cell (by first | omega | (simp; done) | (simp; omega))]; go_cell)
      have rf0_9 : w9.frozen? ⟨w.heap.size + 1 + 1, 0, none⟩ = false := (by rw [b9.frozen (by first | omega | (simp; done) | (simp; omega))]; (first | go_cell | (simp [World.frozen?, World.alloc]; done) | rfl))
      have rl_9 : w.heap.size + 1 + 1 < w9.heap.size := (by have := b9.size; first | omega | (revert this; simp; done) | (revert this; simp; omega))
      clear p0_8 pl_8 o0_8 o1_8 o2_8 o3_8 ol_8 r0_8 rf0_8 rl_8
      have HK9 := hid (HK8.out.later d9)
      clear b9 d9 HK8
      obtain ⟨u2, p1, hou⟩ := HK9.out.c1 hI
      have p0 := HK9.out.c0 hI
      have hgI : (L.set J (doN k a b n, doL k a b n (L.getD J valD0).2)).getD I valD0 = L.getD I valD0 := by rw [getD_set (by rw [HS.out.1]; exact hJ), if_neg hne.out]
      rw [hgI] at p0 hou
      obtain ⟨uo2, uc2, huv, _⟩ := hou.rd
      subst huv
      have hml2 : (L.getD I valD0).2.length ≤ 1099511627776 := by have := okL_le (HS.out.2.1.ok hI); omega
      obtain ⟨q, hQ⟩ : ∃ q, L.getD I valD0 = q := ⟨_, rfl⟩
      rw [hQ] at p0 p1 hou hml2
      have hQ := hid hQ
      have HU9 := hid hou
      have hII : (I : Int) < 24 := by omega
      have hIz : (0 : Int) ≤ (I : Int) := by omega
      have hB9 : w2.heap.size ≤ w9.drew.heap.size := by show w2.heap.size ≤ w9.heap.size; omega
      have hMl : Hid ((L.set J (doN k a b n, doL k a b n (L.getD J valD0).2)).length = 24) := by show _ = _; rw [List.length_set]; exact HS.out.1
      clear hou hgI
      go_upto_region 10 with fail
      generalize L.set J (doN k a b n, doL k a b n (L.getD J valD0).2) = M8 at *
      go_cut [] from 36 (fun wx => MidG w w3 w2.heap.size g cp k a b n (M8.set I (0, backL k a b n q.2)) wx)
      case first =>
        go_region_with (first
          | (go_at_call 42; refine (specBack_any k a b n q.1 _ q.2 _ (HU9.out.rd.later (by go_grown)) hml2).mono ?_; rintro e w10 ⟨⟨v7, rfl, o7⟩, b10⟩; have d10 : Below w9.heap.size w9 w10 := (Below.trans (by go_grown) (b10.mono (by first | omega | (simp; done) | (simp; omega)))); have c10 : Below w.heap.size w w10 := c9.trans (d10.mono c9.size); have p0_10 : w10.cell? ⟨w3.heap.size, 0, none⟩ = some (.slice (some ⟨g, 0, none⟩) 24 cp) := (by rw [b10.cell (by first | omega | (simp; done) | (simp; omega))]; go_cell); have pl_10 : w3.heap.size < w10.heap.size := (by have := b10.size; first | omega | (revert this; simp; done) | (revert this; simp; omega)); have o0_10 : w10.cell? ⟨w.heap.size + 1, 0, none⟩ = some (.int .i64 k) := (by rw [b10.cell (by first | omega | (simp; done) | (simp; omega))]; go_cell); have o1_10 : w10.cell? ⟨w.heap.size + 1, 1, none⟩ = some (.int .i64 a) := (by rw [b10.cell (by first | omega | (simp; done) | (simp; omega))]; go_cell); have o2_10 : w10.cell? ⟨w.heap.size + 1, 2, none⟩ = some (.int .i64 b) := (by rw [b10.cell (by first | omega | (simp; done) | (simp; omega))]; go_cell); have o3_10 : w10.cell? ⟨w.heap.size + 1, 3, none⟩ = some (.int .i64 n) := (by rw [b10.cell (by first | omega | (simp; done) | (simp; omega))]; go_cell); have ol_10 : w.heap.size + 1 < w10.heap.size := (by have := b10.size; first | omega | (revert this; simp; done) | (revert this; simp; omega)); have r0_10 : w10.cell? ⟨w.heap.size + 1 + 1, 0, none⟩ = some (.slice none 0 0) := (by rw [b10.cell (by first | omega | (simp; done) | (simp; omega))]; go_cell); have rf0_10 : w10.frozen? ⟨w.heap.size + 1 + 1, 0, none⟩ = false := (by rw [b10.frozen (by first | omega | (simp; done) | (simp; omega))]; (first | go_cell | (simp [World.frozen?, World.alloc]; done) | rfl)); have rl_10 : w.heap.size + 1 + 1 < w10.heap.size := (by have := b10.size; first | omega | (revert this; simp; done) | (revert this; simp; omega)); clear p0_9 pl_9 o0_9 o1_9 o2_9 o3_9 ol_9 r0_9 rf0_9 rl_9; have HK10 := hid (HK9.out.later d10); obtain ⟨uo7, uc7, hv7, _⟩ := o7.rd; subst hv7; have HCU := hid (show ∀ b, (Value.slice uo7 _ uc7).ownBlock = some b → w9.heap.size ≤ b from fun b hb => (o7.block b hb).1); have HO7 := hid (Own.mono o7 hB9); have y0 := HK10.out.c0 hI; obtain ⟨y, y1, _⟩ := HK10.out.c1 hI; have z0 := HK10.out.frz (I * 2); have z1 := HK10.out.frz (I * 2 + 1); clear o7))
        all_goals
          have hmid := hid (MidG.put (w := w) (w3 := w3) (d := 0) HK10.out hMl.out hI HO7.out p0_10 o0_10 o1_10 o2_10 o3_10 r0_10 rf0_10 c10 hg3' hB0 hgw2 (by omega) HK9.out.bel HCU.out)
          clear p0_10 o0_10 o1_10 o2_10 o3_10 r0_10 rf0_10 HK10 HO7 y0 y1 z0 z1 c10 p0 p1 HK9 HU9
          go_wp2_with fail
          go_meet
          exact hmid.out
      case rest =>
        obtain ⟨⟨xs11, HK11⟩, p0_11, -, -, -, -, r0_11, rf0_11, c11, pl_11⟩ := hcut
        have HK11 := hid HK11
        obtain ⟨w11, hw11⟩ : ∃ y, y = wc := ⟨_, rfl⟩
        subst hw11
        have hF := hid (HK11.out.set (p := ⟨w.heap.size + 1 + 1, 0, none⟩) (by show w.heap.size + 1 + 1 < w2.heap.size; omega) (.slice (some ⟨g, 0, none⟩) 24 cp))
        have cF := hid (c11.setCell (p := ⟨w.heap.size + 1 + 1, 0, none⟩) (by show w.heap.size ≤ w.heap.size + 1 + 1; omega) (.slice (some ⟨g, 0, none⟩) 24 cp))
        have e0 : (w11.setCell ⟨w.heap.size + 1 + 1, 0, none⟩ (.slice (some ⟨g, 0, none⟩) 24 cp)).cell? ⟨w.heap.size + 1 + 1, 0, none⟩ = some (.slice (some ⟨g, 0, none⟩) 24 cp) := by go_cell
        have hF2 := hid (hF.out.mono hB1)
        rw [← hQ.out, ← hD.out] at hF2
        go_wp2
        refine bodyPost_ret (v := .tuple #[.agg #[.slice (some ⟨g, 0, none⟩) 24 cp], .bool true]) (by simp [results, Tryz.results9, go_sem, e0]) rfl ⟨⟨_, _, rfl, hF2.out⟩, cF.out⟩

/-- spec.GraphDo of a graph that is ok. -/
theorem specGDo_any (va : Value) (L : List ValD) (k a b n : Int) (w : World) (h : RdG w va L) (hok : okG L = true) :
    Calls Tryz.prog 9 #[.agg #[va], .agg #[.int .i64 k, .int .i64 a, .int .i64 b, .int .i64 n]] w fun e w' => (∃ v xs, e = .returned (.tuple #[.agg #[v], .bool (opOk k a b n)]) ∧ RowN w' w.heap.size v (doG L k a b n) 24 xs) ∧ Below w.heap.size w w' := by
  cases hop : opOk k a b n with
  | true => exact specGDo_yes va L k a b n w h hok hop
  | false =>
    have e : doG L k a b n = L := by
      rcases op_ways k a b n with ⟨_, e, _⟩ | ⟨_, e, _⟩ | ⟨_, e, _⟩ | ⟨h1, h2, h3, _⟩
      · rw [hop] at e; cases e
      · rw [hop] at e; cases e
      · rw [hop] at e; cases e
      · rw [doG, if_neg h1, if_neg h2, if_neg h3]
    rw [e]
    exact specGDo_no va L k a b n w h hok hop
end Go.Proofs.YtkmhnjgncnoddaaGreat

/- Part: The graphs' own: szGraph, toGraph, eqGraph; both GraphSame: contracts. -/
namespace Go.Proofs.YtkmhnjgncnoddaaGreat
open Go.RowKit
attribute [local go_sem ↓] Go.wp_at_zero Go.wp_at_succ

theorem szGraph_any (v : Value) (L : List ValD) (left : Int) (w : World) (h : RdG w v L) (h0 : 0 ≤ left) (h1 : left ≤ 1048576) :
    Calls Tryz.prog 16 #[.agg #[v], .int .i64 left] w fun e w' => SzG L left e ∧ Below w.heap.size w w' := by
  have HR := hid h
  obtain ⟨ao, cap, hv, _⟩ := h
  subst hv
  go_enter Tryz.func16, Tryz.ntmps16
  go_wp2_with fail
  refine (szValS_any _ L left _ (HR.out.later (by go_grown)) h0 h1).mono ?_
  rintro e w1 ⟨hs, b1⟩
  rcases hs with ⟨rfl, hs⟩ | ⟨rfl, hs⟩
  · have HS := hid hs
    have hn : ¬ (left - (L.length : Int) - (bulkG L : Int) < 0) := by omega
    obtain ⟨r, hr⟩ : ∃ r : Int, left - (L.length : Int) - (bulkG L : Int) = r := ⟨_, rfl⟩
    have HQ := hid hr
    rw [hr] at hn ⊢
    clear hr hs
    go_wp2
    go_ret
    exact ⟨Or.inl ⟨by rw [HQ.out]; simp, HS.out⟩, (Below.trans (by go_grown) (b1.mono (by first | omega | (simp; done) | (simp; omega))))⟩
  · have HS := hid hs
    clear hs
    go_wp2
    go_ret
    exact ⟨Or.inr ⟨by simp, HS.out⟩, (Below.trans (by go_grown) (b1.mono (by first | omega | (simp; done) | (simp; omega))))⟩

theorem eqGraph_any (va vb : Value) (la lb : List ValD) (w : World) (ha : RdG w va la) (hb : RdG w vb lb) :
    Calls Tryz.prog 19 #[.agg #[va], .agg #[vb]] w fun e w' => e = .returned (.bool (eqG la lb)) ∧ Below w.heap.size w w' := by
  have HA := hid ha
  have HB := hid hb
  obtain ⟨ao, cap, hv, _⟩ := ha
  subst hv
  obtain ⟨bo, cbp, hv, _⟩ := hb
  subst hv
  cases hq : eqG la lb with
  | true =>
    go_enter Tryz.func19, Tryz.ntmps19
    go_wp2_with fail
    refine (eqValS_any _ _ la lb _ (HA.out.later (by go_grown)) (HB.out.later (by go_grown))).mono ?_
    rintro e w1 ⟨rfl, b1⟩
    rw [hq]
    go_wp2
    go_ret
    exact ⟨by simp, (Below.trans (by go_grown) (b1.mono (by first | omega | (simp; done) | (simp; omega))))⟩
  | false =>
    go_enter Tryz.func19, Tryz.ntmps19
    go_wp2_with fail
    refine (eqValS_any _ _ la lb _ (HA.out.later (by go_grown)) (HB.out.later (by go_grown))).mono ?_
    rintro e w1 ⟨rfl, b1⟩
    rw [hq]
    go_wp2
    go_ret
    exact ⟨by simp, (Below.trans (by go_grown) (b1.mono (by first | omega | (simp; done) | (simp; omega))))⟩

set_option maxHeartbeats 1000000 in
theorem toGraph_any (v : Value) (L : List ValD) (w : World) (h : RdG w v L) (hl : L.length ≤ 1048576) (hbk : ∀ i, i < L.length → (L.getD i valD0).2.length ≤ 1048576) :
    Calls Tryz.prog 17 #[.agg #[v]] w fun e w' => ∃ v', e = .returned (.agg #[v']) ∧ FromG w.heap.size w' v' L ∧ Below w.heap.size w w' := by
  have HR := hid h
  obtain ⟨ao, cap, hv, _⟩ := h
  subst hv
  have HBK := hid hbk
  clear hbk
  go_enter Tryz.func17, Tryz.ntmps17
  go_wp2_with fail
  have a0_1 : (((w.alloc (.cells #[.slice ao L.length cap] 42)).alloc (.cells #[.slice none 0 0] 25)).alloc (.cells #[.slice none 0 0] 25)).cell? ⟨w.heap.size, 0, none⟩ = some (.slice ao L.length cap) := by go_cell
  have al_1 : w.heap.size < (((w.alloc (.cells #[.slice ao L.length cap] 42)).alloc (.cells #[.slice none 0 0] 25)).alloc (.cells #[.slice none 0 0] 25)).heap.size := by first | (simp; done) | (simp; omega)
  have r0_1 : (((w.alloc (.cells #[.slice ao L.length cap] 42)).alloc (.cells #[.slice none 0 0] 25)).alloc (.cells #[.slice none 0 0] 25)).cell? ⟨w.heap.size + 1, 0, none⟩ = some (.slice none 0 0) := by go_cell
  have rf0_1 : (((w.alloc (.cells #[.slice ao L.length cap] 42)).alloc (.cells #[.slice none 0 0] 25)).alloc (.cells #[.slice none 0 0] 25)).frozen? ⟨w.heap.size + 1, 0, none⟩ = false := by (first | go_cell | (simp [World.frozen?, World.alloc]; done) | rfl)
  have rl_1 : w.heap.size + 1 < (((w.alloc (.cells #[.slice ao L.length cap] 42)).alloc (.cells #[.slice none 0 0] 25)).alloc (.cells #[.slice none 0 0] 25)).heap.size := by first | (simp; done) | (simp; omega)
  have o0_1 : (((w.alloc (.cells #[.slice ao L.length cap] 42)).alloc (.cells #[.slice none 0 0] 25)).alloc (.cells #[.slice none 0 0] 25)).cell? ⟨w.heap.size + 1 + 1, 0, none⟩ = some (.slice none 0 0) := by go_cell
  have of0_1 : (((w.alloc (.cells #[.slice ao L.length cap] 42)).alloc (.cells #[.slice none 0 0] 25)).alloc (.cells #[.slice none 0 0] 25)).frozen? ⟨w.heap.size + 1 + 1, 0, none⟩ = false := by (first | go_cell | (simp [World.frozen?, World.alloc]; done) | rfl)
  have ol_1 : w.heap.size + 1 + 1 < (((w.alloc (.cells #[.slice ao L.length cap] 42)).alloc (.cells #[.slice none 0 0] 25)).alloc (.cells #[.slice none 0 0] 25)).heap.size := by first | (simp; done) | (simp; omega)
  have c1 : Below w.heap.size w (((w.alloc (.cells #[.slice ao L.length cap] 42)).alloc (.cells #[.slice none 0 0] 25)).alloc (.cells #[.slice none 0 0] 25)) := by go_grown
  have s1 : (((w.alloc (.cells #[.slice ao L.length cap] 42)).alloc (.cells #[.slice none 0 0] 25)).alloc (.cells #[.slice none 0 0] 25)).heap.size = w.heap.size + 3 := by simp
  generalize (((w.alloc (.cells #[.slice ao L.length cap] 42)).alloc (.cells #[.slice none 0 0] 25)).alloc (.cells #[.slice none 0 0] 25)) = w1 at a0_1 al_1 r0_1 rf0_1 rl_1 o0_1 of0_1 ol_1 c1 s1 ⊢
  have qa0_1 := cell_regrown a0_1
  have qr0_1 := cell_regrown r0_1
  have qo0_1 := cell_regrown o0_1
  refine (toValS_any _ L _ (HR.out.later c1) hl HBK.out).mono ?_
  rintro e w2 ⟨v', rfl, hf, b2⟩
  have HF := hid hf
  obtain ⟨uo, uc, huv, _⟩ := hf.rd
  subst huv
  have d2 : Below w1.heap.size w1 w2 := (Below.trans (by go_grown) (b2.mono (by first | omega | (simp; done) | (simp; omega))))
  have c2 : Below w.heap.size w w2 := c1.trans (d2.mono c1.size)
  have r0_2 : w2.cell? ⟨w.heap.size + 1, 0, none⟩ = some (.slice none 0 0) := (by rw [b2.cell (by first | omega | (simp; done) | (simp; omega))]; go_cell)
  have rf0_2 : w2.frozen? ⟨w.heap.size + 1, 0, none⟩ = false := (by rw [b2.frozen (by first | omega | (simp; done) | (simp; omega))]; (first | go_cell | (simp [World.frozen?, World.alloc]; done) | rfl))
  have rl_2 : w.heap.size + 1 < w2.heap.size := (by have := b2.size; first | omega | (revert this; simp; done) | (revert this; simp; omega))
  have o0_2 : w2.cell? ⟨w.heap.size + 1 + 1, 0, none⟩ = some (.slice none 0 0) := (by rw [b2.cell (by first | omega | (simp; done) | (simp; omega))]; go_cell)
  have of0_2 : w2.frozen? ⟨w.heap.size + 1 + 1, 0, none⟩ = false := (by rw [b2.frozen (by first | omega | (simp; done) | (simp; omega))]; (first | go_cell | (simp [World.frozen?, World.alloc]; done) | rfl))
  have ol_2 : w.heap.size + 1 + 1 < w2.heap.size := (by have := b2.size; first | omega | (revert this; simp; done) | (revert this; simp; omega))
  clear r0_1 rf0_1 rl_1 o0_1 of0_1 ol_1
  clear b2 d2 hf
  go_wp2
  have e0 : ((w2.setCell ⟨w.heap.size + 1 + 1, 0, none⟩ (.slice uo L.length uc)).setCell ⟨w.heap.size + 1, 0, none⟩ (.slice uo L.length uc)).cell? ⟨w.heap.size + 1, 0, none⟩ = some (.slice uo L.length uc) := by go_cell
  have HF2 := hid (FromG.mono ((HF.out.set (p := ⟨w.heap.size + 1 + 1, 0, none⟩) (by show w.heap.size + 1 + 1 < _; omega) (.slice uo L.length uc)).set (p := ⟨w.heap.size + 1, 0, none⟩) (by show w.heap.size + 1 < _; omega) (.slice uo L.length uc)) (B' := w.heap.size) (by omega))
  refine bodyPost_ret (v := .agg #[.slice uo L.length uc]) (by simp [results, Tryz.results17, go_sem, e0]) rfl ⟨_, rfl, HF2.out, (c2.setCell (p := ⟨w.heap.size + 1 + 1, 0, none⟩) (by show w.heap.size ≤ w.heap.size + 1 + 1; omega) _).setCell (p := ⟨w.heap.size + 1, 0, none⟩) (by show w.heap.size ≤ w.heap.size + 1; omega) _⟩

theorem same_two (x y : ValD) (u v : Value) (w : World) (hu : Rd w u x.2) (hv : Rd w v y.2) :
    Calls Tryz.prog 118 #[.agg #[.int .i64 x.1, u], .agg #[.int .i64 y.1, v]] w fun e w' => e = .returned (.bool (eqD x y)) ∧ Below w.heap.size w w' := specVSame_any _ _ _ _ _ _ _ hu hv
theorem isame_two (x y : ValD) (u v : Value) (w : World) (hu : Rd w u x.2) (hv : Rd w v y.2) :
    Calls Tryz.prog 15 #[.agg #[.int .i64 x.1, u], .agg #[.int .i64 y.1, v]] w fun e w' => e = .returned (.bool (eqD x y)) ∧ Below w.heap.size w w' := implVSame_any _ _ _ _ _ _ _ hu hv

set_option maxRecDepth 100000 in
set_option maxHeartbeats 1000000 in
theorem equalF_any (va vb : Value) (la lb : List ValD) (w : World) (ha : RdG w va la) (hb : RdG w vb lb) :
    Calls Tryz.prog 43 #[va, vb, .func (.func 15) #[] #[]] w fun e w' => e = .returned (.bool (eqG la lb)) ∧ Below w.heap.size w w' := by
  obtain ⟨aa, ca, rfl, hla, hca⟩ := ha
  obtain ⟨ab, cb, rfl, hlb, hcb⟩ := hb
  unfold maxLen at hla hlb
  by_cases hne : ((la.length : Int) != (lb.length : Int)) = true
  · have : la ≠ lb := fun h => by simp [h] at hne
    go_enter Tryz.func43, Tryz.ntmps43
    go_wp2
    go_ret
    exact ⟨by simp [eqG_no this], by go_grown⟩
  · have hlen : la.length = lb.length := by simp at hne; omega
    have HL : Hid (la.length = lb.length) := hlen
    clear hlen
    go_enter Tryz.func43, Tryz.ntmps43
    go_wp2
    go_loopw [17] (fun i wr => ∃ k : Nat, k ≤ la.length ∧ i = .int .i64 k ∧ Hid (la.take k = lb.take k) ∧ Below w.heap.size w wr) (fun i _ => la.length - (intOf i).toNat)
    case atStart => exact ⟨0, Nat.zero_le _, rfl, rfl, Below.refl _ _⟩
    case round =>
      obtain ⟨k, hk, rfl, hpre, hbel⟩ := hrel
      have hsz := hbel.size
      by_cases hlt : k < la.length
      · obtain ⟨ba, oa, rfl, hba, hcca⟩ := hca (by omega)
        obtain ⟨bb, ob, rfl, hbb, hccb⟩ := hcb (by have := HL.out; omega)
        obtain ⟨c0, ua, c1', hua⟩ := hcca k hlt
        obtain ⟨d0, ub, d1, hub⟩ := hccb k (by have := HL.out; omega)
        rw [← hbel.cell (p := ⟨ba, oa + k * 2, none⟩) hba] at c0
        rw [← hbel.cell (p := ⟨ba, oa + k * 2 + 1, none⟩) hba] at c1'
        rw [← hbel.cell (p := ⟨bb, ob + k * 2, none⟩) hbb] at d0
        rw [← hbel.cell (p := ⟨bb, ob + k * 2 + 1, none⟩) hbb] at d1
        have hkb : (k : Int) < (lb.length : Int) := by have := HL.out; omega
        have HUA := hid (hua.later hbel)
        have HUB := hid (hub.later hbel)
        have hba' : ba < wr.heap.size := by omega
        have hbb' : bb < wr.heap.size := by omega
        have hnext : Hid (la.getD k valD0 = lb.getD k valD0 → la.take (k + 1) = lb.take (k + 1)) := hid (fun h => take_more la lb valD0 k hlt (by have := HL.out; omega) hpre h)
        have hdiff : Hid (¬ la.getD k valD0 = lb.getD k valD0 → eqG la lb = false) := hid (fun h => eqG_no (fun e => h (by rw [e])))
        obtain ⟨uao, uac, huav, _⟩ := HUA.out
        obtain ⟨ubo, ubc, hubv, _⟩ := HUB.out
        subst huav
        subst hubv
        clear hcca hccb hca hcb hua hub
        generalize la.getD k valD0 = x at *
        generalize lb.getD k valD0 = y at *
        go_wp2_with fail
        refine (isame_two x y _ _ _ (HUA.out.later (by go_grown)) (HUB.out.later (by go_grown))).mono ?_
        rintro e w2 ⟨rfl, b2⟩
        have d2 : Below wr.heap.size wr w2 := (Below.trans (by go_grown) (b2.mono (by first | omega | (simp; done) | (simp; omega))))
        have c2 := hbel.trans (d2.mono hsz)
        clear b2 d2
        cases hxy : eqD x y with
        | true =>
          have hN := hid (hnext.out (eqD_iff.1 hxy))
          clear hnext hdiff
          go_wp2
          go_roundw
          case rel => exact ⟨k + 1, by omega, by go_num, hN, c2⟩
          case measure => simp [intOf]; omega
        | false =>
          have hN := hid (hdiff.out (fun e => by rw [eqD_iff.2 e] at hxy; cases hxy))
          clear hnext hdiff
          go_wp2
          go_ret
          exact ⟨by simp [hN.out], c2⟩
      · have hall : eqG la lb = true := eqG_yes (by have h1 := HL.out; have h2 := hpre.out; rwa [List.take_of_length_le (by omega), List.take_of_length_le (by omega)] at h2)
        go_wp2
        go_ret
        exact ⟨by simp [hall], hbel⟩

set_option maxHeartbeats 1000000 in
theorem implGSame_any (va vb : Value) (la lb : List ValD) (w : World) (ha : RdG w va la) (hb : RdG w vb lb) :
    Calls Tryz.prog 10 #[.agg #[va], .agg #[vb]] w fun e w' => e = .returned (.bool (eqG la lb)) ∧ Below w.heap.size w w' := by
  have HA := hid ha
  have HB := hid hb
  obtain ⟨ao, cap, hv, _⟩ := ha
  subst hv
  obtain ⟨bo, cbp, hv, _⟩ := hb
  subst hv
  go_enter Tryz.func10, Tryz.ntmps10
  go_wp2_with fail
  refine (equalF_any _ _ la lb _ (HA.out.later (by go_grown)) (HB.out.later (by go_grown))).mono ?_
  rintro e w1 ⟨rfl, b1⟩
  have c1 : Below w.heap.size w w1 := (Below.trans (by go_grown) (b1.mono (by first | omega | (simp; done) | (simp; omega))))
  go_wp2
  go_ret
  exact ⟨by simp, c1⟩
end Go.Proofs.YtkmhnjgncnoddaaGreat

/- Part: A write done twice, parted behind it, and beside another one: plain facts. -/
namespace Go.Proofs.YtkmhnjgncnoddaaGreat
open Go.RowKit

theorem rows_ext {L M : List ValD} (hl : L.length = 24) (hm : M.length = 24) (h : ∀ j, j < 24 → L.getD j valD0 = M.getD j valD0) : L = M := by
  refine List.ext_getElem (by rw [hl, hm]) fun j hj hj' => ?_
  have e1 : L[j] = L.getD j valD0 := by rw [List.getD_eq_getElem?_getD, List.getElem?_eq_getElem hj]; rfl
  have e2 : M[j] = M.getD j valD0 := by rw [List.getD_eq_getElem?_getD, List.getElem?_eq_getElem hj']; rfl
  rw [e1, e2]
  exact h j (by rw [hl] at hj; exact hj)
/-- Two rows are set: what each row is then. -/
theorem getD_set2 {M : List ValD} {i j k : Nat} {x y : ValD} (hm : M.length = 24) (hi : i < 24) (hj : j < 24) : ((M.set i x).set j y).getD k valD0 = if k = j then y else if k = i then x else M.getD k valD0 := by
  rw [getD_set (by rw [List.length_set, hm]; exact hj), getD_set (by rw [hm]; exact hi)]
theorem doG_len24 {L : List ValD} (h : L.length = 24) (k a b n : Int) : (doG L k a b n).length = 24 := by rw [doG_length, h]
/-- Keys that a write is not of have what they had. -/
theorem doG_other {L : List ValD} (hl : L.length = 24) (k a b n : Int) {j : Nat} (h1 : (j : Int) ≠ opKey k a b n) (h2 : (j : Int) ≠ opOther k a b n) : (doG L k a b n).getD j valD0 = L.getD j valD0 := by
  cases ho : opOk k a b n with
  | true =>
    obtain ⟨J, hJ, e, hW⟩ := doG_ways L ho
    rw [e] at h1
    rcases hW with ⟨-, hD⟩ | ⟨I, hI, -, eI, hD⟩
    · rw [hD, getD_set (by rw [hl]; exact hJ), if_neg (by omega)]
    · rw [eI] at h2
      rw [hD, getD_set2 hl hJ hI, if_neg (by omega), if_neg (by omega)]
  | false =>
    rcases op_ways k a b n with ⟨_, e, _⟩ | ⟨_, e, _⟩ | ⟨_, e, _⟩ | ⟨g1, g2, g3, _⟩
    · rw [ho] at e; cases e
    · rw [ho] at e; cases e
    · rw [ho] at e; cases e
    · rw [doG, if_neg g1, if_neg g2, if_neg g3]
/-- A write done twice is done once. -/
theorem doG_twice {L : List ValD} (h : okG L = true) (k a b n : Int) : doG (doG L k a b n) k a b n = doG L k a b n := by
  obtain ⟨hL, hR, -⟩ := okG_iff.1 h
  refine rows_ext (doG_len24 (doG_len24 hL _ _ _ _) _ _ _ _) (doG_len24 hL _ _ _ _) fun j hj => ?_
  rcases op_ways k a b n with ⟨hs, -⟩ | ⟨hs, -⟩ | ⟨hs, -⟩ | ⟨g1, g2, g3, -⟩
  · have ha := hs.2.1
    simp only [doG, if_pos hs]
    rw [getD_set (by rw [List.length_set, hL]; omega), getD_set (by rw [hL]; omega)]
    split <;> rfl
  · have g1 : ¬ setOk k a b n := fun h => by have := h.1; have := hs.1; omega
    obtain ⟨_, ha, hb, _, hn⟩ := id hs
    have o1 := hR.ok (k := 16 + a.toNat) (by omega)
    have o2 := hR.ok (k := 8 + b.toNat) (by omega)
    have r1 : rightB (b, n) = true := rightB_iff.2 ⟨hb.1, hb.2, hn.1, hn.2⟩
    have r2 : rightB (a, n) = true := rightB_iff.2 ⟨ha.1, ha.2, hn.1, hn.2⟩
    have i1 : 16 + a.toNat < 24 := by omega
    have i2 : 8 + b.toNat < 24 := by omega
    simp only [doG, if_neg g1, if_pos hs]
    rw [addL_yes (addB_iff.2 ⟨o1, r1⟩), addL_yes (addB_iff.2 ⟨o2, r2⟩)]
    have hM : ((L.set (16 + a.toNat) (0, putL (L.getD (16 + a.toNat) valD0).2 b n)).set (8 + b.toNat) (0, putL (L.getD (8 + b.toNat) valD0).2 a n)).length = 24 := by simp [hL]
    rw [getD_set2 hM i1 i2, getD_set2 hL i1 i2, getD_set2 hL i1 i2, getD_set2 hL i1 i2]
    rw [if_neg (show ¬ 16 + a.toNat = 8 + b.toNat by omega), if_pos rfl, if_pos rfl]
    split
    · show ((0 : Int), addL (putL _ a n) a n) = _
      rw [addL_yes (addB_iff.2 ⟨okL_put o2 r2, r2⟩), put_put_eq o2 r2 r2]
    · split
      · show ((0 : Int), addL (putL _ b n) b n) = _
        rw [addL_yes (addB_iff.2 ⟨okL_put o1 r1, r1⟩), put_put_eq o1 r1 r1]
      · rfl
  · have g1 : ¬ setOk k a b n := fun h => by have := h.1; have := hs.1; omega
    have g2 : ¬ bindOk k a b n := fun h => by have := h.1; have := hs.1; omega
    obtain ⟨_, ha, hb, _, hn⟩ := id hs
    have o1 := hR.ok (k := 16 + a.toNat) (by omega)
    have o2 := hR.ok (k := 8 + b.toNat) (by omega)
    have i1 : 16 + a.toNat < 24 := by omega
    have i2 : 8 + b.toNat < 24 := by omega
    simp only [doG, if_neg g1, if_neg g2, if_pos hs]
    rw [dropL_yes o1, dropL_yes o2]
    have hM : ((L.set (16 + a.toNat) (0, (L.getD (16 + a.toNat) valD0).2.filter (notWho b))).set (8 + b.toNat) (0, (L.getD (8 + b.toNat) valD0).2.filter (notWho a))).length = 24 := by simp [hL]
    rw [getD_set2 hM i1 i2, getD_set2 hL i1 i2, getD_set2 hL i1 i2, getD_set2 hL i1 i2]
    rw [if_neg (show ¬ 16 + a.toNat = 8 + b.toNat by omega), if_pos rfl, if_pos rfl]
    split
    · show ((0 : Int), dropL (List.filter _ _) a) = _
      rw [dropL_yes (okL_filter _ _ o2), List.filter_filter]
      simp
    · split
      · show ((0 : Int), dropL (List.filter _ _) b) = _
        rw [dropL_yes (okL_filter _ _ o1), List.filter_filter]
        simp
      · rfl
  · simp only [doG, if_neg g1, if_neg g2, if_neg g3]
/-- A bond that is parted is as if it had not been bound. -/
theorem doG_part {L : List ValD} (h : okG L = true) {k a b n : Int} (hs : bindOk k a b n) : doG (doG L k a b n) 3 a b 0 = doG L 3 a b 0 := by
  obtain ⟨hL, hR, -⟩ := okG_iff.1 h
  refine rows_ext (doG_len24 (doG_len24 hL _ _ _ _) _ _ _ _) (doG_len24 hL _ _ _ _) fun j hj => ?_
  have g1 : ¬ setOk k a b n := fun h => by have := h.1; have := hs.1; omega
  obtain ⟨_, ha, hb, hne, hn⟩ := id hs
  have p1 : ¬ setOk 3 a b 0 := fun h => by have := h.1; omega
  have p2 : ¬ bindOk 3 a b 0 := fun h => by have := h.1; omega
  have p3 : partOk 3 a b 0 := ⟨rfl, ha, hb, hne, rfl⟩
  have o1 := hR.ok (k := 16 + a.toNat) (by omega)
  have o2 := hR.ok (k := 8 + b.toNat) (by omega)
  have r1 : rightB (b, n) = true := rightB_iff.2 ⟨hb.1, hb.2, hn.1, hn.2⟩
  have r2 : rightB (a, n) = true := rightB_iff.2 ⟨ha.1, ha.2, hn.1, hn.2⟩
  have i1 : 16 + a.toNat < 24 := by omega
  have i2 : 8 + b.toNat < 24 := by omega
  simp only [doG, if_neg g1, if_pos hs, if_neg p1, if_neg p2, if_pos p3]
  rw [addL_yes (addB_iff.2 ⟨o1, r1⟩), addL_yes (addB_iff.2 ⟨o2, r2⟩), dropL_yes o1, dropL_yes o2]
  have hM : ((L.set (16 + a.toNat) (0, putL (L.getD (16 + a.toNat) valD0).2 b n)).set (8 + b.toNat) (0, putL (L.getD (8 + b.toNat) valD0).2 a n)).length = 24 := by simp [hL]
  rw [getD_set2 hM i1 i2, getD_set2 hL i1 i2, getD_set2 hL i1 i2, getD_set2 hL i1 i2, getD_set2 hL i1 i2]
  rw [if_neg (show ¬ 16 + a.toNat = 8 + b.toNat by omega), if_pos rfl, if_pos rfl]
  split
  · show ((0 : Int), dropL (putL _ a n) a) = _
    rw [dropL_yes (okL_put o2 r2), put_drop o2 r2]
  · split
    · show ((0 : Int), dropL (putL _ b n) b) = _
      rw [dropL_yes (okL_put o1 r1), put_drop o1 r1]
    · rfl
end Go.Proofs.YtkmhnjgncnoddaaGreat

/- Part: Two writes of one graph: plain facts. -/
namespace Go.Proofs.YtkmhnjgncnoddaaGreat
open Go.RowKit

/-- What a bond's write makes of one end's kin. -/
def kinF (k n who : Int) (l : List (Int × Int)) : List (Int × Int) := if k = 2 then addL l who n else dropL l who
theorem okL_kinF {k n who : Int} {l : List (Int × Int)} (hl : okL l = true) (hr : rightB (who, n) = true) : okL (kinF k n who l) = true := by
  unfold kinF
  split
  · rw [addL_yes (addB_iff.2 ⟨hl, hr⟩)]; exact okL_put hl hr
  · rw [dropL_yes hl]; exact okL_filter _ _ hl
theorem mem_kinF {k n who : Int} {l : List (Int × Int)} (hl : okL l = true) (hr : rightB (who, n) = true) (x : Int × Int) : x ∈ kinF k n who l ↔ (k = 2 ∧ x = (who, n)) ∨ (x ∈ l ∧ x.1 ≠ who) := by
  unfold kinF
  split
  · next h => rw [addL_yes (addB_iff.2 ⟨hl, hr⟩), mem_put]; simp [h]
  · next h => rw [dropL_yes hl, mem_filter_notWho]; simp [h]
theorem kinF_comm {k n who k' n' who' : Int} {l : List (Int × Int)} (hl : okL l = true) (hr : rightB (who, n) = true) (hr' : rightB (who', n') = true) (hne : who ≠ who') :
    kinF k n who (kinF k' n' who' l) = kinF k' n' who' (kinF k n who l) := by
  have o1 := okL_kinF (k := k) hl hr
  have o2 := okL_kinF (k := k') hl hr'
  refine okL_ext (okL_kinF o2 hr) (okL_kinF o1 hr') fun x => ?_
  rw [mem_kinF o2 hr, mem_kinF hl hr', mem_kinF o1 hr', mem_kinF hl hr]
  constructor
  · rintro (⟨h, rfl⟩ | ⟨⟨h, rfl⟩ | ⟨h, h1⟩, h2⟩)
    · exact .inr ⟨.inl ⟨h, rfl⟩, hne⟩
    · exact .inl ⟨h, rfl⟩
    · exact .inr ⟨.inr ⟨h, h2⟩, h1⟩
  · rintro (⟨h, rfl⟩ | ⟨⟨h, rfl⟩ | ⟨h, h1⟩, h2⟩)
    · exact .inr ⟨.inl ⟨h, rfl⟩, fun e => hne e.symm⟩
    · exact .inl ⟨h, rfl⟩
    · exact .inr ⟨.inr ⟨h, h2⟩, h1⟩
theorem kinF_last {k n who k' n' : Int} {l : List (Int × Int)} (hl : okL l = true) (hr : rightB (who, n) = true) (hr' : rightB (who, n') = true) :
    kinF k n who (kinF k' n' who l) = kinF k n who l := by
  have o2 := okL_kinF (k := k') hl hr'
  refine okL_ext (okL_kinF o2 hr) (okL_kinF hl hr) fun x => ?_
  rw [mem_kinF o2 hr, mem_kinF hl hr', mem_kinF hl hr]
  constructor
  · rintro (h | ⟨⟨h, rfl⟩ | ⟨h, h1⟩, h2⟩)
    · exact .inl h
    · exact absurd rfl h2
    · exact .inr ⟨h, h2⟩
  · rintro (h | ⟨h, h1⟩)
    · exact .inl h
    · exact .inr ⟨.inr ⟨h, h1⟩, h1⟩

/-- A write of a bond that is ok. -/
structure BondW (k a b n : Int) : Prop where
  ha : 0 ≤ a ∧ a < 8
  hb : 0 ≤ b ∧ b < 8
  ra : rightB (a, n) = true
  rb : rightB (b, n) = true
  row : ∀ (L : List ValD), doG L k a b n = (L.set (16 + a.toNat) (0, kinF k n b (L.getD (16 + a.toNat) valD0).2)).set (8 + b.toNat) (0, kinF k n a (L.getD (8 + b.toNat) valD0).2)
theorem bondW {k a b n : Int} (h : opOk k a b n = true) (hk : k ≠ 1) : BondW k a b n := by
  rcases op_ways k a b n with ⟨hs, -⟩ | ⟨hs, -⟩ | ⟨hs, -⟩ | ⟨-, -, -, e, -⟩
  · exact absurd hs.1 hk
  · have g1 : ¬ setOk k a b n := fun h => hk h.1
    obtain ⟨h2, ha, hb, _, hn⟩ := id hs
    exact ⟨ha, hb, rightB_iff.2 ⟨ha.1, ha.2, hn.1, hn.2⟩, rightB_iff.2 ⟨hb.1, hb.2, hn.1, hn.2⟩, fun L => by simp only [doG, if_neg g1, if_pos hs, kinF, if_pos h2]⟩
  · have g1 : ¬ setOk k a b n := fun h => hk h.1
    have g2 : ¬ bindOk k a b n := fun h => by have := h.1; have := hs.1; omega
    obtain ⟨h3, ha, hb, _, hn⟩ := id hs
    have h2 : ¬ k = 2 := by omega
    exact ⟨ha, hb, rightB_iff.2 ⟨ha.1, ha.2, by show 0 ≤ n; omega, by show n ≤ 1000; omega⟩, rightB_iff.2 ⟨hb.1, hb.2, by show 0 ≤ n; omega, by show n ≤ 1000; omega⟩, fun L => by simp only [doG, if_neg g1, if_neg g2, if_pos hs, kinF, if_neg h2]⟩
  · rw [h] at e; cases e
theorem BondW.at {k a b n : Int} (h : BondW k a b n) {L : List ValD} (hl : L.length = 24) (j : Nat) : (doG L k a b n).getD j valD0 = if j = 8 + b.toNat then (0, kinF k n a (L.getD j valD0).2) else if j = 16 + a.toNat then (0, kinF k n b (L.getD j valD0).2) else L.getD j valD0 := by
  have := h.ha
  have := h.hb
  rw [h.row L, getD_set2 hl (by omega) (by omega)]
  split
  · next e => rw [e]
  · split
    · next e => rw [e]
    · rfl
theorem set_at {k a b n : Int} (h : setOk k a b n) {L : List ValD} (hl : L.length = 24) (j : Nat) : (doG L k a b n).getD j valD0 = if j = a.toNat then (n, []) else L.getD j valD0 := by
  have := h.2.1
  rw [doG, if_pos h, getD_set (by rw [hl]; omega)]

/-- Of two writes of one bond the last one stays. -/
theorem doG_last {L : List ValD} (h : okG L = true) {k n k' n' a b : Int} (h1 : BondW k a b n) (h2 : BondW k' a b n') : doG (doG L k a b n) k' a b n' = doG L k' a b n' := by
  obtain ⟨hL, hR, -⟩ := okG_iff.1 h
  have hX := doG_len24 hL k a b n
  refine rows_ext (doG_len24 hX _ _ _ _) (doG_len24 hL _ _ _ _) fun j hj => ?_
  rw [h2.at hX, h2.at hL, h1.at hL]
  have := h1.ha
  have := h1.hb
  by_cases e1 : j = 8 + b.toNat
  · rw [if_pos e1, if_pos e1, if_pos e1, kinF_last (hR.ok hj) h2.ra h1.ra]
  · by_cases e2 : j = 16 + a.toNat
    · rw [if_neg e1, if_neg e1, if_neg e1, if_pos e2, if_pos e2, if_pos e2, kinF_last (hR.ok hj) h2.rb h1.rb]
    · rw [if_neg e1, if_neg e1, if_neg e1, if_neg e2, if_neg e2, if_neg e2]
/-- Two writes of two bonds can be done in either order. -/
theorem doG_comm {L : List ValD} (h : okG L = true) {k a b n k' a' b' n' : Int} (h1 : BondW k a b n) (h2 : BondW k' a' b' n') (hne : ¬ (a = a' ∧ b = b')) : doG (doG L k a b n) k' a' b' n' = doG (doG L k' a' b' n') k a b n := by
  obtain ⟨hL, hR, -⟩ := okG_iff.1 h
  have hX := doG_len24 hL k a b n
  have hY := doG_len24 hL k' a' b' n'
  refine rows_ext (doG_len24 hX _ _ _ _) (doG_len24 hY _ _ _ _) fun j hj => ?_
  rw [h2.at hX, h1.at hY, h1.at hL, h2.at hL]
  have ha := h1.ha
  have hb := h1.hb
  have ha' := h2.ha
  have hb' := h2.hb
  by_cases e1 : j = 8 + b.toNat
  · have f1 : ¬ j = 16 + a.toNat := by omega
    have f2 : ¬ j = 16 + a'.toNat := by omega
    by_cases e2 : j = 8 + b'.toNat
    · simp only [if_pos e1, if_pos e2]
      rw [kinF_comm (hR.ok hj) h2.ra h1.ra (fun e => hne ⟨e.symm, by omega⟩)]
    · simp only [if_pos e1, if_neg e2, if_neg f2]
  · by_cases e2 : j = 8 + b'.toNat
    · have f1 : ¬ j = 16 + a.toNat := by omega
      simp only [if_neg e1, if_pos e2, if_neg f1]
    · by_cases f1 : j = 16 + a.toNat <;> by_cases f2 : j = 16 + a'.toNat
      · simp only [if_neg e1, if_neg e2, if_pos f1, if_pos f2]
        rw [kinF_comm (hR.ok hj) h2.rb h1.rb (fun e => hne ⟨by omega, e.symm⟩)]
      · simp only [if_neg e1, if_neg e2, if_pos f1, if_neg f2]
      · simp only [if_neg e1, if_neg e2, if_neg f1, if_pos f2]
      · simp only [if_neg e1, if_neg e2, if_neg f1, if_neg f2]
/-- What is no bond's write touches no bond. -/
theorem doG_comm_set {L : List ValD} (hL : L.length = 24) {k a b n k' a' b' n' : Int} (h1 : BondW k a b n) (h2 : setOk k' a' b' n') : doG (doG L k a b n) k' a' b' n' = doG (doG L k' a' b' n') k a b n := by
  have hX := doG_len24 hL k a b n
  have hY := doG_len24 hL k' a' b' n'
  refine rows_ext (doG_len24 hX _ _ _ _) (doG_len24 hY _ _ _ _) fun j hj => ?_
  rw [set_at h2 hX, h1.at hY, h1.at hL, set_at h2 hL]
  have ha := h1.ha
  have hb := h1.hb
  have ha' := h2.2.1
  by_cases e : j = a'.toNat
  · rw [if_pos e, if_neg (by omega), if_neg (by omega), if_pos e]
  · simp only [if_neg e]
theorem doG_set_set {L : List ValD} (hL : L.length = 24) {k a b n k' a' b' n' : Int} (h1 : setOk k a b n) (h2 : setOk k' a' b' n') (hne : a ≠ a') : doG (doG L k a b n) k' a' b' n' = doG (doG L k' a' b' n') k a b n := by
  have hX := doG_len24 hL k a b n
  have hY := doG_len24 hL k' a' b' n'
  refine rows_ext (doG_len24 hX _ _ _ _) (doG_len24 hY _ _ _ _) fun j hj => ?_
  rw [set_at h2 hX, set_at h1 hY, set_at h1 hL, set_at h2 hL]
  have ha := h1.2.1
  have ha' := h2.2.1
  by_cases e : j = a'.toNat
  · rw [if_pos e, if_neg (by omega), if_pos e]
  · simp only [if_neg e]
theorem doG_set_last {L : List ValD} (hL : L.length = 24) {k a b n k' b' n' : Int} (h1 : setOk k a b n) (h2 : setOk k' a b' n') : doG (doG L k a b n) k' a b' n' = doG L k' a b' n' := by
  have hX := doG_len24 hL k a b n
  refine rows_ext (doG_len24 hX _ _ _ _) (doG_len24 hL _ _ _ _) fun j hj => ?_
  rw [set_at h2 hX, set_at h1 hL, set_at h2 hL]
  split <;> rfl
end Go.Proofs.YtkmhnjgncnoddaaGreat

/- Part: Both GraphDo's answers as readings: what the laws of graphs use. Written by a program (gfg.py). -/
namespace Go.Proofs.YtkmhnjgncnoddaaGreat
open Go.RowKit

theorem op_two {k a b n : Int} (h : opOk k a b n = true) : setOk k a b n ∨ (k ≠ 1 ∧ BondW k a b n) := by
  rcases op_ways k a b n with ⟨hs, _⟩ | ⟨hs, _⟩ | ⟨hs, _⟩ | ⟨_, _, _, e, _⟩
  · exact .inl hs
  · have hk : k ≠ 1 := by have := hs.1; omega
    exact .inr ⟨hk, bondW h hk⟩
  · have hk : k ≠ 1 := by have := hs.1; omega
    exact .inr ⟨hk, bondW h hk⟩
  · rw [h] at e; cases e
theorem implGDo_rd (va : Value) (L : List ValD) (k a b n : Int) (w : World) (h : RdG w va L) (hok : okG L = true) {c : Bool} (hc : opOk k a b n = c) :
    Calls Tryz.prog 8 #[.agg #[va], .agg #[.int .i64 k, .int .i64 a, .int .i64 b, .int .i64 n]] w fun e w' => (∃ g, e = .returned (.tuple #[.agg #[.slice (some ⟨g, 0, none⟩) 24 24], .bool c]) ∧ RdG w' (.slice (some ⟨g, 0, none⟩) 24 24) (doG L k a b n)) ∧ Below w.heap.size w w' :=
  hc ▸ (implGDo_any va L k a b n w h hok).mono fun _ _ ⟨⟨g, _, he, hB, _⟩, hb⟩ => ⟨⟨g, he, hB.rdG 24⟩, hb⟩
theorem specGDo_rd (va : Value) (L : List ValD) (k a b n : Int) (w : World) (h : RdG w va L) (hok : okG L = true) {c : Bool} (hc : opOk k a b n = c) :
    Calls Tryz.prog 9 #[.agg #[va], .agg #[.int .i64 k, .int .i64 a, .int .i64 b, .int .i64 n]] w fun e w' => (∃ g cp, e = .returned (.tuple #[.agg #[.slice (some ⟨g, 0, none⟩) 24 cp], .bool c]) ∧ RdG w' (.slice (some ⟨g, 0, none⟩) 24 cp) (doG L k a b n)) ∧ Below w.heap.size w w' :=
  hc ▸ (specGDo_any va L k a b n w h hok).mono fun _ _ ⟨⟨v, xs, he, hR⟩, hb⟩ => by
    obtain ⟨g, cp, hv⟩ := ownsRow_succ hR.1
    subst hv
    exact ⟨⟨g, cp, he, hR.rdG (by rw [doG_length]; exact (okG_true hok).1)⟩, hb⟩
theorem gsame_is {va vb : Value} {la lb : List ValD} {w : World} (ha : RdG w va la) (hb : RdG w vb lb) (he : la = lb) :
    Calls Tryz.prog 10 #[.agg #[va], .agg #[vb]] w fun e w' => e = .returned (.bool true) ∧ Below w.heap.size w w' := by
  have := implGSame_any va vb la lb w ha hb
  rw [he, eqG_refl] at this
  exact this

theorem doG_not {L : List ValD} {k a b n : Int} (h : opOk k a b n = false) : doG L k a b n = L := by
  rcases op_ways k a b n with ⟨_, e, _⟩ | ⟨_, e, _⟩ | ⟨_, e, _⟩ | ⟨h1, h2, h3, _⟩
  · rw [h] at e; cases e
  · rw [h] at e; cases e
  · rw [h] at e; cases e
  · rw [doG, if_neg h1, if_neg h2, if_neg h3]
theorem RdG.at24 {w : World} {g cap j : Nat} {M : List ValD} (h : RdG w (.slice (some ⟨g, 0, none⟩) 24 cap) M) (hj : j < 24) :
    ∃ u, w.cell? ⟨g, j * 2, none⟩ = some (.int .i64 (M.getD j valD0).1) ∧ w.cell? ⟨g, j * 2 + 1, none⟩ = some u ∧ Rd w u (M.getD j valD0).2 := by
  obtain ⟨ao, cp, hv, _, hc⟩ := h
  injection hv with h1 h2 h3
  subst h1
  obtain ⟨b, off, hb, _, hcc⟩ := hc (by omega)
  cases hb
  obtain ⟨c0, u, c1, hu⟩ := hcc j (by omega)
  rw [Nat.zero_add] at c0 c1
  exact ⟨u, c0, c1, hu⟩
theorem isame_is {x y : ValD} {u v : Value} {w : World} (hu : Rd w u x.2) (hv : Rd w v y.2) (e : x = y) :
    Calls Tryz.prog 15 #[.agg #[.int .i64 x.1, u], .agg #[.int .i64 y.1, v]] w fun e w' => e = .returned (.bool true) ∧ Below w.heap.size w w' := by
  have := isame_two x y u v w hu hv
  rw [eqD_iff.2 e] at this
  exact this
end Go.Proofs.YtkmhnjgncnoddaaGreat

/- Part: What the draw of a graph wants: rows that survive the reader, and read from their own memory alone. -/
namespace Go.Proofs.YtkmhnjgncnoddaaGreat
open Go.RowKit

theorem row_grownOff {w w' : World} {B : Nat} {e : TypeId} {size n : Nat} {v : Value} {xs : List Value} {g : Nat} (h : w.ownsRow B e size v n xs) (hg : w.grownBy w' (some g)) (hB : g < B) : w'.ownsRow B e size v n xs := by
  refine ⟨h.1, ?_⟩
  rcases h.2 with hn | ⟨g', cap, cur, rfl, hbg, hgg, rest⟩
  · exact .inl hn
  · exact .inr ⟨g', cap, cur, rfl, hbg, (hg.block g' (Array.getElem?_eq_some_iff.1 hgg).1 (fun e => by have := Option.some.inj e; omega)).trans hgg, rest⟩
/-- A row survives what turns the reader's block alone. -/
theorem RowN.grown {w w' : World} {B g : Nat} {v : Value} {L : List ValD} {n : Nat} {xs : List Value} (h : RowN w B v L n xs) (hg : w.grownBy w' (some g)) (hB : g < B) : RowN w' B v L n xs :=
  ⟨row_grownOff h.1 hg hB, fun i hi => by
    obtain ⟨h0, u, h1, h2⟩ := h.2 i hi
    exact ⟨h0, u, h1, row_grownOff h2 hg hB⟩, h.3⟩
theorem FromG.grown {w w' : World} {B g : Nat} {v : Value} {L : List ValD} (h : FromG B w v L) (hg : w.grownBy w' (some g)) (hB : g < B) : FromG B w' v L := fun w'' hz hs =>
  h w'' (Nat.le_trans hg.size hz) (fun k hk hl => (hs k hk (Nat.lt_of_lt_of_le hl hg.size)).trans (hg.block k hl (fun e => by have := Option.some.inj e; omega)))
/-- A row of 24 reads from its own memory alone; so do its first rows. -/
theorem RowN.fromTake {w : World} {B g cap m : Nat} {L : List ValD} {xs : List Value} (h : RowN w B (.slice (some ⟨g, 0, none⟩) 24 cap) L 24 xs) (hl : L.length = 24) (hm : m ≤ 24) (cap' : Nat) :
    FromG B w (.slice (some ⟨g, 0, none⟩) m cap') (L.take m) := fun w' hz hs => by
  have hr : RowN w' B (.slice (some ⟨g, 0, none⟩) 24 cap) L 24 xs := ⟨row_same h.1 hs, fun i hi => by
    obtain ⟨h0, u, h1, h2⟩ := h.2 i hi
    exact ⟨h0, u, h1, row_same h2 hs⟩, h.3⟩
  have hlen : (L.take m).length = m := by rw [List.length_take, hl]; omega
  refine ⟨some ⟨g, 0, none⟩, cap', by rw [hlen], by rw [hlen]; unfold maxLen; omega, fun _ => ⟨g, 0, rfl, (hr.1.lt g rfl).2, fun i hi => ?_⟩⟩
  have hi : i < m := by rw [hlen] at hi; exact hi
  have hg : (L.take m).getD i valD0 = L.getD i valD0 := by rw [List.getD_eq_getElem?_getD, List.getD_eq_getElem?_getD, List.getElem?_take, if_pos hi]
  rw [hg, Nat.zero_add]
  obtain ⟨u, h1, h2⟩ := hr.c1 (k := i) (by omega)
  exact ⟨hr.c0 (by omega), u, h1, h2.rd⟩
theorem RowN.from {w : World} {B g cap : Nat} {L : List ValD} {xs : List Value} (h : RowN w B (.slice (some ⟨g, 0, none⟩) 24 cap) L 24 xs) (hl : L.length = 24) : FromG B w (.slice (some ⟨g, 0, none⟩) 24 cap) L := by
  have := h.fromTake hl (Nat.le_refl 24) cap
  rwa [List.take_of_length_le (by rw [hl]; exact Nat.le_refl _)] at this
end Go.Proofs.YtkmhnjgncnoddaaGreat

/- Part: Graphs by their rows as elements; both GraphDo's answers: what the exact law of GraphDo uses. -/
namespace Go.Proofs.YtkmhnjgncnoddaaGreat
open Go.RowKit
attribute [local go_sem ↓] Go.wp_at_zero Go.wp_at_succ

def toK (L : List ValD) : List KD := L.map fun x => ([x.1], x.2)
theorem toK_length (L : List ValD) : (toK L).length = L.length := by simp [toK]
theorem toK_get (L : List ValD) (i : Nat) (h : i < L.length) : (toK L).getD i kd0 = ([(L.getD i valD0).1], (L.getD i valD0).2) := by simp [toK, List.getD_eq_getElem?_getD, h]
theorem rdM_of_rdG {w : World} {v : Value} {L : List ValD} (h : RdG w v L) : RdM 2 1 true w v (toK L) := by
  obtain ⟨ao, cap, hv, hl, hc⟩ := h
  refine ⟨ao, cap, by rw [toK_length]; exact hv, by rw [toK_length]; exact hl, fun h0 => ?_⟩
  rw [toK_length] at h0 ⊢
  obtain ⟨b, off, ha, hb, hcc⟩ := hc h0
  refine ⟨b, off, ha, hb, fun i hi => ?_⟩
  obtain ⟨c0, u, c1, hu⟩ := hcc i hi
  rw [toK_get L i hi]
  exact ⟨rfl, fun j hj => by obtain rfl : j = 0 := by omega
                             exact c0, fun _ => ⟨u, c1, hu⟩, fun q => by cases q⟩
theorem rdG_of_rdM {w : World} {v : Value} {L : List ValD} (h : RdM 2 1 true w v (toK L)) : RdG w v L := by
  obtain ⟨ao, cap, hv, hl, hc⟩ := h
  rw [toK_length] at hv hl hc
  refine ⟨ao, cap, hv, hl, fun h0 => ?_⟩
  obtain ⟨b, off, ha, hb, hcc⟩ := hc h0
  refine ⟨b, off, ha, hb, fun i hi => ?_⟩
  have h1 := hcc i hi
  rw [toK_get L i hi] at h1
  obtain ⟨u, c1, hu⟩ := h1.kin rfl
  exact ⟨h1.num 0 (by decide), u, c1, hu⟩
theorem cnt_toK (L : List ValD) : cntM 1 (toK L) = (L.length : Int) + 2 * (bulkG L : Int) := by
  induction L with
  | nil => rfl
  | cons x r ih =>
    have e : cntM 1 (toK (x :: r)) = cntK 1 ([x.1], x.2) + cntM 1 (toK r) := cntM_cons _ _ _
    rw [e, ih]
    simp only [cntK, bulkG, List.map_cons, List.sum_cons, List.length_cons]
    omega
theorem bulk_le8 (L : List ValD) (h : ∀ i, i < L.length → (L.getD i valD0).2.length ≤ 8) : bulkG L ≤ 8 * L.length := by
  induction L with
  | nil => exact Nat.le_refl _
  | cons x r ih =>
    have h0 := h 0 (by simp)
    have h1 := ih (fun i hi => by have := h (i + 1) (by simpa using hi); simpa using this)
    simp only [List.getD_cons_zero] at h0
    simp only [bulkG, List.map_cons, List.sum_cons, List.length_cons] at h1 ⊢
    omega

theorem BackN.own {w : World} {B g : Nat} {M : List ValD} {ds : Array Value} (h : BackN w B g M ds) (hg : B ≤ g) : OwnM 79 2 1 true w (Span B w.heap.size) (.slice (some ⟨g, 0, none⟩) 24 24) (toK M) := by
  have hl : (toK M).length = 24 := by rw [toK_length, h.len]
  have hx : ∀ j, ds.toList[j]? = ds[j]? := fun j => Array.getElem?_toList
  refine ⟨ds.toList, fun i => ds.getD (i * 2 + 1) (.bool false), ?_, fun b hb => ?_, ?_⟩
  · rw [hl]
    exact ⟨by simp [h.size], .inr ⟨g, 24, ds, rfl, Nat.zero_le _, h.row, Nat.le_refl _, by decide, by simp [h.size], by rw [List.take_of_length_le (by simp [h.size])]⟩⟩
  · cases hb
    exact ⟨hg, h.lt⟩
  · rw [hl]
    refine ⟨fun i hi => ?_, fun i hi j hj => ?_, fun _ i hi => ?_, fun q => (by cases q), fun _ i j hi hj hij b hb => ?_⟩
    · rw [toK_get M i (by rw [h.len]; exact hi)]; rfl
    · obtain rfl : j = 0 := by omega
      rw [toK_get M i (by rw [h.len]; exact hi), hx]
      exact h.num i hi
    · rw [toK_get M i (by rw [h.len]; exact hi), hx]
      obtain ⟨u, h1, h2, h3⟩ := h.kin i hi
      have e : ds.getD (i * 2 + 1) (.bool false) = u := by simp [Array.getD_eq_getD_getElem?, h1]
      simp only [e]
      exact ⟨h1, h2.mono (Nat.zero_le _), fun b hb => ⟨⟨(h2.block b hb).1, (h2.block b hb).2⟩, fun q => h3 (by rw [hb]; exact q.symm)⟩⟩
    · obtain ⟨u, h1, _⟩ := h.kin i hi
      obtain ⟨u', h1', _⟩ := h.kin j hj
      have e : ds.getD (i * 2 + 1) (.bool false) = u := by simp [Array.getD_eq_getD_getElem?, h1]
      have e' : ds.getD (j * 2 + 1) (.bool false) = u' := by simp [Array.getD_eq_getD_getElem?, h1']
      simp only [e] at hb
      simp only [e']
      exact h.dis i j hi hj hij u u' h1 h1' b hb
theorem BackN.from {w : World} {B g : Nat} {M : List ValD} {ds : Array Value} (h : BackN w B g M ds) (hg : B ≤ g) (cap : Nat) : FromG B w (.slice (some ⟨g, 0, none⟩) 24 cap) M := fun w' _ hs =>
  (show BackN w' B g M ds from ⟨(hs g hg h.lt).trans h.row, h.size, h.len, h.num, fun k hk => by obtain ⟨u, h1, h2, h3⟩ := h.kin k hk; exact ⟨u, h1, row_same h2 hs, h3⟩, h.dis⟩).rdG cap

/-- What GraphDo answers. -/
def ansL (L : List ValD) (k a b n : Int) : List ValD := if okG L = true then doG L k a b n else []
def ansB (L : List ValD) (k a b n : Int) : Bool := okG L && opOk k a b n
theorem ansL_small (L : List ValD) (k a b n : Int) : cntM 1 (toK (ansL L k a b n)) ≤ 1000 := by
  unfold ansL
  split
  · next h =>
    have hd := okG_true (okG_do h k a b n)
    rw [cnt_toK]
    have := bulk_le8 _ (fun i hi => okL_le (hd.2.1.ok (by rw [hd.1] at hi; exact hi)))
    have := hd.1
    omega
  · decide
theorem fromG_nil (B : Nat) (w : World) : FromG B w (.slice none 0 0) [] := fun w' _ _ => RdG.nil w' none 0
theorem specGDo_x (va : Value) (L : List ValD) (k a b n : Int) (w : World) (h : RdG w va L) {M : List ValD} {c : Bool} (hM : ansL L k a b n = M) (hc : ansB L k a b n = c) :
    Calls Tryz.prog 9 #[.agg #[va], .agg #[.int .i64 k, .int .i64 a, .int .i64 b, .int .i64 n]] w fun e w' => (∃ (o : Option Addr) (cp : Nat), e = .returned (.tuple #[.agg #[.slice o M.length cp], .bool c]) ∧ FromG w.heap.size w' (.slice o M.length cp) M) ∧ Below w.heap.size w w' := by
  subst hM hc
  cases hok : okG L with
  | true =>
    simp only [ansL, ansB, hok, if_true, Bool.true_and]
    refine (specGDo_any va L k a b n w h hok).mono fun e w' ⟨⟨v, xs, he, hR⟩, hb⟩ => ?_
    have hl : (doG L k a b n).length = 24 := by rw [doG_length]; exact (okG_true hok).1
    obtain ⟨g, cp, hv⟩ := ownsRow_succ hR.1
    subst hv
    rw [hl]
    exact ⟨⟨_, _, he, hR.from hl⟩, hb⟩
  | false =>
    have e1 : ansL L k a b n = [] := by simp [ansL, hok]
    have e2 : ansB L k a b n = false := by simp [ansB, hok]
    rw [e1, e2]
    exact (specGDo_not va L k a b n w h hok).mono fun e w' ⟨he, hb⟩ => ⟨⟨none, 0, he, fromG_nil _ _⟩, hb⟩
theorem implGDo_x (va : Value) (L : List ValD) (k a b n : Int) (w : World) (h : RdG w va L) {M : List ValD} {c : Bool} (hM : ansL L k a b n = M) (hc : ansB L k a b n = c) :
    Calls Tryz.prog 8 #[.agg #[va], .agg #[.int .i64 k, .int .i64 a, .int .i64 b, .int .i64 n]] w fun e w' => (∃ (o : Option Addr) (cp : Nat), e = .returned (.tuple #[.agg #[.slice o M.length cp], .bool c]) ∧ FromG w.heap.size w' (.slice o M.length cp) M ∧ ∃ ty, OwnM ty 2 1 true w' (Span w.heap.size w'.heap.size) (.slice o M.length cp) (toK M)) ∧ Below w.heap.size w w' := by
  subst hM hc
  cases hok : okG L with
  | true =>
    simp only [ansL, ansB, hok, if_true, Bool.true_and]
    refine (implGDo_any va L k a b n w h hok).mono fun e w' ⟨⟨g, ds, he, hB, hg⟩, hb⟩ => ?_
    have hl : (doG L k a b n).length = 24 := by rw [doG_length]; exact (okG_true hok).1
    rw [hl]
    exact ⟨⟨_, _, he, hB.from hg 24, _, hB.own hg⟩, hb⟩
  | false =>
    have e1 : ansL L k a b n = [] := by simp [ansL, hok]
    have e2 : ansB L k a b n = false := by simp [ansB, hok]
    rw [e1, e2]
    exact (implGDo_not va L k a b n w h hok).mono fun e w' ⟨he, hb⟩ => ⟨⟨none, 0, he, fromG_nil _ _, 0, OwnM.nil _ _⟩, hb⟩
theorem toGraph_g (v : Value) (L : List ValD) (w : World) (h : RdG w v L) (hl : L.length ≤ 1048576) (hk : ∀ i, i < L.length → (L.getD i valD0).2.length ≤ 1048576) :
    Calls Tryz.prog 17 #[.agg #[v]] w fun e w' => (∃ (o : Option Addr) (cp : Nat), e = .returned (.agg #[.slice o L.length cp]) ∧ OwnM 38 2 1 true w' (Span w.heap.size w'.heap.size) (.slice o L.length cp) (toK L) ∧ RdG w' (.slice o L.length cp) L) ∧ Below w.heap.size w w' :=
  (toGraph_own v (toK L) w (rdM_of_rdG h) (by rw [toK_length]; exact hl) (fun i hi => by rw [toK_length] at hi; rw [toK_get L i hi]; exact hk i hi)).mono fun e w' ⟨he, hb⟩ => by
    obtain ⟨v0, he, ho, _⟩ := he
    have hr := rdG_of_rdM (ho.rd (by decide) (by decide))
    obtain ⟨o, cp, hv, _⟩ := id hr
    subst hv
    exact ⟨⟨o, cp, he, ho, hr⟩, hb⟩
theorem eqGraph_is {va vb : Value} {l : List ValD} {w : World} (ha : RdG w va l) (hb : RdG w vb l) :
    Calls Tryz.prog 19 #[.agg #[va], .agg #[vb]] w fun e w' => e = .returned (.bool true) ∧ Below w.heap.size w w' := by
  have := eqGraph_any va vb l l w ha hb
  rw [eqG_refl] at this
  exact this

/-- A graph's variable, laid and not yet written. -/
structure VarW (w : World) (B : Nat) : Prop where
  c0 : w.cell? ⟨B, 0, none⟩ = some (.slice none 0 0)
  f0 : w.frozen? ⟨B, 0, none⟩ = false
  lt : B < w.heap.size
theorem VarW.new (w : World) : VarW (w.alloc (.cells #[.slice none 0 0] 25)) w.heap.size := ⟨by go_cell, by (first | go_cell | (simp [World.frozen?, World.alloc]; done) | rfl), by simp⟩
theorem VarW.later {w w' : World} {B : Nat} (h : VarW w B) (hb : Below w.heap.size w w') : VarW w' B :=
  ⟨(hb.cell (p := ⟨B, 0, none⟩) h.lt).trans h.c0, (hb.frozen (p := ⟨B, 0, none⟩) h.lt).trans h.f0, Nat.lt_of_lt_of_le h.lt hb.size⟩
theorem VarW.drawn {w w' : World} (h : Below ((w.alloc (.cells #[.slice none 0 0] 25)).drew).heap.size ((w.alloc (.cells #[.slice none 0 0] 25)).drew) w') : VarW w' w.heap.size :=
  (VarW.new w).later (show Below (w.alloc (.cells #[.slice none 0 0] 25)).heap.size (w.alloc (.cells #[.slice none 0 0] 25)) w' from (Below.refl _ _).drew.trans h)
theorem VarW.past {w w' : World} (h : Below (w.alloc (.cells #[.slice none 0 0] 25)).heap.size (w.alloc (.cells #[.slice none 0 0] 25)) w') : VarW w' w.heap.size := (VarW.new w).later h

/-- Behind a statement that lays a graph's variable and a Boolean: what they hold. -/
def GrS (w0 : World) (M : List ValD) (c : Bool) (s1 s2 : Value) (wx : World) : Prop :=
  ∃ (bx : Nat) (o : Option Addr) (cp : Nat), s1 = .pointer (some ⟨bx, 0, none⟩) ∧ s2 = .bool c ∧ w0.heap.size ≤ bx ∧ bx < wx.heap.size ∧ wx.cell? ⟨bx, 0, none⟩ = some (.slice o M.length cp) ∧ RdG wx (.slice o M.length cp) M ∧ Below w0.heap.size w0 wx
theorem GrS.of_new {w0 wx : World} {M : List ValD} {c : Bool} {B : Nat} {o : Option Addr} {cp : Nat} (h : FromG B wx (.slice o M.length cp) M) (hb : Below w0.heap.size w0 wx) :
    GrS w0 M c (.pointer (some ⟨wx.heap.size, 0, none⟩)) (.bool c) (wx.alloc (.cells #[.slice o M.length cp] 25)) :=
  ⟨_, o, cp, rfl, rfl, hb.size, by simp, by go_cell, h.rd.later ((Below.refl _ wx).alloc (Nat.le_refl _) _), hb.alloc hb.size _⟩
theorem GrS.of_set {w0 wx : World} {M : List ValD} {c : Bool} {B bx : Nat} {o : Option Addr} {cp : Nat} (z : VarW wx bx) (h : FromG B wx (.slice o M.length cp) M) (hb : Below w0.heap.size w0 wx) (hx : bx < B) (h0 : w0.heap.size ≤ bx) :
    GrS w0 M c (.pointer (some ⟨bx, 0, none⟩)) (.bool c) (wx.setCell ⟨bx, 0, none⟩ (.slice o M.length cp)) := by
  have z0 := z.c0
  exact ⟨_, o, cp, rfl, rfl, h0, by simpa using z.lt, by go_cell, (h.set (p := ⟨bx, 0, none⟩) hx _).rd, hb.setCell (p := ⟨bx, 0, none⟩) h0 _⟩
/-- The same, where it owns what it holds. -/
def GrO (w0 : World) (M : List ValD) (c : Bool) (s1 s2 : Value) (wx : World) : Prop :=
  ∃ (bx : Nat) (o : Option Addr) (cp : Nat) (ty : TypeId) (F : Nat → Prop), s1 = .pointer (some ⟨bx, 0, none⟩) ∧ s2 = .bool c ∧ w0.heap.size ≤ bx ∧ bx < wx.heap.size ∧ wx.cell? ⟨bx, 0, none⟩ = some (.slice o M.length cp) ∧
    OwnM ty 2 1 true wx F (.slice o M.length cp) (toK M) ∧ (∀ b, F b → w0.heap.size ≤ b ∧ b < wx.heap.size ∧ b ≠ bx) ∧ Below w0.heap.size w0 wx
theorem GrO.of_new {w0 wx : World} {M : List ValD} {c : Bool} {B : Nat} {o : Option Addr} {cp : Nat} {ty : TypeId} (h : OwnM ty 2 1 true wx (Span B wx.heap.size) (.slice o M.length cp) (toK M)) (hb : Below w0.heap.size w0 wx) (hB : w0.heap.size ≤ B) :
    GrO w0 M c (.pointer (some ⟨wx.heap.size, 0, none⟩)) (.bool c) (wx.alloc (.cells #[.slice o M.length cp] 25)) :=
  ⟨_, o, cp, ty, Span B wx.heap.size, rfl, rfl, hb.size, by simp, by go_cell, h.later ((Below.refl _ wx).alloc (Nat.le_refl _) _), fun b hb' => ⟨Nat.le_trans hB hb'.1, by have := hb'.2; simp; omega, by have := hb'.2; omega⟩, hb.alloc hb.size _⟩
theorem GrO.of_set {w0 wx : World} {M : List ValD} {c : Bool} {B bx : Nat} {o : Option Addr} {cp : Nat} {ty : TypeId} (z : VarW wx bx) (h : OwnM ty 2 1 true wx (Span B wx.heap.size) (.slice o M.length cp) (toK M)) (hb : Below w0.heap.size w0 wx) (hB : w0.heap.size ≤ B) (hx : bx < B) (h0 : w0.heap.size ≤ bx) :
    GrO w0 M c (.pointer (some ⟨bx, 0, none⟩)) (.bool c) (wx.setCell ⟨bx, 0, none⟩ (.slice o M.length cp)) := by
  have z0 := z.c0
  exact ⟨_, o, cp, ty, Span B wx.heap.size, rfl, rfl, h0, by simpa using z.lt, by go_cell, h.set (p := ⟨bx, 0, none⟩) (fun q => by have := q.1; simp only at this; omega) _,
    fun b hb' => ⟨Nat.le_trans hB hb'.1, by have := hb'.2; simpa using this, by have := hb'.1; omega⟩, hb.setCell (p := ⟨bx, 0, none⟩) h0 _⟩
end Go.Proofs.YtkmhnjgncnoddaaGreat

/- Part: The law FnExactGraphDo: its walk. Written by a program (gdo.py). -/
namespace Go.Proofs.YtkmhnjgncnoddaaGreat
open Go.RowKit
attribute [local go_sem ↓] Go.wp_at_zero Go.wp_at_succ

set_option maxRecDepth 100000 in
set_option maxHeartbeats 16000000 in
theorem lawGDo_any (va : Value) (la : List ValD) (k a b n : Int) (w : World) (ha : RdG w va la) :
    Calls Tryz.prog 4 #[.agg #[va], .agg #[.int .i64 k, .int .i64 a, .int .i64 b, .int .i64 n]] w fun e w' => e = .returned (.bool true) ∧ Below w.heap.size w w' := by
  have HA := hid ha
  obtain ⟨ao, cap, hv, _⟩ := ha
  subst hv
  have SD := fun (v : Value) (W : World) (h : RdG W v la) => specGDo_x v la k a b n W h rfl rfl
  have ID := fun (v : Value) (W : World) (h : RdG W v la) => implGDo_x v la k a b n W h rfl rfl
  have hM := ansL_small la k a b n
  generalize ansL la k a b n = M at SD ID hM
  generalize ansB la k a b n = c at SD ID
  go_enter Tryz.func4, Tryz.ntmps4
  go_wp2_with fail
  have a0_1 : ((w.alloc (.cells #[.slice ao la.length cap] 42)).alloc (.cells #[.int .i64 k, .int .i64 a, .int .i64 b, .int .i64 n] 43)).cell? ⟨w.heap.size, 0, none⟩ = some (.slice ao la.length cap) := by go_cell
  have al_1 : w.heap.size < ((w.alloc (.cells #[.slice ao la.length cap] 42)).alloc (.cells #[.int .i64 k, .int .i64 a, .int .i64 b, .int .i64 n] 43)).heap.size := by first | (simp; done) | (simp; omega)
  have o0_1 : ((w.alloc (.cells #[.slice ao la.length cap] 42)).alloc (.cells #[.int .i64 k, .int .i64 a, .int .i64 b, .int .i64 n] 43)).cell? ⟨w.heap.size + 1, 0, none⟩ = some (.int .i64 k) := by go_cell
  have o1_1 : ((w.alloc (.cells #[.slice ao la.length cap] 42)).alloc (.cells #[.int .i64 k, .int .i64 a, .int .i64 b, .int .i64 n] 43)).cell? ⟨w.heap.size + 1, 1, none⟩ = some (.int .i64 a) := by go_cell
  have o2_1 : ((w.alloc (.cells #[.slice ao la.length cap] 42)).alloc (.cells #[.int .i64 k, .int .i64 a, .int .i64 b, .int .i64 n] 43)).cell? ⟨w.heap.size + 1, 2, none⟩ = some (.int .i64 b) := by go_cell
  have o3_1 : ((w.alloc (.cells #[.slice ao la.length cap] 42)).alloc (.cells #[.int .i64 k, .int .i64 a, .int .i64 b, .int .i64 n] 43)).cell? ⟨w.heap.size + 1, 3, none⟩ = some (.int .i64 n) := by go_cell
  have ol_1 : w.heap.size + 1 < ((w.alloc (.cells #[.slice ao la.length cap] 42)).alloc (.cells #[.int .i64 k, .int .i64 a, .int .i64 b, .int .i64 n] 43)).heap.size := by first | (simp; done) | (simp; omega)
  have c1 : Below w.heap.size w ((w.alloc (.cells #[.slice ao la.length cap] 42)).alloc (.cells #[.int .i64 k, .int .i64 a, .int .i64 b, .int .i64 n] 43)) := by go_grown
  have s1 : ((w.alloc (.cells #[.slice ao la.length cap] 42)).alloc (.cells #[.int .i64 k, .int .i64 a, .int .i64 b, .int .i64 n] 43)).heap.size = w.heap.size + 2 := by simp
  generalize ((w.alloc (.cells #[.slice ao la.length cap] 42)).alloc (.cells #[.int .i64 k, .int .i64 a, .int .i64 b, .int .i64 n] 43)) = w1 at a0_1 al_1 o0_1 o1_1 o2_1 o3_1 ol_1 c1 s1 ⊢
  have qa0_1 := cell_regrown a0_1
  have qo0_1 := cell_regrown o0_1
  have qo1_1 := cell_regrown o1_1
  have qo2_1 := cell_regrown o2_1
  have qo3_1 := cell_regrown o3_1
  refine (szGraph_any _ la _ _ (HA.out.later c1) (by omega) (by omega)).mono ?_
  rintro e w2 ⟨hs, b2⟩
  have d2 : Below w1.heap.size w1 w2 := (Below.trans (by go_grown) (b2.mono (by first | omega | (simp; done) | (simp; omega))))
  have c2 : Below w.heap.size w w2 := c1.trans (d2.mono c1.size)
  have a0_2 : w2.cell? ⟨w.heap.size, 0, none⟩ = some (.slice ao la.length cap) := (by rw [b2.cell (by first | omega | (simp; done) | (simp; omega))]; go_cell)
  have al_2 : w.heap.size < w2.heap.size := (by have := b2.size; first | omega | (revert this; simp; done) | (revert this; simp; omega))
  have o0_2 : w2.cell? ⟨w.heap.size + 1, 0, none⟩ = some (.int .i64 k) := (by rw [b2.cell (by first | omega | (simp; done) | (simp; omega))]; go_cell)
  have o1_2 : w2.cell? ⟨w.heap.size + 1, 1, none⟩ = some (.int .i64 a) := (by rw [b2.cell (by first | omega | (simp; done) | (simp; omega))]; go_cell)
  have o2_2 : w2.cell? ⟨w.heap.size + 1, 2, none⟩ = some (.int .i64 b) := (by rw [b2.cell (by first | omega | (simp; done) | (simp; omega))]; go_cell)
  have o3_2 : w2.cell? ⟨w.heap.size + 1, 3, none⟩ = some (.int .i64 n) := (by rw [b2.cell (by first | omega | (simp; done) | (simp; omega))]; go_cell)
  have ol_2 : w.heap.size + 1 < w2.heap.size := (by have := b2.size; first | omega | (revert this; simp; done) | (revert this; simp; omega))
  clear a0_1 al_1 o0_1 o1_1 o2_1 o3_1 ol_1
  clear b2 d2
  rcases hs with ⟨rfl, hs⟩ | ⟨rfl, _⟩
  · have hsz : (la.length : Int) + bulkG la ≤ 1048576 := by omega
    have hr0 : ¬ (1048576 - (la.length : Int) - (bulkG la : Int) < 0) := by omega
    obtain ⟨r, hr⟩ : ∃ r : Int, 1048576 - (la.length : Int) - (bulkG la : Int) = r := ⟨_, rfl⟩
    rw [hr] at hr0 ⊢
    have HBA := hid (show ∀ i, i < la.length → (la.getD i valD0).2.length ≤ 1048576 from fun i hi => by have := bulk_get la i hi; omega)
    have hla : la.length ≤ 1048576 := by omega
    have hcx : cntM 1 (toK la) ≤ 4000000 := by rw [cnt_toK]; omega
    have hpx := cntM_pos 1 (toK la)
    have hpm := cntM_pos 1 (toK M)
    clear hr hs hsz
    go_upto_region 5 with fail
    go_cut [6, 7] from 21 (fun s1 s2 wx => GrS w2 M c s1 s2 wx)
    case first =>
      go_region_with (first
        | (go_at_call 17; refine (toGraph_g (.slice ao la.length cap) la _ (HA.out.later (Below.trans c2 (Below.mono (by go_grown) c2.size))) hla HBA.out).mono ?_; rintro e w50 ⟨⟨o50, c50, rfl, _, hr50⟩, b50⟩; (first | with_reducible have V50 := VarW.drawn b50 | skip); have d50 : Below w2.heap.size w2 w50 := (Below.trans (by go_grown) (b50.mono (by first | omega | (simp; done) | (simp; omega)))); have c50 : Below w.heap.size w w50 := c2.trans (d50.mono c2.size); have o0_50 : w50.cell? ⟨w.heap.size + 1, 0, none⟩ = some (.int .i64 k) := (by rw [b50.cell (by first | omega | (simp; done) | (simp; omega))]; go_cell); have o1_50 : w50.cell? ⟨w.heap.size + 1, 1, none⟩ = some (.int .i64 a) := (by rw [b50.cell (by first | omega | (simp; done) | (simp; omega))]; go_cell); have o2_50 : w50.cell? ⟨w.heap.size + 1, 2, none⟩ = some (.int .i64 b) := (by rw [b50.cell (by first | omega | (simp; done) | (simp; omega))]; go_cell); have o3_50 : w50.cell? ⟨w.heap.size + 1, 3, none⟩ = some (.int .i64 n) := (by rw [b50.cell (by first | omega | (simp; done) | (simp; omega))]; go_cell); have ol_50 : w.heap.size + 1 < w50.heap.size := (by have := b50.size; first | omega | (revert this; simp; done) | (revert this; simp; omega)); clear o0_2 o1_2 o2_2 o3_2 ol_2; have R50 := hid hr50; clear hr50)
        | (go_at_call 18; refine (toOp_any k a b n _).mono ?_; rintro e w51 ⟨rfl, b51⟩; (first | with_reducible have V51 := VarW.past b51 | skip); have d51 : Below w50.heap.size w50 w51 := (Below.trans (by go_grown) (b51.mono (by first | omega | (simp; done) | (simp; omega)))); have c51 : Below w.heap.size w w51 := c50.trans (d51.mono c50.size); (first | with_reducible have V51 := VarW.later V50 d51 | skip); have R51 := hid (R50.out.later d51))
        | (go_at_call 9; refine (SD _ _ (R51.out.later (by go_grown))).mono ?_; rintro e w52 ⟨⟨o52, c52, rfl, hf⟩, b52⟩; (first | (with_reducible have V52 := VarW.past b52; have y0 := V52.c0; have y1 := V52.f0; have y2 := V52.lt) | skip); have d52 : Below w51.heap.size w51 w52 := (Below.trans (by go_grown) (b52.mono (by first | omega | (simp; done) | (simp; omega)))); have c52 : Below w.heap.size w w52 := c51.trans (d52.mono c51.size); (first | (with_reducible have V52 := VarW.later V51 d52; have y0 := V52.c0; have y1 := V52.f0; have y2 := V52.lt) | skip); have F52 := hid hf; clear hf))
      all_goals
        go_wp2_with fail
        go_meet
        have e52 := (d50.trans (d51.mono d50.size)).trans (d52.mono (Nat.le_trans d50.size d51.size))
        have t50 := d50.size
        have t51 := d51.size
        try have q51 := V51.lt
        try have q50 := V50.lt
        first
          | (with_reducible exact GrS.of_new F52.out e52)
          | (with_reducible refine GrS.of_set V52 F52.out e52 ?_ ?_ <;> first | omega | (simp; done) | (simp; omega) | trace_state)
    case rest =>
      obtain ⟨Bs, so, sc, rfl, rfl, hs0, hs1, q0, hrd, b3⟩ := hcut
      obtain ⟨w3, hw3⟩ : ∃ y, y = wc := ⟨_, rfl⟩
      subst hw3
      have d3 : Below w2.heap.size w2 w3 := (Below.trans (by go_grown) (b3.mono (by first | omega | (simp; done) | (simp; omega))))
      have c3 : Below w.heap.size w w3 := c2.trans (d3.mono c2.size)
      have a0_3 : w3.cell? ⟨w.heap.size, 0, none⟩ = some (.slice ao la.length cap) := (by rw [b3.cell (by first | omega | (simp; done) | (simp; omega))]; go_cell)
      have al_3 : w.heap.size < w3.heap.size := (by have := b3.size; first | omega | (revert this; simp; done) | (revert this; simp; omega))
      have o0_3 : w3.cell? ⟨w.heap.size + 1, 0, none⟩ = some (.int .i64 k) := (by rw [b3.cell (by first | omega | (simp; done) | (simp; omega))]; go_cell)
      have o1_3 : w3.cell? ⟨w.heap.size + 1, 1, none⟩ = some (.int .i64 a) := (by rw [b3.cell (by first | omega | (simp; done) | (simp; omega))]; go_cell)
      have o2_3 : w3.cell? ⟨w.heap.size + 1, 2, none⟩ = some (.int .i64 b) := (by rw [b3.cell (by first | omega | (simp; done) | (simp; omega))]; go_cell)
      have o3_3 : w3.cell? ⟨w.heap.size + 1, 3, none⟩ = some (.int .i64 n) := (by rw [b3.cell (by first | omega | (simp; done) | (simp; omega))]; go_cell)
      have ol_3 : w.heap.size + 1 < w3.heap.size := (by have := b3.size; first | omega | (revert this; simp; done) | (revert this; simp; omega))
      clear a0_2 al_2 o0_2 o1_2 o2_2 o3_2 ol_2
      clear d3 b3 
      have s0_3 := q0
      have sl_3 := hs1
      clear q0 hs1
      have RS_3 := hid hrd
      clear hrd
      have HCX := hid ol_3
      have HSL := hid sl_3
      have HRS := hid RS_3.out
      have E3_3 := Below.refl w3.heap.size w3
      go_wp2_with fail
      refine (toGraph_g _ la _ (HA.out.later c3) hla HBA.out).mono ?_
      rintro e w4 ⟨⟨xo, xc, rfl, hox, hrx⟩, b4⟩
      have d4 : Below w3.heap.size w3 w4 := (Below.trans (by go_grown) (b4.mono (by first | omega | (simp; done) | (simp; omega))))
      have c4 : Below w.heap.size w w4 := c3.trans (d4.mono c3.size)
      have a0_4 : w4.cell? ⟨w.heap.size, 0, none⟩ = some (.slice ao la.length cap) := (by rw [b4.cell (by first | omega | (simp; done) | (simp; omega))]; go_cell)
      have al_4 : w.heap.size < w4.heap.size := (by have := b4.size; first | omega | (revert this; simp; done) | (revert this; simp; omega))
      have o0_4 : w4.cell? ⟨w.heap.size + 1, 0, none⟩ = some (.int .i64 k) := (by rw [b4.cell (by first | omega | (simp; done) | (simp; omega))]; go_cell)
      have o1_4 : w4.cell? ⟨w.heap.size + 1, 1, none⟩ = some (.int .i64 a) := (by rw [b4.cell (by first | omega | (simp; done) | (simp; omega))]; go_cell)
      have o2_4 : w4.cell? ⟨w.heap.size + 1, 2, none⟩ = some (.int .i64 b) := (by rw [b4.cell (by first | omega | (simp; done) | (simp; omega))]; go_cell)
      have o3_4 : w4.cell? ⟨w.heap.size + 1, 3, none⟩ = some (.int .i64 n) := (by rw [b4.cell (by first | omega | (simp; done) | (simp; omega))]; go_cell)
      have ol_4 : w.heap.size + 1 < w4.heap.size := (by have := b4.size; first | omega | (revert this; simp; done) | (revert this; simp; omega))
      have s0_4 : w4.cell? ⟨Bs, 0, none⟩ = some (.slice so M.length sc) := (by rw [b4.cell (by first | omega | (simp; done) | (simp; omega))]; go_cell)
      have sl_4 : Bs < w4.heap.size := (by have := b4.size; first | omega | (revert this; simp; done) | (revert this; simp; omega))
      clear a0_3 al_3 o0_3 o1_3 o2_3 o3_3 ol_3 s0_3 sl_3
      have RS_4 := hid (RS_3.out.later d4)
      have E3_4 : Below w3.heap.size w3 w4 := E3_3.trans (d4.mono E3_3.size)
      clear d4 b4 RS_3 E3_3
      have OX_4 := hid hox
      have RX_4 := hid hrx
      clear hox hrx
      have E34 := hid E3_4.size
      go_wp2_with fail
      have x0_5 : (w4.alloc (.cells #[.slice xo la.length xc] 25)).cell? ⟨w4.heap.size, 0, none⟩ = some (.slice xo la.length xc) := by go_cell
      have xl_5 : w4.heap.size < (w4.alloc (.cells #[.slice xo la.length xc] 25)).heap.size := by simp
      have d5 : Below w4.heap.size w4 (w4.alloc (.cells #[.slice xo la.length xc] 25)) := by go_grown
      generalize (w4.alloc (.cells #[.slice xo la.length xc] 25)) = w5 at x0_5 xl_5 d5 ⊢
      have c5 : Below w.heap.size w w5 := c4.trans (d5.mono c4.size)
      have a0_5 : w5.cell? ⟨w.heap.size, 0, none⟩ = some (.slice ao la.length cap) := (by rw [d5.cell (by first | omega | (simp; done) | (simp; omega))]; go_cell)
      have al_5 : w.heap.size < w5.heap.size := (by have := d5.size; omega)
      have o0_5 : w5.cell? ⟨w.heap.size + 1, 0, none⟩ = some (.int .i64 k) := (by rw [d5.cell (by first | omega | (simp; done) | (simp; omega))]; go_cell)
      have o1_5 : w5.cell? ⟨w.heap.size + 1, 1, none⟩ = some (.int .i64 a) := (by rw [d5.cell (by first | omega | (simp; done) | (simp; omega))]; go_cell)
      have o2_5 : w5.cell? ⟨w.heap.size + 1, 2, none⟩ = some (.int .i64 b) := (by rw [d5.cell (by first | omega | (simp; done) | (simp; omega))]; go_cell)
      have o3_5 : w5.cell? ⟨w.heap.size + 1, 3, none⟩ = some (.int .i64 n) := (by rw [d5.cell (by first | omega | (simp; done) | (simp; omega))]; go_cell)
      have ol_5 : w.heap.size + 1 < w5.heap.size := (by have := d5.size; omega)
      have s0_5 : w5.cell? ⟨Bs, 0, none⟩ = some (.slice so M.length sc) := (by rw [d5.cell (by first | omega | (simp; done) | (simp; omega))]; go_cell)
      have sl_5 : Bs < w5.heap.size := (by have := d5.size; omega)
      clear a0_4 al_4 o0_4 o1_4 o2_4 o3_4 ol_4 s0_4 sl_4
      have RS_5 := hid (RS_4.out.later d5)
      have OX_5 := hid (OX_4.out.later d5)
      have RX_5 := hid (RX_4.out.later d5)
      have E3_5 : Below w3.heap.size w3 w5 := E3_4.trans (d5.mono E3_4.size)
      clear d5 RS_4 OX_4 RX_4 E3_4
      have HGX := hid xl_5
      have HCV := hid ol_5
      go_upto_region 7 with fail
      go_cut [9, 10] from 31 (fun s1 s2 wx => GrO w5 M c s1 s2 wx)
      case first =>
        go_region_with (first
          | (go_at_call 18; refine (toOp_any k a b n _).mono ?_; rintro e w51 ⟨rfl, b51⟩; (first | with_reducible have V51 := VarW.drawn b51 | skip); have d51 : Below w5.heap.size w5 w51 := (Below.trans (by go_grown) (b51.mono (by first | omega | (simp; done) | (simp; omega)))); have c51 : Below w.heap.size w w51 := c5.trans (d51.mono c5.size); have x0_51 : w51.cell? ⟨w4.heap.size, 0, none⟩ = some (.slice xo la.length xc) := (by rw [b51.cell (by first | omega | (simp; done) | (simp; omega))]; go_cell); have xl_51 : w4.heap.size < w51.heap.size := (by have := b51.size; first | omega | (revert this; simp; done) | (revert this; simp; omega)); clear x0_5 xl_5; have R51 := hid (RX_5.out.later d51))
          | (go_at_call 8; refine (ID _ _ (R51.out.later (by go_grown))).mono ?_; rintro e w52 ⟨⟨o52, c52, rfl, hf, ty, how⟩, b52⟩; (first | (with_reducible have V52 := VarW.past b52; have y0 := V52.c0; have y1 := V52.f0; have y2 := V52.lt) | skip); have d52 : Below w51.heap.size w51 w52 := (Below.trans (by go_grown) (b52.mono (by first | omega | (simp; done) | (simp; omega)))); have c52 : Below w.heap.size w w52 := c51.trans (d52.mono c51.size); (first | (with_reducible have V52 := VarW.later V51 d52; have y0 := V52.c0; have y1 := V52.f0; have y2 := V52.lt) | skip); have F52 := hid hf; have O52 := hid how; clear how; clear hf))
        all_goals
          go_wp2_with fail
          go_meet
          have e52 := d51.trans (d52.mono d51.size)
          have t51 := d51.size
          try have q51 := V51.lt
          try have q50 := V50.lt
          first
            | (with_reducible refine GrO.of_new O52.out e52 ?_; first | omega | (simp; done) | (simp; omega) | trace_state)
            | (with_reducible refine GrO.of_set V52 O52.out e52 ?_ ?_ ?_ <;> first | omega | (simp; done) | (simp; omega) | trace_state)
      case rest =>
        obtain ⟨Bg, go, gc, ty, F, rfl, rfl, hg0, hg1, q0, hrd, hF, b6⟩ := hcut
        obtain ⟨w6, hw6⟩ : ∃ y, y = wc := ⟨_, rfl⟩
        subst hw6
        have d6 : Below w5.heap.size w5 w6 := (Below.trans (by go_grown) (b6.mono (by first | omega | (simp; done) | (simp; omega))))
        have c6 : Below w.heap.size w w6 := c5.trans (d6.mono c5.size)
        have a0_6 : w6.cell? ⟨w.heap.size, 0, none⟩ = some (.slice ao la.length cap) := (by rw [b6.cell (by first | omega | (simp; done) | (simp; omega))]; go_cell)
        have al_6 : w.heap.size < w6.heap.size := (by have := b6.size; first | omega | (revert this; simp; done) | (revert this; simp; omega))
        have o0_6 : w6.cell? ⟨w.heap.size + 1, 0, none⟩ = some (.int .i64 k) := (by rw [b6.cell (by first | omega | (simp; done) | (simp; omega))]; go_cell)
        have o1_6 : w6.cell? ⟨w.heap.size + 1, 1, none⟩ = some (.int .i64 a) := (by rw [b6.cell (by first | omega | (simp; done) | (simp; omega))]; go_cell)
        have o2_6 : w6.cell? ⟨w.heap.size + 1, 2, none⟩ = some (.int .i64 b) := (by rw [b6.cell (by first | omega | (simp; done) | (simp; omega))]; go_cell)
        have o3_6 : w6.cell? ⟨w.heap.size + 1, 3, none⟩ = some (.int .i64 n) := (by rw [b6.cell (by first | omega | (simp; done) | (simp; omega))]; go_cell)
        have ol_6 : w.heap.size + 1 < w6.heap.size := (by have := b6.size; first | omega | (revert this; simp; done) | (revert this; simp; omega))
        have s0_6 : w6.cell? ⟨Bs, 0, none⟩ = some (.slice so M.length sc) := (by rw [b6.cell (by first | omega | (simp; done) | (simp; omega))]; go_cell)
        have sl_6 : Bs < w6.heap.size := (by have := b6.size; first | omega | (revert this; simp; done) | (revert this; simp; omega))
        have x0_6 : w6.cell? ⟨w4.heap.size, 0, none⟩ = some (.slice xo la.length xc) := (by rw [b6.cell (by first | omega | (simp; done) | (simp; omega))]; go_cell)
        have xl_6 : w4.heap.size < w6.heap.size := (by have := b6.size; first | omega | (revert this; simp; done) | (revert this; simp; omega))
        clear a0_5 al_5 o0_5 o1_5 o2_5 o3_5 ol_5 s0_5 sl_5 x0_5 xl_5
        have RS_6 := hid (RS_5.out.later d6)
        have OX_6 := hid (OX_5.out.later d6)
        have RX_6 := hid (RX_5.out.later d6)
        have E3_6 : Below w3.heap.size w3 w6 := E3_5.trans (d6.mono E3_5.size)
        clear d6 b6 RS_5 OX_5 RX_5 E3_5
        have g0_6 := q0
        have gl_6 := hg1
        clear q0 hg1
        have OG_6 := hid hrd
        have HFF := hid hF
        clear hF
        clear hrd
        have HGL := hid hg0
        have RG_6 := hid (rdG_of_rdM (OG_6.out.rd (by decide) (by decide)))
        go_wp2_with fail
        refine (eqGraph_is RG_6.out RS_6.out).mono ?_
        rintro e w7 ⟨rfl, b7⟩
        have d7 : Below w6.heap.size w6 w7 := (Below.trans (by go_grown) (b7.mono (by first | omega | (simp; done) | (simp; omega))))
        have c7 : Below w.heap.size w w7 := c6.trans (d7.mono c6.size)
        have a0_7 : w7.cell? ⟨w.heap.size, 0, none⟩ = some (.slice ao la.length cap) := (by rw [b7.cell (by first | omega | (simp; done) | (simp; omega))]; go_cell)
        have al_7 : w.heap.size < w7.heap.size := (by have := b7.size; first | omega | (revert this; simp; done) | (revert this; simp; omega))
        have o0_7 : w7.cell? ⟨w.heap.size + 1, 0, none⟩ = some (.int .i64 k) := (by rw [b7.cell (by first | omega | (simp; done) | (simp; omega))]; go_cell)
        have o1_7 : w7.cell? ⟨w.heap.size + 1, 1, none⟩ = some (.int .i64 a) := (by rw [b7.cell (by first | omega | (simp; done) | (simp; omega))]; go_cell)
        have o2_7 : w7.cell? ⟨w.heap.size + 1, 2, none⟩ = some (.int .i64 b) := (by rw [b7.cell (by first | omega | (simp; done) | (simp; omega))]; go_cell)
        have o3_7 : w7.cell? ⟨w.heap.size + 1, 3, none⟩ = some (.int .i64 n) := (by rw [b7.cell (by first | omega | (simp; done) | (simp; omega))]; go_cell)
        have ol_7 : w.heap.size + 1 < w7.heap.size := (by have := b7.size; first | omega | (revert this; simp; done) | (revert this; simp; omega))
        have s0_7 : w7.cell? ⟨Bs, 0, none⟩ = some (.slice so M.length sc) := (by rw [b7.cell (by first | omega | (simp; done) | (simp; omega))]; go_cell)
        have sl_7 : Bs < w7.heap.size := (by have := b7.size; first | omega | (revert this; simp; done) | (revert this; simp; omega))
        have x0_7 : w7.cell? ⟨w4.heap.size, 0, none⟩ = some (.slice xo la.length xc) := (by rw [b7.cell (by first | omega | (simp; done) | (simp; omega))]; go_cell)
        have xl_7 : w4.heap.size < w7.heap.size := (by have := b7.size; first | omega | (revert this; simp; done) | (revert this; simp; omega))
        have g0_7 : w7.cell? ⟨Bg, 0, none⟩ = some (.slice go M.length gc) := (by rw [b7.cell (by first | omega | (simp; done) | (simp; omega))]; go_cell)
        have gl_7 : Bg < w7.heap.size := (by have := b7.size; first | omega | (revert this; simp; done) | (revert this; simp; omega))
        clear a0_6 al_6 o0_6 o1_6 o2_6 o3_6 ol_6 s0_6 sl_6 x0_6 xl_6 g0_6 gl_6
        have RS_7 := hid (RS_6.out.later d7)
        have OX_7 := hid (OX_6.out.later d7)
        have RX_7 := hid (RX_6.out.later d7)
        have OG_7 := hid (OG_6.out.later d7)
        have RG_7 := hid (RG_6.out.later d7)
        have E3_7 : Below w3.heap.size w3 w7 := E3_6.trans (d7.mono E3_6.size)
        clear d7 b7 RS_6 OX_6 RX_6 OG_6 RG_6 E3_6
        go_upto_region 10 with fail
        go_cut [51] from 47 (fun s wx => s = .bool false ∧ Below w7.heap.size w7 wx)
        case first =>
          go_region_with (first
            | (go_at_call 17; refine (toGraph_g (.slice ao la.length cap) la _ (HA.out.later (c7.drew)) hla HBA.out).mono ?_; rintro e w50 ⟨⟨o50, c50, rfl, _, hr50⟩, b50⟩; have d50 : Below w7.heap.size w7 w50 := (Below.trans (by go_grown) (b50.mono (by first | omega | (simp; done) | (simp; omega)))); have c50 : Below w.heap.size w w50 := c7.trans (d50.mono c7.size); have x0_50 : w50.cell? ⟨w4.heap.size, 0, none⟩ = some (.slice xo la.length xc) := (by rw [b50.cell (by first | omega | (simp; done) | (simp; omega))]; go_cell); have xl_50 : w4.heap.size < w50.heap.size := (by have := b50.size; first | omega | (revert this; simp; done) | (revert this; simp; omega)); clear x0_7 xl_7; have R50 := hid hr50; clear hr50)
            | (go_at_call 19; refine (eqGraph_is (RX_7.out.later d50) R50.out).mono ?_; rintro e w51 ⟨rfl, b51⟩; have d51 : Below w50.heap.size w50 w51 := (Below.trans (by go_grown) (b51.mono (by first | omega | (simp; done) | (simp; omega)))); have c51 : Below w.heap.size w w51 := c50.trans (d51.mono c50.size)))
          all_goals
            go_wp2_with fail
            go_meet
            exact ⟨rfl, d50.trans (d51.mono d50.size)⟩
        case rest =>
          obtain ⟨rfl, b8⟩ := hcut
          obtain ⟨w8, hw8⟩ : ∃ y, y = wc := ⟨_, rfl⟩
          subst hw8
          have d8 : Below w7.heap.size w7 w8 := (Below.trans (by go_grown) (b8.mono (by first | omega | (simp; done) | (simp; omega))))
          have c8 : Below w.heap.size w w8 := c7.trans (d8.mono c7.size)
          have a0_8 : w8.cell? ⟨w.heap.size, 0, none⟩ = some (.slice ao la.length cap) := (by rw [b8.cell (by first | omega | (simp; done) | (simp; omega))]; go_cell)
          have al_8 : w.heap.size < w8.heap.size := (by have := b8.size; first | omega | (revert this; simp; done) | (revert this; simp; omega))
          have o0_8 : w8.cell? ⟨w.heap.size + 1, 0, none⟩ = some (.int .i64 k) := (by rw [b8.cell (by first | omega | (simp; done) | (simp; omega))]; go_cell)
          have o1_8 : w8.cell? ⟨w.heap.size + 1, 1, none⟩ = some (.int .i64 a) := (by rw [b8.cell (by first | omega | (simp; done) | (simp; omega))]; go_cell)
          have o2_8 : w8.cell? ⟨w.heap.size + 1, 2, none⟩ = some (.int .i64 b) := (by rw [b8.cell (by first | omega | (simp; done) | (simp; omega))]; go_cell)
          have o3_8 : w8.cell? ⟨w.heap.size + 1, 3, none⟩ = some (.int .i64 n) := (by rw [b8.cell (by first | omega | (simp; done) | (simp; omega))]; go_cell)
          have ol_8 : w.heap.size + 1 < w8.heap.size := (by have := b8.size; first | omega | (revert this; simp; done) | (revert this; simp; omega))
          have s0_8 : w8.cell? ⟨Bs, 0, none⟩ = some (.slice so M.length sc) := (by rw [b8.cell (by first | omega | (simp; done) | (simp; omega))]; go_cell)
          have sl_8 : Bs < w8.heap.size := (by have := b8.size; first | omega | (revert this; simp; done) | (revert this; simp; omega))
          have x0_8 : w8.cell? ⟨w4.heap.size, 0, none⟩ = some (.slice xo la.length xc) := (by rw [b8.cell (by first | omega | (simp; done) | (simp; omega))]; go_cell)
          have xl_8 : w4.heap.size < w8.heap.size := (by have := b8.size; first | omega | (revert this; simp; done) | (revert this; simp; omega))
          have g0_8 : w8.cell? ⟨Bg, 0, none⟩ = some (.slice go M.length gc) := (by rw [b8.cell (by first | omega | (simp; done) | (simp; omega))]; go_cell)
          have gl_8 : Bg < w8.heap.size := (by have := b8.size; first | omega | (revert this; simp; done) | (revert this; simp; omega))
          clear a0_7 al_7 o0_7 o1_7 o2_7 o3_7 ol_7 s0_7 sl_7 x0_7 xl_7 g0_7 gl_7
          have RS_8 := hid (RS_7.out.later d8)
          have OX_8 := hid (OX_7.out.later d8)
          have RX_8 := hid (RX_7.out.later d8)
          have OG_8 := hid (OG_7.out.later d8)
          have RG_8 := hid (RG_7.out.later d8)
          have E3_8 : Below w3.heap.size w3 w8 := E3_7.trans (d8.mono E3_7.size)
          clear d8 b8 RS_7 OX_7 RX_7 OG_7 RG_7 E3_7
          go_wp2_with fail
          refine (markGraph_all _ (toK la) 1 (Span w3.heap.size w4.heap.size) _ OX_8.out (by omega) (by omega)).mono ?_
          rintro e w9 ⟨rfl, _, hn⟩
          have c9 : Below w.heap.size w w9 := c8.trans (hn.below (fun b hb => by have := hb.1; have := HCX.out; omega) (by have := c8.size; omega))
          have z9 := hn.size
          have h_a := hn.block (w.heap.size) (by have := al_8; omega) (fun q => by have := q.1; have := HCX.out; omega)
          have a0_9 := (World.cell?_of_block (a := ⟨w.heap.size, 0, none⟩) h_a).trans a0_8
          have al_9 : w.heap.size < w9.heap.size := by have := al_8; omega
          clear h_a a0_8 al_8
          have h_o := hn.block (w.heap.size + 1) (by have := ol_8; omega) (fun q => by have := q.1; have := HCX.out; omega)
          have o0_9 := (World.cell?_of_block (a := ⟨w.heap.size + 1, 0, none⟩) h_o).trans o0_8
          have o1_9 := (World.cell?_of_block (a := ⟨w.heap.size + 1, 1, none⟩) h_o).trans o1_8
          have o2_9 := (World.cell?_of_block (a := ⟨w.heap.size + 1, 2, none⟩) h_o).trans o2_8
          have o3_9 := (World.cell?_of_block (a := ⟨w.heap.size + 1, 3, none⟩) h_o).trans o3_8
          have ol_9 : w.heap.size + 1 < w9.heap.size := by have := ol_8; omega
          clear h_o o0_8 o1_8 o2_8 o3_8 ol_8
          have h_s := hn.block (Bs) (by have := sl_8; omega) (fun q => by have := q.1; have := HSL.out; omega)
          have s0_9 := (World.cell?_of_block (a := ⟨Bs, 0, none⟩) h_s).trans s0_8
          have sl_9 : Bs < w9.heap.size := by have := sl_8; omega
          clear h_s s0_8 sl_8
          have h_x := hn.block (w4.heap.size) (by have := xl_8; omega) (fun q => by have := q.2; omega)
          have x0_9 := (World.cell?_of_block (a := ⟨w4.heap.size, 0, none⟩) h_x).trans x0_8
          have xl_9 : w4.heap.size < w9.heap.size := by have := xl_8; omega
          clear h_x x0_8 xl_8
          have h_g := hn.block (Bg) (by have := gl_8; omega) (fun q => by have := q.2; have := HGL.out; have := HGX.out; omega)
          have g0_9 := (World.cell?_of_block (a := ⟨Bg, 0, none⟩) h_g).trans g0_8
          have gl_9 : Bg < w9.heap.size := by have := gl_8; omega
          clear h_g g0_8 gl_8
          have E3_9 : Below w3.heap.size w3 w9 := E3_8.trans (hn.below (fun b hb => hb.1) E3_8.size)
          have RS_9 := hid (HRS.out.later E3_9)
          have OG_9 := hid (OG_8.out.only hn (fun b hb _ hc => by have := (HFF.out b hb).1; have := hc.2; have := HGX.out; omega))
          have RG_9 := hid (rdG_of_rdM (OG_9.out.rd (by decide) (by decide)))
          clear hn OX_8 RX_8 RS_8 OG_8 RG_8 E3_8
          obtain ⟨kx, hkx⟩ : ∃ z : Int, 1 + cntM 1 (toK la) = z := ⟨_, rfl⟩
          have hkn : ¬ (kx < 0) := by omega
          rw [hkx]
          clear hkx
          go_wp2_with fail
          refine (eqGraph_is RG_9.out RS_9.out).mono ?_
          rintro e w10 ⟨rfl, b10⟩
          have d10 : Below w9.heap.size w9 w10 := (Below.trans (by go_grown) (b10.mono (by first | omega | (simp; done) | (simp; omega))))
          have c10 : Below w.heap.size w w10 := c9.trans (d10.mono c9.size)
          have a0_10 : w10.cell? ⟨w.heap.size, 0, none⟩ = some (.slice ao la.length cap) := (by rw [b10.cell (by first | omega | (simp; done) | (simp; omega))]; go_cell)
          have al_10 : w.heap.size < w10.heap.size := (by have := b10.size; first | omega | (revert this; simp; done) | (revert this; simp; omega))
          have o0_10 : w10.cell? ⟨w.heap.size + 1, 0, none⟩ = some (.int .i64 k) := (by rw [b10.cell (by first | omega | (simp; done) | (simp; omega))]; go_cell)
          have o1_10 : w10.cell? ⟨w.heap.size + 1, 1, none⟩ = some (.int .i64 a) := (by rw [b10.cell (by first | omega | (simp; done) | (simp; omega))]; go_cell)
          have o2_10 : w10.cell? ⟨w.heap.size + 1, 2, none⟩ = some (.int .i64 b) := (by rw [b10.cell (by first | omega | (simp; done) | (simp; omega))]; go_cell)
          have o3_10 : w10.cell? ⟨w.heap.size + 1, 3, none⟩ = some (.int .i64 n) := (by rw [b10.cell (by first | omega | (simp; done) | (simp; omega))]; go_cell)
          have ol_10 : w.heap.size + 1 < w10.heap.size := (by have := b10.size; first | omega | (revert this; simp; done) | (revert this; simp; omega))
          have s0_10 : w10.cell? ⟨Bs, 0, none⟩ = some (.slice so M.length sc) := (by rw [b10.cell (by first | omega | (simp; done) | (simp; omega))]; go_cell)
          have sl_10 : Bs < w10.heap.size := (by have := b10.size; first | omega | (revert this; simp; done) | (revert this; simp; omega))
          have g0_10 : w10.cell? ⟨Bg, 0, none⟩ = some (.slice go M.length gc) := (by rw [b10.cell (by first | omega | (simp; done) | (simp; omega))]; go_cell)
          have gl_10 : Bg < w10.heap.size := (by have := b10.size; first | omega | (revert this; simp; done) | (revert this; simp; omega))
          clear a0_9 al_9 o0_9 o1_9 o2_9 o3_9 ol_9 s0_9 sl_9 g0_9 gl_9
          have RS_10 := hid (RS_9.out.later d10)
          have OG_10 := hid (OG_9.out.later d10)
          have RG_10 := hid (RG_9.out.later d10)
          have E3_10 : Below w3.heap.size w3 w10 := E3_9.trans (d10.mono E3_9.size)
          clear d10 b10 RS_9 OG_9 RG_9 E3_9
          clear RG_10
          go_wp2_with fail
          refine (markGraph_all _ (toK M) 1 F _ OG_10.out (by omega) (by omega)).mono ?_
          rintro e w11 ⟨rfl, hog, hn⟩
          have c11 : Below w.heap.size w w11 := c10.trans (hn.below (fun b hb => by have := (HFF.out b hb).1; have := HCV.out; omega) (by have := c10.size; omega))
          have z11 := hn.size
          have h_a := hn.block (w.heap.size) (by have := al_10; omega) (fun q => by have := (HFF.out _ q).1; have := HCV.out; omega)
          have a0_11 := (World.cell?_of_block (a := ⟨w.heap.size, 0, none⟩) h_a).trans a0_10
          have al_11 : w.heap.size < w11.heap.size := by have := al_10; omega
          clear h_a a0_10 al_10
          have h_o := hn.block (w.heap.size + 1) (by have := ol_10; omega) (fun q => by have := (HFF.out _ q).1; have := HCV.out; omega)
          have o0_11 := (World.cell?_of_block (a := ⟨w.heap.size + 1, 0, none⟩) h_o).trans o0_10
          have o1_11 := (World.cell?_of_block (a := ⟨w.heap.size + 1, 1, none⟩) h_o).trans o1_10
          have o2_11 := (World.cell?_of_block (a := ⟨w.heap.size + 1, 2, none⟩) h_o).trans o2_10
          have o3_11 := (World.cell?_of_block (a := ⟨w.heap.size + 1, 3, none⟩) h_o).trans o3_10
          have ol_11 : w.heap.size + 1 < w11.heap.size := by have := ol_10; omega
          clear h_o o0_10 o1_10 o2_10 o3_10 ol_10
          have h_s := hn.block (Bs) (by have := sl_10; omega) (fun q => by have := (HFF.out _ q).1; have := HSL.out; have := HGX.out; have := E34.out; omega)
          have s0_11 := (World.cell?_of_block (a := ⟨Bs, 0, none⟩) h_s).trans s0_10
          have sl_11 : Bs < w11.heap.size := by have := sl_10; omega
          clear h_s s0_10 sl_10
          have h_g := hn.block (Bg) (by have := gl_10; omega) (fun q => (HFF.out _ q).2.2 rfl)
          have g0_11 := (World.cell?_of_block (a := ⟨Bg, 0, none⟩) h_g).trans g0_10
          have gl_11 : Bg < w11.heap.size := by have := gl_10; omega
          clear h_g g0_10 gl_10
          have E3_11 : Below w3.heap.size w3 w11 := E3_10.trans (hn.below (fun b hb => by have := (HFF.out b hb).1; have := HGX.out; have := E34.out; omega) E3_10.size)
          have RS_11 := hid (HRS.out.later E3_11)
          have OG_11 := hid hog
          have RM_11 := hid (hog.rd (by decide) (by decide))
          clear hn hog RS_10 OG_10 E3_10
          clear OG_11
          have HLN := hid (show ∀ i, i < (toK M).length → ((toK M).getD i kd0).1.length = 1 from fun i hi => by rw [toK_length] at hi; rw [toK_get M i hi]; rfl)
          obtain ⟨km, hkm⟩ : ∃ z : Int, 1 + cntM 1 (toK M) = z := ⟨_, rfl⟩
          have hkp : ¬ (km < 0) := by omega
          have HG1 := fun (W : World) (v : Value) (h : RdM 2 1 true W v (relM 1 1 (toK M))) => heldGraph_all v (toK M) 1 W h HLN.out (by omega) (by omega)
          rw [hkm] at HG1 ⊢
          clear hkm
          go_wp2_with fail
          refine (HG1 _ _ RM_11.out).mono ?_
          rintro e w12 ⟨rfl, b12⟩
          have d12 : Below w11.heap.size w11 w12 := (Below.trans (by go_grown) (b12.mono (by first | omega | (simp; done) | (simp; omega))))
          have c12 : Below w.heap.size w w12 := c11.trans (d12.mono c11.size)
          have a0_12 : w12.cell? ⟨w.heap.size, 0, none⟩ = some (.slice ao la.length cap) := (by rw [b12.cell (by first | omega | (simp; done) | (simp; omega))]; go_cell)
          have al_12 : w.heap.size < w12.heap.size := (by have := b12.size; first | omega | (revert this; simp; done) | (revert this; simp; omega))
          have o0_12 : w12.cell? ⟨w.heap.size + 1, 0, none⟩ = some (.int .i64 k) := (by rw [b12.cell (by first | omega | (simp; done) | (simp; omega))]; go_cell)
          have o1_12 : w12.cell? ⟨w.heap.size + 1, 1, none⟩ = some (.int .i64 a) := (by rw [b12.cell (by first | omega | (simp; done) | (simp; omega))]; go_cell)
          have o2_12 : w12.cell? ⟨w.heap.size + 1, 2, none⟩ = some (.int .i64 b) := (by rw [b12.cell (by first | omega | (simp; done) | (simp; omega))]; go_cell)
          have o3_12 : w12.cell? ⟨w.heap.size + 1, 3, none⟩ = some (.int .i64 n) := (by rw [b12.cell (by first | omega | (simp; done) | (simp; omega))]; go_cell)
          have ol_12 : w.heap.size + 1 < w12.heap.size := (by have := b12.size; first | omega | (revert this; simp; done) | (revert this; simp; omega))
          have s0_12 : w12.cell? ⟨Bs, 0, none⟩ = some (.slice so M.length sc) := (by rw [b12.cell (by first | omega | (simp; done) | (simp; omega))]; go_cell)
          have sl_12 : Bs < w12.heap.size := (by have := b12.size; first | omega | (revert this; simp; done) | (revert this; simp; omega))
          have g0_12 : w12.cell? ⟨Bg, 0, none⟩ = some (.slice go M.length gc) := (by rw [b12.cell (by first | omega | (simp; done) | (simp; omega))]; go_cell)
          have gl_12 : Bg < w12.heap.size := (by have := b12.size; first | omega | (revert this; simp; done) | (revert this; simp; omega))
          clear a0_11 al_11 o0_11 o1_11 o2_11 o3_11 ol_11 s0_11 sl_11 g0_11 gl_11
          have RS_12 := hid (RS_11.out.later d12)
          have RM_12 := hid (RM_11.out.later d12)
          have E3_12 : Below w3.heap.size w3 w12 := E3_11.trans (d12.mono E3_11.size)
          clear d12 b12 RS_11 RM_11 E3_11
          go_upto_region 24 with fail
          go_cut [14, 15] from 79 (fun s1 s2 wx => GrS w12 M c s1 s2 wx)
          case first =>
            go_region_with (first
              | (go_at_call 17; refine (toGraph_g (.slice ao la.length cap) la _ (HA.out.later (Below.trans c12 (Below.mono (by go_grown) c12.size))) hla HBA.out).mono ?_; rintro e w50 ⟨⟨o50, c50, rfl, _, hr50⟩, b50⟩; (first | with_reducible have V50 := VarW.drawn b50 | skip); have d50 : Below w12.heap.size w12 w50 := (Below.trans (by go_grown) (b50.mono (by first | omega | (simp; done) | (simp; omega)))); have c50 : Below w.heap.size w w50 := c12.trans (d50.mono c12.size); have o0_50 : w50.cell? ⟨w.heap.size + 1, 0, none⟩ = some (.int .i64 k) := (by rw [b50.cell (by first | omega | (simp; done) | (simp; omega))]; go_cell); have o1_50 : w50.cell? ⟨w.heap.size + 1, 1, none⟩ = some (.int .i64 a) := (by rw [b50.cell (by first | omega | (simp; done) | (simp; omega))]; go_cell); have o2_50 : w50.cell? ⟨w.heap.size + 1, 2, none⟩ = some (.int .i64 b) := (by rw [b50.cell (by first | omega | (simp; done) | (simp; omega))]; go_cell); have o3_50 : w50.cell? ⟨w.heap.size + 1, 3, none⟩ = some (.int .i64 n) := (by rw [b50.cell (by first | omega | (simp; done) | (simp; omega))]; go_cell); have ol_50 : w.heap.size + 1 < w50.heap.size := (by have := b50.size; first | omega | (revert this; simp; done) | (revert this; simp; omega)); clear o0_12 o1_12 o2_12 o3_12 ol_12; have R50 := hid hr50; clear hr50)
              | (go_at_call 18; refine (toOp_any k a b n _).mono ?_; rintro e w51 ⟨rfl, b51⟩; (first | with_reducible have V51 := VarW.past b51 | skip); have d51 : Below w50.heap.size w50 w51 := (Below.trans (by go_grown) (b51.mono (by first | omega | (simp; done) | (simp; omega)))); have c51 : Below w.heap.size w w51 := c50.trans (d51.mono c50.size); (first | with_reducible have V51 := VarW.later V50 d51 | skip); have R51 := hid (R50.out.later d51))
              | (go_at_call 8; refine (ID _ _ (R51.out.later (by go_grown))).mono ?_; rintro e w52 ⟨⟨o52, c52, rfl, hf, _⟩, b52⟩; (first | (with_reducible have V52 := VarW.past b52; have y0 := V52.c0; have y1 := V52.f0; have y2 := V52.lt) | skip); have d52 : Below w51.heap.size w51 w52 := (Below.trans (by go_grown) (b52.mono (by first | omega | (simp; done) | (simp; omega)))); have c52 : Below w.heap.size w w52 := c51.trans (d52.mono c51.size); (first | (with_reducible have V52 := VarW.later V51 d52; have y0 := V52.c0; have y1 := V52.f0; have y2 := V52.lt) | skip); have F52 := hid hf; clear hf))
            all_goals
              go_wp2_with fail
              go_meet
              have e52 := (d50.trans (d51.mono d50.size)).trans (d52.mono (Nat.le_trans d50.size d51.size))
              have t50 := d50.size
              have t51 := d51.size
              try have q51 := V51.lt
              try have q50 := V50.lt
              first
                | (with_reducible exact GrS.of_new F52.out e52)
                | (with_reducible refine GrS.of_set V52 F52.out e52 ?_ ?_ <;> first | omega | (simp; done) | (simp; omega) | trace_state)
          case rest =>
            obtain ⟨Bh, ho, hc, rfl, rfl, hh0, hh1, q0, hrd, b13⟩ := hcut
            obtain ⟨w13, hw13⟩ : ∃ y, y = wc := ⟨_, rfl⟩
            subst hw13
            have d13 : Below w12.heap.size w12 w13 := (Below.trans (by go_grown) (b13.mono (by first | omega | (simp; done) | (simp; omega))))
            have c13 : Below w.heap.size w w13 := c12.trans (d13.mono c12.size)
            have a0_13 : w13.cell? ⟨w.heap.size, 0, none⟩ = some (.slice ao la.length cap) := (by rw [b13.cell (by first | omega | (simp; done) | (simp; omega))]; go_cell)
            have al_13 : w.heap.size < w13.heap.size := (by have := b13.size; first | omega | (revert this; simp; done) | (revert this; simp; omega))
            have o0_13 : w13.cell? ⟨w.heap.size + 1, 0, none⟩ = some (.int .i64 k) := (by rw [b13.cell (by first | omega | (simp; done) | (simp; omega))]; go_cell)
            have o1_13 : w13.cell? ⟨w.heap.size + 1, 1, none⟩ = some (.int .i64 a) := (by rw [b13.cell (by first | omega | (simp; done) | (simp; omega))]; go_cell)
            have o2_13 : w13.cell? ⟨w.heap.size + 1, 2, none⟩ = some (.int .i64 b) := (by rw [b13.cell (by first | omega | (simp; done) | (simp; omega))]; go_cell)
            have o3_13 : w13.cell? ⟨w.heap.size + 1, 3, none⟩ = some (.int .i64 n) := (by rw [b13.cell (by first | omega | (simp; done) | (simp; omega))]; go_cell)
            have ol_13 : w.heap.size + 1 < w13.heap.size := (by have := b13.size; first | omega | (revert this; simp; done) | (revert this; simp; omega))
            have s0_13 : w13.cell? ⟨Bs, 0, none⟩ = some (.slice so M.length sc) := (by rw [b13.cell (by first | omega | (simp; done) | (simp; omega))]; go_cell)
            have sl_13 : Bs < w13.heap.size := (by have := b13.size; first | omega | (revert this; simp; done) | (revert this; simp; omega))
            have g0_13 : w13.cell? ⟨Bg, 0, none⟩ = some (.slice go M.length gc) := (by rw [b13.cell (by first | omega | (simp; done) | (simp; omega))]; go_cell)
            have gl_13 : Bg < w13.heap.size := (by have := b13.size; first | omega | (revert this; simp; done) | (revert this; simp; omega))
            clear a0_12 al_12 o0_12 o1_12 o2_12 o3_12 ol_12 s0_12 sl_12 g0_12 gl_12
            have RS_13 := hid (RS_12.out.later d13)
            have RM_13 := hid (RM_12.out.later d13)
            have E3_13 : Below w3.heap.size w3 w13 := E3_12.trans (d13.mono E3_12.size)
            clear d13 b13 RS_12 RM_12 E3_12
            have h0_13 := q0
            have hl_13 := hh1
            clear q0 hh1
            have RH_13 := hid hrd
            clear hrd
            go_wp2_with fail
            refine (eqGraph_is RH_13.out RS_13.out).mono ?_
            rintro e w14 ⟨rfl, b14⟩
            have d14 : Below w13.heap.size w13 w14 := (Below.trans (by go_grown) (b14.mono (by first | omega | (simp; done) | (simp; omega))))
            have c14 : Below w.heap.size w w14 := c13.trans (d14.mono c13.size)
            have a0_14 : w14.cell? ⟨w.heap.size, 0, none⟩ = some (.slice ao la.length cap) := (by rw [b14.cell (by first | omega | (simp; done) | (simp; omega))]; go_cell)
            have al_14 : w.heap.size < w14.heap.size := (by have := b14.size; first | omega | (revert this; simp; done) | (revert this; simp; omega))
            have o0_14 : w14.cell? ⟨w.heap.size + 1, 0, none⟩ = some (.int .i64 k) := (by rw [b14.cell (by first | omega | (simp; done) | (simp; omega))]; go_cell)
            have o1_14 : w14.cell? ⟨w.heap.size + 1, 1, none⟩ = some (.int .i64 a) := (by rw [b14.cell (by first | omega | (simp; done) | (simp; omega))]; go_cell)
            have o2_14 : w14.cell? ⟨w.heap.size + 1, 2, none⟩ = some (.int .i64 b) := (by rw [b14.cell (by first | omega | (simp; done) | (simp; omega))]; go_cell)
            have o3_14 : w14.cell? ⟨w.heap.size + 1, 3, none⟩ = some (.int .i64 n) := (by rw [b14.cell (by first | omega | (simp; done) | (simp; omega))]; go_cell)
            have ol_14 : w.heap.size + 1 < w14.heap.size := (by have := b14.size; first | omega | (revert this; simp; done) | (revert this; simp; omega))
            have s0_14 : w14.cell? ⟨Bs, 0, none⟩ = some (.slice so M.length sc) := (by rw [b14.cell (by first | omega | (simp; done) | (simp; omega))]; go_cell)
            have sl_14 : Bs < w14.heap.size := (by have := b14.size; first | omega | (revert this; simp; done) | (revert this; simp; omega))
            have g0_14 : w14.cell? ⟨Bg, 0, none⟩ = some (.slice go M.length gc) := (by rw [b14.cell (by first | omega | (simp; done) | (simp; omega))]; go_cell)
            have gl_14 : Bg < w14.heap.size := (by have := b14.size; first | omega | (revert this; simp; done) | (revert this; simp; omega))
            have h0_14 : w14.cell? ⟨Bh, 0, none⟩ = some (.slice ho M.length hc) := (by rw [b14.cell (by first | omega | (simp; done) | (simp; omega))]; go_cell)
            have hl_14 : Bh < w14.heap.size := (by have := b14.size; first | omega | (revert this; simp; done) | (revert this; simp; omega))
            clear a0_13 al_13 o0_13 o1_13 o2_13 o3_13 ol_13 s0_13 sl_13 g0_13 gl_13 h0_13 hl_13
            have RS_14 := hid (RS_13.out.later d14)
            have RM_14 := hid (RM_13.out.later d14)
            have RH_14 := hid (RH_13.out.later d14)
            have E3_14 : Below w3.heap.size w3 w14 := E3_13.trans (d14.mono E3_13.size)
            clear d14 b14 RS_13 RM_13 RH_13 E3_13
            go_wp2_with fail
            refine (HG1 _ _ RM_14.out).mono ?_
            rintro e w15 ⟨rfl, b15⟩
            have d15 : Below w14.heap.size w14 w15 := (Below.trans (by go_grown) (b15.mono (by first | omega | (simp; done) | (simp; omega))))
            have c15 : Below w.heap.size w w15 := c14.trans (d15.mono c14.size)
            have a0_15 : w15.cell? ⟨w.heap.size, 0, none⟩ = some (.slice ao la.length cap) := (by rw [b15.cell (by first | omega | (simp; done) | (simp; omega))]; go_cell)
            have al_15 : w.heap.size < w15.heap.size := (by have := b15.size; first | omega | (revert this; simp; done) | (revert this; simp; omega))
            have o0_15 : w15.cell? ⟨w.heap.size + 1, 0, none⟩ = some (.int .i64 k) := (by rw [b15.cell (by first | omega | (simp; done) | (simp; omega))]; go_cell)
            have o1_15 : w15.cell? ⟨w.heap.size + 1, 1, none⟩ = some (.int .i64 a) := (by rw [b15.cell (by first | omega | (simp; done) | (simp; omega))]; go_cell)
            have o2_15 : w15.cell? ⟨w.heap.size + 1, 2, none⟩ = some (.int .i64 b) := (by rw [b15.cell (by first | omega | (simp; done) | (simp; omega))]; go_cell)
            have o3_15 : w15.cell? ⟨w.heap.size + 1, 3, none⟩ = some (.int .i64 n) := (by rw [b15.cell (by first | omega | (simp; done) | (simp; omega))]; go_cell)
            have ol_15 : w.heap.size + 1 < w15.heap.size := (by have := b15.size; first | omega | (revert this; simp; done) | (revert this; simp; omega))
            have s0_15 : w15.cell? ⟨Bs, 0, none⟩ = some (.slice so M.length sc) := (by rw [b15.cell (by first | omega | (simp; done) | (simp; omega))]; go_cell)
            have sl_15 : Bs < w15.heap.size := (by have := b15.size; first | omega | (revert this; simp; done) | (revert this; simp; omega))
            have g0_15 : w15.cell? ⟨Bg, 0, none⟩ = some (.slice go M.length gc) := (by rw [b15.cell (by first | omega | (simp; done) | (simp; omega))]; go_cell)
            have gl_15 : Bg < w15.heap.size := (by have := b15.size; first | omega | (revert this; simp; done) | (revert this; simp; omega))
            have h0_15 : w15.cell? ⟨Bh, 0, none⟩ = some (.slice ho M.length hc) := (by rw [b15.cell (by first | omega | (simp; done) | (simp; omega))]; go_cell)
            have hl_15 : Bh < w15.heap.size := (by have := b15.size; first | omega | (revert this; simp; done) | (revert this; simp; omega))
            clear a0_14 al_14 o0_14 o1_14 o2_14 o3_14 ol_14 s0_14 sl_14 g0_14 gl_14 h0_14 hl_14
            have RS_15 := hid (RS_14.out.later d15)
            have RM_15 := hid (RM_14.out.later d15)
            have RH_15 := hid (RH_14.out.later d15)
            have E3_15 : Below w3.heap.size w3 w15 := E3_14.trans (d15.mono E3_14.size)
            clear d15 b15 RS_14 RM_14 RH_14 E3_14
            go_wp2
            go_ret
            exact ⟨by simp, c15⟩
  · go_wp2
    go_ret
    exact ⟨by simp, c2⟩
end Go.Proofs.YtkmhnjgncnoddaaGreat

/- Part: An argument that is a slice of edges reads as a list of pairs. -/
namespace Go.Proofs.YtkmhnjgncnoddaaGreat
open Go.ChangeShapes Go.WideShapes Go.ChangeAt Go.RowKit Go.Deep

theorem Tryz.own : ownKnob Tryz.prog.godebug = none := by kernel_rfl
theorem Tryz.laidOut : laidOutB Tryz.prog = true := by kernel_rfl
theorem Tryz.cells247 : Tryz.prog.cellsOf 247 = 2 := by kernel_rfl
theorem Tryz.cells3 : Tryz.prog.cellsOf 3 = 1 := by kernel_rfl

set_option maxRecDepth 100000 in
theorem rd_of {H : Type} {enc : TypeId × Value → H} {W : World} {base : Nat} {v : Value} {d : DataW H} {p : List MemPlace} (hv : Value.okWide Tryz.prog W .any base 149 v)
    (h : DataW.Trod enc Tryz.prog W 0 (fun _ => true) true 149 v d p) (hlt : ∀ x ∈ p, x.block < W.heap.size) : ∃ l, Rd W v l := by
  obtain ⟨a0, len, cap, rfl⟩ := okWide_slice Tryz.underlying149 hv
  obtain ⟨fuel, hf⟩ := h
  rcases open_slice_pairs Tryz.underlying149 Tryz.underlying247 Tryz.cells247 rfl rfl Tryz.cells3 Tryz.cells3 hf with ⟨hcs, _⟩ | ⟨a, len', cap', m, n, V0, V1, D0, D1, P0, P1, hcs, _, hlc, hcm, hm, hx, hcell⟩
  · simp [Value.cells] at hcs
    obtain ⟨rfl, rfl, rfl⟩ := hcs
    exact ⟨[], Rd.nil W none 0⟩
  · simp [Value.cells] at hcs
    obtain ⟨rfl, rfl, rfl⟩ := hcs
    simp only [if_true] at hm
    subst hm
    have num : ∀ (t : Value) (x : DataW H × List MemPlace), DataW.trod enc Tryz.prog W 0 (fun _ => true) true n 3 [t] = some x → ∃ z, t = .int .i64 z := by
      intro t x hx
      obtain ⟨z, hz, _⟩ := DataW.trod_int Tryz.underlying3 hx
      exact ⟨z, by simpa using hz⟩
    let N : Value → Int := fun t => match t with | .int _ z => z | _ => 0
    refine ⟨(List.range len).map fun i => (N (V0 i), N (V1 i)), some a, _, by simp; rfl, by simp only [List.length_map, List.length_range]; omega, fun h0 => ?_⟩
    simp only [List.length_map, List.length_range] at h0 ⊢
    obtain ⟨b, off, spot⟩ := a
    have hs : spot = none := by
      have := (hcell 0 (by omega)).1
      simpa [Addr.add] using World.cell?_spot this
    subst hs
    refine ⟨b, off, rfl, ?_, fun i hi => ?_⟩
    · simp only [Prod.mk.injEq] at hx
      have := hlt (.cell b off) (by rw [hx.2]; exact List.mem_append_left _ (MemPlace.mem_row.2 ⟨0, by omega, by simp⟩))
      exact this
    · obtain ⟨c0, c1, t0, t1⟩ := hcell i (by omega)
      obtain ⟨z0, e0⟩ := num _ _ t0
      obtain ⟨z1, e1⟩ := num _ _ t1
      rw [add_plain] at c0 c1
      have hg : ((List.range len).map fun i => (N (V0 i), N (V1 i))).getD i (0, 0) = (z0, z1) := by
        simp [List.getD_eq_getElem?_getD, hi, e0, e1, N]
      rw [hg]
      exact ⟨by rw [c0, e0], by rw [show off + i * 2 + 1 = off + (i * 2 + 1) from by omega, c1, e1]⟩
end Go.Proofs.YtkmhnjgncnoddaaGreat

/- Part: An argument that is a value (a number and a slice of edges). -/
namespace Go.Proofs.YtkmhnjgncnoddaaGreat
open Go.ChangeShapes Go.WideShapes Go.ChangeAt Go.RowKit Go.Deep Go.Joins

theorem Tryz.cells151 : Tryz.prog.cellsOf 151 = 2 := by kernel_rfl

set_option maxRecDepth 100000 in
theorem rd_of_trod {H : Type} {enc : TypeId × Value → H} {W : World} {v : Value} {d : DataW H} {p : List MemPlace} {fuel : Nat}
    (hf : DataW.trod enc Tryz.prog W 0 (fun _ => true) true fuel 149 [v] = some (d, p)) (hlt : ∀ x ∈ p, x.block < W.heap.size) : ∃ l, Rd W v l := by
  rcases open_slice_pairs Tryz.underlying149 Tryz.underlying247 Tryz.cells247 rfl rfl Tryz.cells3 Tryz.cells3 hf with ⟨hcs, _⟩ | ⟨a, len', cap', m, n, V0, V1, D0, D1, P0, P1, hcs, _, hlc, hcm, hm, hx, hcell⟩
  · simp at hcs
    subst hcs
    exact ⟨[], Rd.nil W none 0⟩
  · simp at hcs
    subst hcs
    simp only [if_true] at hm
    subst hm
    have num : ∀ (t : Value) (x : DataW H × List MemPlace), DataW.trod enc Tryz.prog W 0 (fun _ => true) true n 3 [t] = some x → ∃ z, t = .int .i64 z := by
      intro t x hx
      obtain ⟨z, hz, _⟩ := DataW.trod_int Tryz.underlying3 hx
      exact ⟨z, by simpa using hz⟩
    let N : Value → Int := fun t => match t with | .int _ z => z | _ => 0
    refine ⟨(List.range len').map fun i => (N (V0 i), N (V1 i)), some a, _, by simp; rfl, by simp only [List.length_map, List.length_range]; omega, fun h0 => ?_⟩
    simp only [List.length_map, List.length_range] at h0 ⊢
    obtain ⟨b, off, spot⟩ := a
    have hs : spot = none := by
      have := (hcell 0 (by omega)).1
      simpa [Addr.add] using World.cell?_spot this
    subst hs
    refine ⟨b, off, rfl, ?_, fun i hi => ?_⟩
    · simp only [Prod.mk.injEq] at hx
      have := hlt (.cell b off) (by rw [hx.2]; exact List.mem_append_left _ (MemPlace.mem_row.2 ⟨0, by omega, by simp⟩))
      exact this
    · obtain ⟨c0, c1, t0, t1⟩ := hcell i (by omega)
      obtain ⟨z0, e0⟩ := num _ _ t0
      obtain ⟨z1, e1⟩ := num _ _ t1
      rw [add_plain] at c0 c1
      have hg : ((List.range len').map fun i => (N (V0 i), N (V1 i))).getD i (0, 0) = (z0, z1) := by
        simp [List.getD_eq_getElem?_getD, hi, e0, e1, N]
      rw [hg]
      exact ⟨by rw [c0, e0], by rw [show off + i * 2 + 1 = off + (i * 2 + 1) from by omega, c1, e1]⟩

set_option maxRecDepth 100000 in
theorem val_of {H : Type} {enc : TypeId × Value → H} {W : World} {base : Nat} {v : Value} {d : DataW H} {p : List MemPlace} (hv : Value.okWide Tryz.prog W .any base 151 v)
    (h : DataW.Trod enc Tryz.prog W 0 (fun _ => true) true 151 v d p) (hlt : ∀ x ∈ p, x.block < W.heap.size) : ∃ n u l, v = .agg #[.int .i64 n, u] ∧ Rd W u l := by
  obtain ⟨v0, v1, y0, y1, n, rfl, rfl, rfl, h0, h1⟩ := open_agg2 Tryz.underlying151 (by kernel_rfl) Tryz.cells151 hv h
  obtain ⟨z, hz, _⟩ := DataW.trod_int Tryz.underlying3 h0
  have hz' : v0 = .int .i64 z := by simpa using hz
  obtain ⟨d1, p1⟩ := y1
  obtain ⟨l, hl⟩ := rd_of_trod h1 (fun x hx => hlt x (List.mem_append_right _ hx))
  exact ⟨z, v1, l, by rw [hz'], hl⟩
end Go.Proofs.YtkmhnjgncnoddaaGreat

/- Part: An argument that is a graph (a slice of values). -/
namespace Go.Proofs.YtkmhnjgncnoddaaGreat
open Go.ChangeShapes Go.WideShapes Go.ChangeAt Go.RowKit Go.Deep Go.Joins

theorem Tryz.cells42 : Tryz.prog.cellsOf 42 = 1 := by kernel_rfl
theorem Tryz.cells149 : Tryz.prog.cellsOf 149 = 1 := by kernel_rfl
theorem Tryz.cells40 : Tryz.prog.cellsOf 40 = 1 := by kernel_rfl

set_option maxRecDepth 100000 in
theorem rdG_of_trod {H : Type} {enc : TypeId × Value → H} {W : World} {v : Value} {d : DataW H} {p : List MemPlace} {fuel : Nat}
    (hf : DataW.trod enc Tryz.prog W 0 (fun _ => true) true fuel 40 [v] = some (d, p)) (hlt : ∀ x ∈ p, x.block < W.heap.size) : ∃ L, RdG W v L := by
  rcases open_slice_pairs Tryz.underlying40 Tryz.underlying151 Tryz.cells151 rfl rfl Tryz.cells3 Tryz.cells149 hf with ⟨hcs, _⟩ | ⟨a, len', cap', m, n, V0, V1, D0, D1, P0, P1, hcs, _, hlc, hcm, hm, hx, hcell⟩
  · simp at hcs
    subst hcs
    exact ⟨[], RdG.nil W none 0⟩
  · simp at hcs
    subst hcs
    simp only [if_true] at hm
    subst hm
    simp only [Prod.mk.injEq] at hx
    have num : ∀ (t : Value) (x : DataW H × List MemPlace), DataW.trod enc Tryz.prog W 0 (fun _ => true) true n 3 [t] = some x → ∃ z, t = .int .i64 z := by
      intro t x hx
      obtain ⟨z, hz, _⟩ := DataW.trod_int Tryz.underlying3 hx
      exact ⟨z, by simpa using hz⟩
    have each : ∀ i, i < m → ∃ q : ValD, V0 i = .int .i64 q.1 ∧ Rd W (V1 i) q.2 := by
      intro i hi
      obtain ⟨_, _, t0, t1⟩ := hcell i (by omega)
      obtain ⟨z, hz⟩ := num _ _ t0
      obtain ⟨l, hl⟩ := rd_of_trod t1 (fun x hx1 => hlt x (by
        rw [hx.2]
        refine List.mem_append_right _ (List.mem_flatMap.2 ⟨i, List.mem_range.2 (by omega), List.mem_append_right _ hx1⟩)))
      exact ⟨(z, l), hz, hl⟩
    let N : Nat → ValD := fun i => if h : i < m then (each i h).choose else valD0
    have hN : ∀ i (h : i < m), V0 i = .int .i64 (N i).1 ∧ Rd W (V1 i) (N i).2 := fun i h => by
      have := (each i h).choose_spec
      simp only [N, dif_pos h]
      exact this
    refine ⟨(List.range len').map N, some a, _, by simp; rfl, by simp only [List.length_map, List.length_range]; omega, fun h0 => ?_⟩
    simp only [List.length_map, List.length_range] at h0 ⊢
    obtain ⟨b, off, spot⟩ := a
    have hs : spot = none := by
      have := (hcell 0 (by omega)).1
      simpa [Addr.add] using World.cell?_spot this
    subst hs
    refine ⟨b, off, rfl, ?_, fun i hi => ?_⟩
    · have := hlt (.cell b off) (by rw [hx.2]; exact List.mem_append_left _ (MemPlace.mem_row.2 ⟨0, by omega, by simp⟩))
      exact this
    · obtain ⟨c0, c1, _, _⟩ := hcell i (by omega)
      rw [add_plain] at c0 c1
      have hg : ((List.range len').map N).getD i valD0 = N i := by
        simp [List.getD_eq_getElem?_getD, hi]
      rw [hg]
      obtain ⟨e0, e1⟩ := hN i (by omega)
      exact ⟨by rw [c0, e0], _, by rw [show off + i * 2 + 1 = off + (i * 2 + 1) from by omega, c1], e1⟩

set_option maxRecDepth 100000 in
theorem graph_of {H : Type} {enc : TypeId × Value → H} {W : World} {base : Nat} {v : Value} {d : DataW H} {p : List MemPlace} (hv : Value.okWide Tryz.prog W .any base 42 v)
    (h : DataW.Trod enc Tryz.prog W 0 (fun _ => true) true 42 v d p) (hlt : ∀ x ∈ p, x.block < W.heap.size) : ∃ u L, v = .agg #[u] ∧ RdG W u L := by
  obtain ⟨cs, rfl, hsz⟩ := okWide_struct Tryz.underlying42 hv
  rw [Tryz.cells42] at hsz
  obtain ⟨c0, rfl⟩ : ∃ c, cs = #[c] := by
    obtain ⟨l⟩ := cs
    match l, hsz with
    | [c], _ => exact ⟨c, rfl⟩
  obtain ⟨fuel, hf⟩ := h
  obtain ⟨xs, n, _, hx, _, hxl, hff⟩ := DataW.trod_struct Tryz.underlying42 hf
  match xs, hxl with
  | [y0], _ =>
    have h0 := hff 0 _ rfl
    simp only [Value.cells] at h0
    obtain ⟨d0, p0⟩ := y0
    simp only [Prod.mk.injEq] at hx
    obtain ⟨L, hL⟩ := rdG_of_trod (v := c0) (d := d0) (p := p0) (by simpa [Tryz.cells40] using h0) (fun x hx1 => hlt x (by rw [hx.2]; simpa using hx1))
    exact ⟨c0, L, rfl, hL⟩
end Go.Proofs.YtkmhnjgncnoddaaGreat

/- Part: An argument that is a write (four numbers). -/
namespace Go.Proofs.YtkmhnjgncnoddaaGreat
open Go.ChangeShapes Go.WideShapes Go.ChangeAt Go.RowKit Go.Joins

theorem Tryz.cells43 : Tryz.prog.cellsOf 43 = 4 := by kernel_rfl

set_option maxRecDepth 100000 in
theorem op_of {H : Type} {enc : TypeId × Value → H} {W : World} {base : Nat} {v : Value} {d : DataW H} {p : List MemPlace} (hv : Value.okWide Tryz.prog W .any base 43 v)
    (h : DataW.Trod enc Tryz.prog W 0 (fun _ => true) true 43 v d p) : ∃ k a b n, v = .agg #[.int .i64 k, .int .i64 a, .int .i64 b, .int .i64 n] := by
  obtain ⟨v0, v1, v2, v3, y0, y1, y2, y3, n, rfl, rfl, rfl, h0, h1, h2, h3⟩ := open_agg4 Tryz.underlying43 (by kernel_rfl) Tryz.cells43 hv h
  obtain ⟨z0, e0, _⟩ := DataW.trod_int Tryz.underlying3 h0
  obtain ⟨z1, e1, _⟩ := DataW.trod_int Tryz.underlying3 h1
  obtain ⟨z2, e2, _⟩ := DataW.trod_int Tryz.underlying3 h2
  obtain ⟨z3, e3, _⟩ := DataW.trod_int Tryz.underlying3 h3
  simp only [List.cons.injEq, and_true] at e0 e1 e2 e3
  exact ⟨z0, z1, z2, z3, by rw [e0, e1, e2, e3]⟩
end Go.Proofs.YtkmhnjgncnoddaaGreat

/- Part: Proved here: FnExactGraphDo returns true for every graph and every write (no condition); what it was handed reads as before. -/
namespace Go.Proofs.YtkmhnjgncnoddaaGreat
open Go.ChangeShapes Go.WideShapes Go.ChangeAt Go.RowKit

set_option maxRecDepth 100000 in
theorem gDo_lifted (os : Os) (started : os.Started) (H : Type) (enc : TypeId × Value → H) :
    ReturnsInHanded {} Tryz.checked os 4 .any (Rows.fnExactGraphDoSpec.pre6 enc Tryz.prog Tryz.f4 Rows.fnExactGraphDoRow.domain false) (Rows.fnExactGraphDoSpec.post enc Tryz.prog Tryz.f4 false true false false) := by
  refine returnsInHanded_of_change (C := Tryz.checked) Tryz.own started (by kernel_rfl) Tryz.func4
    (ChangeSpec.witness6 (enc := enc) (C := Tryz.checked) false ⟨#[], #[.agg #[.slice none 0 0], .agg #[.int .i64 0, .int .i64 0, .int .i64 0, .int .i64 0]], []⟩ 8 (by kernel_rfl) (by kernel_rfl) (by kernel_rfl) (by kernel_rfl)) ?_
  intro W base args ds gs before hval0 hW _ _
  have hval : ∀ (j : Nat) t v, Tryz.f4.params[j]? = some t → args[j]? = some v → Value.okWide Tryz.prog W .any base t v := hval0
  have hW' := hW
  obtain ⟨p, q, hA0, hV, rfl, _, _⟩ := hW
  have hA : DataW.TrodAll enc Tryz.prog W 0 (fun _ => true) true Tryz.f4.params.toList args.toList ds p := hA0
  rw [Tryz.params4] at hA hval
  obtain ⟨v0, v1, d0, d1, p0, p1, rfl, rfl, rfl, h0, h1⟩ := trodAll_two hA
  obtain ⟨rfl, rfl⟩ := trodVars_none hV
  clear hA0 hval0
  simp only [List.append_nil] at hW'
  have hlt0 : ∀ x ∈ p0, x.block < W.heap.size := fun x hx => by have := hW'.lt x (by first | exact hx | (simp; first | exact hx | exact Or.inl hx | exact Or.inr hx | exact Or.inr (Or.inl hx))); exact this
  obtain ⟨u0, l0, ev0, hl0⟩ := graph_of (hval 0 42 v0 rfl rfl) h0 hlt0
  have hargs0 : ∀ (W' : World), Below W.heap.size W W' → DataW.Trod enc Tryz.prog W' 0 (fun b => decide (b < W.heap.size)) true 42 v0 d0 p0 :=
    fun W' hn => Below.trod Tryz.laidOut (by kernel_rfl) (of_decide_eq_true (by kernel_rfl)) h0 hn hlt0
  subst ev0
  have hlt1 : ∀ x ∈ p1, x.block < W.heap.size := fun x hx => by have := hW'.lt x (by first | exact hx | (simp; first | exact hx | exact Or.inl hx | exact Or.inr hx | exact Or.inr (Or.inl hx))); exact this
  obtain ⟨k1, a1, b1, m1, ev1⟩ := op_of (hval 1 43 v1 rfl rfl) h1
  have hargs1 : ∀ (W' : World), Below W.heap.size W W' → DataW.Trod enc Tryz.prog W' 0 (fun b => decide (b < W.heap.size)) true 43 v1 d1 p1 :=
    fun W' hn => Below.trod Tryz.laidOut (by kernel_rfl) (of_decide_eq_true (by kernel_rfl)) h1 hn hlt1
  subst ev1
  refine (lawGDo_any u0 l0 k1 a1 b1 m1 W hl0).mono fun e W' ⟨he, hnx⟩ => ?_
  subst he
  exact ⟨_, rfl, _, _, _, [], p0 ++ (p1), [], hW', trodAll_mk1 (shut_bool Tryz.underlying4 _), trodAll_mk2 (hargs0 _ hnx) (hargs1 _ hnx), rfl, hnx.frame _, fun h => by cases h⟩

theorem gDo_holds : Rows.FnExactGraphDoSaid :=
  OpenClaim.holds_of_wide 4 Tryz.f4 rfl rfl rfl rfl rfl rfl rfl ⟨rfl, rfl, rfl, rfl, rfl⟩ rfl rfl rfl rfl rfl (by kernel_rfl) Tryz.func4 (by kernel_rfl)
    (of_decide_eq_true (by kernel_rfl)) (by unfold Func.isWrapper; first | (rw [if_pos (by decide +kernel)]; kernel_rfl) | (rw [if_neg (by decide +kernel)]; exact ⟨rfl, rfl⟩))
    (fun os started H enc _ => gDo_lifted os started H enc)
#print axioms gDo_holds

end Go.Proofs.YtkmhnjgncnoddaaGreat
